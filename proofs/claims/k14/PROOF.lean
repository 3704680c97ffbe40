import PyProof.Rows.All
import Wide.All
import OpenK.AllK
import Wide.FinOn
import PyProof.ReprRoads
import HandS.ForMost
import HandS.IsInst
import HandS.More
import HandS.DeepEq
import HandS.SetKeys
import HandS.Lambda
import HandS.TupAny
import HandS.TupMul
import HandS.Style
import HandS.Deep
import HandS.Wide
import HandS.ExcInit
import HandS.ExcIs
import HandS.ExcField
import HandS.RaiseMore
import HandS.EndBits
import HandS.Walk
import PyProof.FactsAll.dict_1
import PyProof.FactsAll.dict_2
import PyProof.NeKinds
import PyProof.FactsAll.subtypes_3
import PyProof.FactsAll.subtypes_4
import KE.KExcIs
import HandS.SetTxt0
import HandS.Set
import HandS.SetFor
import KE.KRevSl
import HandS.Codes
import PyProof.Rows.CountFlat
import HandS.TupSets
import KE.KStrOpen
import PyProof.ReprLen
import KE.GoesEnum
import HandS.Zip
import HandS.WideBits
import HandS.ForExc
import HandS.ListItems
import KE.KEqNest
import HandS.Head0
import HandS.Head1
import HandS.Head2
import HandS.HeadEnd
import HandS.HeadHook1
import HandS.HeadHook2
import HandS.HeadHook3
import HandS.HeadHook4
import HandS.EndTab
import PySem.Challenge.RW_fourfaces_k14_rows_put_otherwise
set_option Elab.async false
set_option linter.all false
set_option maxRecDepth 100000
set_option maxHeartbeats 2000000
/-! ## Promises that are kept where nothing is being shown (no repr is open), and where sys.modules stands -/
namespace Quiet
open PySem PySem.Spec PyProof.Rows L2

/-- nothing is being shown -/
abbrev Calm (A : Around) : Prop := A.guards = some []
/-- the base has what stands at sys.modules -/
def HasMods (base : Heap) : Prop := ∃ o, base.get? sysModules = some o

structure Keeps (P : Program) (w : World) (K : PySem.W.Frag) (mg : Str → Option Value) (base : Heap) (k : Nat) (f : Addr) (fd : FuncData) (ps : List Str) (sp : Sp) : Prop where
  many : ∀ vs H Q E, sp vs H Q E → vs.length = ps.length
  go : ∀ (A : Around) (outer : List Env) (s : Shared) (H : Hp) (args : Args) (us : List Value) (vs : List V) (Q : VK) (E : XK), Calm A → Room k A → Env0 P w K mg base A outer s H →
    BindsTo s fd args (ps.zip us) → Vals vs us → sp vs H Q E → codeAny (model P w) A (.call (.ref f) args) (CR CX0 outer P w H s Q E) s

theorem calm_deeper {A : Around} {env : Env} (h : Calm A) : Calm (A.deeper env) := by
  unfold Calm at *
  simp [Around.deeper, Around.under, pushGuards, Code.guards, Code.isGuard, h]

/-- a def of the text, by its body, where nothing is being shown -/
theorem keeps_of {P : Program} {w : World} {K : PySem.W.Frag} {mg : Str → Option Value} {base : Heap} {x qual : Str} {st : Stmt} {f : Addr} {fd : FuncData} {N ps : List Str} {k : Nat} {sp : Sp}
    (F : Fun K x qual st f fd) (S : FnScope N ps (defScope st)) (many : ∀ vs H Q E, sp vs H Q E → vs.length = ps.length)
    (body : ∀ (cdv : Value) (A : Around) (outer : List Env) (s : Shared) (H : Hp) (vs : List V) (Q : VK) (E : XK), Calm (A.deeper (envOfC qual (defScope st) s.heap.objs.size f cdv)) →
      Room k (A.deeper (envOfC qual (defScope st) s.heap.objs.size f cdv)) → sp vs H Q E →
      ∃ t, PSs (cxOf CX0 P w K mg base N qual (defScope st) f cdv A outer s H E).nox (defBody st) t ∧ t { nx := fun _ H' => Q .non H', rt := Q } (start N vs) H) :
    Keeps P w K mg base (k + 1) f fd ps sp := by
  obtain ⟨oc, od, kV, doc, pm, an, cdv, ct, osl, rfl, lk, hcd⟩ := F.ex
  refine ⟨many, ?_⟩
  intro A outer s H args us vs Q E hc hr e0 hb hv hs
  refine LamX.run_ofS lk hcd S hr e0 hb hv (many _ _ _ _ hs) ?_
  intro hr2
  obtain ⟨t, h1, h2⟩ := body cdv A outer s H vs Q E (calm_deeper hc) hr2 hs
  exact ⟨t, h1.nox, h2⟩
/-- a promise that is kept anywhere is kept there -/
theorem Keeps.ofAny {P : Program} {w : World} {K : PySem.W.Frag} {mg : Str → Option Value} {base : Heap} {k : Nat} {f : Addr} {fd : FuncData} {ps : List Str} {sp : Sp}
    (G : FnOk P w K mg base CX0 k f fd ps sp) : Keeps P w K mg base k f fd ps sp := ⟨G.len, fun A outer s H args us vs Q E _ hr e0 => G.run A outer s H args us vs Q E hr e0⟩

section
variable {X : Cx} {k : Nat} {f : Addr} {fd : FuncData} {ps : List Str} {sp : Sp} {x : Str} {p pos : Pos} {e : Expr} {es : List Expr} {t : TA}
/-- f(e, ..) of such a def -/
theorem pe_quiet (G : Keeps X.prog X.w X.K X.mg X.base k f fd ps sp) (hc : Calm X.A) (hr : Room k X.A) (hg : Gl X x) (hm : X.mg x = some (.ref f)) (hk : PySem.W.keepIn X.K (.ref f) = true) (hb : Binds X.K fd ps [])
    (ha : PA X (e :: es) t) (hdb : (x == ("__debug__" : Str)) = false := by decide) (he : starEach (e :: es) X.env = (false, eval e X.env) :: starEach es X.env := by rfl)
    (hpl : (backTo pos (starEach es X.env)).any (·.1) = false := by rfl) : PE X (.Call (.Name x p) (e :: es) [] pos) (tCall sp [] (fun _ _ _ => False) t) := by
  constructor
  intro pins s σ H Q I h
  apply wpAny_Call_Name_kw
  apply ld_glob I hg hm (hd := hdb)
  refine PySem.W.callWith_K (h₀ := X.base) I.ok.mod.kin hk ?_ he hpl
  refine thn (ha.run pos pins s σ H _ I h) ?_
  rintro us s1 ⟨vs, H1, I1, r, q⟩
  refine ⟨I1.kIn, ?_⟩
  have q0 : sp vs H1 Q (fun _ _ _ => False) := by simpa using q
  have hl : us.length = ps.length := by rw [← r.length]; exact G.many _ _ _ _ q0
  have bt : BindsTo s1 fd ⟨us, []⟩ (ps.zip us) := by
    have z := hb s1 us I1.kIn (by simpa using hl)
    simpa using z
  refine wpAny_call (codeAny_mono (G.go X.A X.stack s1 H1 ⟨us, []⟩ us vs Q _ hc hr I1.env0 bt r q0) ?_)
  intro res s2 hq
  match res, hq with
  | .ok (.ret u), hq => exact I1.after hq
end
end Quiet
set_option Elab.async false
set_option linter.all false
set_option maxRecDepth 100000
set_option maxHeartbeats 2000000
namespace Quiet
open PySem PySem.Spec PyProof.Rows L2

mutual
/-- the value v is the data d, laid out in objects that are tracked -/
inductive Is (H : Hp) : V → PyData → Prop
  | non : Is H .non .none
  | bl (b : Bool) : Is H (.bl b) (.bool b)
  | int (i : Int) : Is H (.int i) (.int i)
  | str (x : Str) : Is H (.str x) (.str x)
  | lst {a : Addr} {xs : List V} {ds : List PyData} : H a = some (.lst xs) → Are H xs ds → Is H (.ref a) (.list ds)
  | tup {a : Addr} {xs : List V} {ds : List PyData} : H a = some (.tup xs) → Are H xs ds → Is H (.ref a) (.tuple ds)
  | dic {a : Addr} {kvs : List (Key × V)} {ds : List (PyData × PyData)} : H a = some (.dK kvs) → AreKv H kvs ds → Is H (.ref a) (.dict ds)
inductive Are (H : Hp) : List V → List PyData → Prop
  | nil : Are H [] []
  | cons {v : V} {vs : List V} {d : PyData} {ds : List PyData} : Is H v d → Are H vs ds → Are H (v :: vs) (d :: ds)
inductive AreKv (H : Hp) : List (Key × V) → List (PyData × PyData) → Prop
  | nil : AreKv H [] []
  | cons {k : Str} {v : V} {r : List (Key × V)} {d : PyData} {ds : List (PyData × PyData)} : Is H v d → AreKv H r ds → AreKv H ((.inr k, v) :: r) ((.str k, d) :: ds)
end

section
variable {X : Cx} {pins : List (Addr × Obj)} {σ : L2.St} {H : Hp} {s : Shared}
theorem pairs_read {prog : Program} {w : World} : ∀ {es : List DictEntry} {vs : List (Key × Value)} {kvs : List (Key × V)} {ds : List (PyData × PyData)},
    Pairs (mixKind prog w) es vs → KV kvs vs → AreKv H kvs ds → (∃ as, ReadsAll s.heap (es.map (·.key)) (ds.map (·.1)) as ∧ as = []) ∧ Vals (kvs.map (·.2)) (es.map (·.val)) := by
  intro es
  induction es with
  | nil =>
    intro vs kvs ds hp hk ha
    cases hp
    cases hk
    cases ha
    exact ⟨⟨[], .nil, rfl⟩, .nil⟩
  | cons e es ih =>
    intro vs kvs ds hp hk ha
    cases hp with
    | cons q1 q2 h2 =>
      cases hk with
      | cons g1 g2 =>
        cases ha with
        | @cons kk vv rr dd ds' a1 a2 =>
          obtain ⟨⟨as, r1, r2⟩, r3⟩ := ih h2 g2 a2
          obtain ⟨e1, e2⟩ := g1
          have e1' : (Sum.inr kk : Key) = _ := e1
          rw [← e1'] at q1
          have q1' : keyIs (Sum.inr kk) e.key = true := q1
          rcases keyIs_shape q1' with ⟨i, t, z, _⟩ | ⟨y, t, z, hy⟩
          · exact nomatch z
          · obtain rfl : kk = y := Sum.inr.inj z
            refine ⟨⟨[], ?_, rfl⟩, .cons (show L2.RelV vv e.val from q2 ▸ e2) r3⟩
            show ReadsAll s.heap (e.key :: _) _ _
            rw [hy]
            have := ReadsAll.cons (Reads.str (h := s.heap) kk t) r1
            rw [r2] at this
            exact this

mutual
theorem Is.read (I : Inv X pins σ H s) : ∀ (d : PyData) (v : V) (u : Value), Is H v d → RelV v u → ∃ as, Reads s.heap u d as ∧ ∀ b ∈ as, ∃ o, H b = some o
  | .none, _, _, h, r => by
    cases h
    cases r
    exact ⟨_, Reads.none, by simp⟩
  | .bool b, _, _, h, r => by
    cases h
    cases r
    exact ⟨_, Reads.bool b, by simp⟩
  | .int i, _, _, h, r => by
    cases h
    obtain ⟨t, rfl⟩ := r
    exact ⟨_, Reads.int i t, by simp⟩
  | .str x, _, _, h, r => by
    cases h
    obtain ⟨t, rfl⟩ := r
    exact ⟨_, Reads.str x t, by simp⟩
  | .list ds, _, _, h, r => by
    cases h with
    | lst hs ha =>
      cases r
      obtain ⟨_, its, n, rv, e⟩ := I.hok _ _ hs
      obtain ⟨as, hr, hm⟩ := Are.read I ds _ its ha rv
      exact ⟨_, Reads.list e rfl rfl (by simpa using hr), fun b hb => by
        rcases List.mem_cons.mp hb with z | z
        · rw [z]; exact ⟨_, hs⟩
        · exact hm b z⟩
  | .tuple ds, _, _, h, r => by
    cases h with
    | tup hs ha =>
      cases r
      obtain ⟨_, its, rv, o, e, c, n, hd⟩ := I.hok _ _ hs
      obtain ⟨as, hr, hm⟩ := Are.read I ds _ its ha rv
      exact ⟨_, Reads.tuple e c hd (by simpa using hr), hm⟩
  | .dict ds, _, _, h, r => by
    cases h with
    | dic hs ha =>
      cases r
      obtain ⟨_, _, vs, kv, o, es, ep, e, c, hd, _, hp, _⟩ := I.hok _ _ hs
      obtain ⟨⟨as, q1, q2⟩, q3⟩ := pairs_read (s := s) hp kv ha
      obtain ⟨bs, hr, hm⟩ := AreKv.read I ds _ _ ha q3
      refine ⟨_, Reads.dict e c.1 hd q1 hr, fun b hb => ?_⟩
      rw [q2] at hb
      rcases List.mem_append.mp hb with z | z
      · obtain rfl := List.mem_singleton.mp z
        exact ⟨_, hs⟩
      · exact hm b z
theorem Are.read (I : Inv X pins σ H s) : ∀ (ds : List PyData) (vs : List V) (us : List Value), Are H vs ds → Vals vs us → ∃ as, ReadsAll s.heap us ds as ∧ ∀ b ∈ as, ∃ o, H b = some o
  | [], _, _, h, r => by
    cases h
    cases r
    exact ⟨_, ReadsAll.nil, by simp⟩
  | d :: ds, _, _, h, r => by
    cases h with
    | cons h1 h2 =>
      cases r with
      | cons r1 r2 =>
        obtain ⟨as, q1, m1⟩ := Is.read I d _ _ h1 r1
        obtain ⟨bs, q2, m2⟩ := Are.read I ds _ _ h2 r2
        exact ⟨_, ReadsAll.cons q1 q2, fun b hb => (List.mem_append.mp hb).elim (m1 b) (m2 b)⟩
theorem AreKv.read (I : Inv X pins σ H s) : ∀ (ds : List (PyData × PyData)) (kvs : List (Key × V)) (us : List Value), AreKv H kvs ds → Vals (kvs.map (·.2)) us → ∃ as, ReadsAll s.heap us (ds.map (·.2)) as ∧ ∀ b ∈ as, ∃ o, H b = some o
  | [], _, _, h, r => by
    cases h
    cases r
    exact ⟨_, ReadsAll.nil, by simp⟩
  | (k, d) :: ds, _, _, h, r => by
    cases h with
    | cons h1 h2 =>
      cases r with
      | cons r1 r2 =>
        obtain ⟨as, q1, m1⟩ := Is.read I d _ _ h1 r1
        obtain ⟨bs, q2, m2⟩ := AreKv.read I ds _ _ h2 r2
        exact ⟨_, ReadsAll.cons q1 q2, fun b hb => (List.mem_append.mp hb).elim (m1 b) (m2 b)⟩
end

/-- repr(x), x any data -/
def rShow : List V → Hp → VK → Prop := fun vs H Q => ∃ (v : V) (d : PyData), vs = [v] ∧ Is H v d ∧ d.showable = true ∧ d.depth ≤ 60 ∧ d.shown.length ≤ sizeLine ∧ Q (.str d.shown) H
theorem call_repr (hg : Calm X.A) (hm : HasMods X.base) (hu : X.A.units + 64 < cLine) : CallR X (.builtin "repr") rShow := by
  intro pins s σ H xs us Q I r h
  obtain ⟨v, d, rfl, hd, hs, hk, hz, q⟩ := h
  obtain ⟨u, rfl, ru⟩ := Vals.one r
  obtain ⟨as, hr, hmem⟩ := Is.read I d v u hd ru
  have nomod : sysModules ∉ as := fun z => by
    obtain ⟨o, ho⟩ := hmem _ z
    obtain ⟨ob, hb⟩ := hm
    have := (I.bs _ _ hb).2
    rw [ho] at this
    cases this
  cases hr with
  | none =>
    exact PySem.P.repr_of_none ⟨.str _, H, I.tok _, ⟨_, rfl⟩, by simpa only [PyData.shown] using q⟩
  | bool b =>
    refine PySem.P.repr_of_bool ⟨.str _, H, I.tok _, ⟨_, rfl⟩, ?_⟩
    simpa only [PyData.shown] using q
  | int i t =>
    have hi : i.natAbs.log2 < 1920 := by simpa [PyData.showable] using hs
    exact PySem.P.repr_of_int hi ⟨.str _, H, I.tok _, ⟨_, rfl⟩, by simpa only [PyData.shown] using q⟩
  | str x t =>
    exact PySem.P.repr_of_str ⟨.str _, H, I.tok _, ⟨_, rfl⟩, by simpa only [PyData.shown] using q⟩ (by simpa only [PyData.shown] using hz)
  | list h1 h2 h3 h4 =>
    exact repr_of_reads' (h₀ := s.heap) (Reads.list h1 h2 h3 h4) hs (fun _ => nomod) hg (by omega) (fun _ _ z => z) (fun h' t tk k => ⟨.str _, H, I.kept k, ⟨_, rfl⟩, q⟩) hz
  | tuple h1 h2 h3 h4 =>
    exact repr_of_reads' (h₀ := s.heap) (Reads.tuple h1 h2 h3 h4) hs (fun _ => nomod) hg (by omega) (fun _ _ z => z) (fun h' t tk k => ⟨.str _, H, I.kept k, ⟨_, rfl⟩, q⟩) hz
  | dict h1 h2 h3 h4 h5 =>
    exact repr_of_reads' (h₀ := s.heap) (Reads.dict h1 h2 h3 h4 h5) hs (fun _ => nomod) hg (by omega) (fun _ _ z => z) (fun h' t tk k => ⟨.str _, H, I.kept k, ⟨_, rfl⟩, q⟩) hz
end
end Quiet
set_option Elab.async false
set_option linter.all false
set_option maxRecDepth 100000
set_option maxHeartbeats 2000000
namespace Quiet
open PySem PySem.Spec PyProof.Rows L2

/-- what the call of the law is to leave behind -/
abbrev LawEnd (s₁ : Shared) (r : Result) (s' : Shared) : Prop := r = .ok (.ret (.bool true)) ∧ OldK s₁.heap s'.heap ∧ s'.os = s₁.os ∧ AllBare s'.gens

section
variable {P : Program} {w : World} {K : PySem.W.Frag} {mg mb : Str → Option Value} {k : Nat} {fa a : Addr} {fd : FuncData} {x : Str} {sp : Sp} {s₁ : Shared} {vs : List Value} {ns : List Int}

/-- from an abstract heap in which the script, at most, is known -/
theorem law_from (KX : K.In s₁.heap) (g0 : s₁.heap.Ns mainGlobals mg) (b0 : s₁.heap.Ns builtinsNs mb) (bb : ∀ y : Str, y ≠ "__name__" → mb y = bootBuiltins y) (lim : s₁.heap.NoLimit) (bare : s₁.gens = #[])
    (mods : ∃ mm, s₁.heap.Ns sysModules mm) (ha : s₁.heap.get? a = some { cls := .type "list", data := .seq vs.toArray }) (hr : Room k callerA)
    (F : ∀ base : Heap, K.In base → base.Ns mainGlobals mg → HasMods base → Keeps P w K mg base k fa fd [x] sp) (bind : ∀ (s : Shared) (u : Value), BindsTo s fd ⟨[u], []⟩ [(x, u)])
    (H : Hp) (only : ∀ b, H b = none ∨ (b = a ∧ ∃ o xs, H b = some (.frz o (.lst xs)))) (hok : HOk P w H s₁.heap) (hK : H a ≠ none → K.lookup a = none)
    (hsp : sp [.ref a] H (fun v _ => v = .bl true) fun _ _ _ => False) :
    codeAny (model P w) callerA (.call (.ref fa) ⟨[.ref a], []⟩) (LawEnd s₁) s₁ := by
  have untr : ∀ {b : Addr} {o : Obj} {es : Array DictEntry} {ep : Nat}, s₁.heap.get? b = some o → o.data = .dict es ep → H b = none := by
    intro b o es ep e d
    rcases only b with z | ⟨z, _⟩
    · exact z
    · rw [z, ha] at e
      cases e
      cases (show Data.seq vs.toArray _ = Data.dict es ep from d)
  have ns_of : ∀ {b : Addr} {m : Str → Option Value}, s₁.heap.Ns b m → (hidT s₁.heap H).Ns b m := by
    rintro b m ⟨o, es, ep, e, d, r⟩
    exact ⟨o, es, ep, hidT_get e (untr e d), d, r⟩
  have kb : K.In (hidT s₁.heap H) := by
    intro b o e
    refine hidT_get (KX b o e) ?_
    rcases only b with z | ⟨z, _⟩
    · exact z
    · cases q : H b with
      | none => rfl
      | some u =>
        have := hK (by rw [← z, q]; simp)
        rw [← z, e] at this
        cases this
  have hmods : HasMods (hidT s₁.heap H) := by
    obtain ⟨mm, hm⟩ := mods
    obtain ⟨o, _, _, e, _⟩ := ns_of hm
    exact ⟨o, e⟩
  have md : Mod K mg (hidT s₁.heap H) := ⟨kb, ns_of g0, ⟨mb, ns_of b0, bb⟩, by
    obtain ⟨mc, h1, h2⟩ := lim
    exact ⟨mc, ns_of h1, h2⟩⟩
  have e0 : Env0 P w K mg (hidT s₁.heap H) callerA [] s₁ H :=
    { frames := rfl, mod := md, bs := fun b o e => of_hidT e, bsz := Nat.le_of_eq (hidT_size _ _), funs := trivial, frf := (fun b hb => absurd (show b ∈ ([] : List Addr) from hb) (by simp)), hok := hok, bare := .of_eq bare }
  have run := (F _ kb (ns_of g0) hmods).go callerA [] s₁ H ⟨[.ref a], []⟩ [.ref a] [.ref a] _ _ rfl hr e0 (bind s₁ (.ref a)) (.cons rfl .nil) hsp
  refine codeAny_mono run ?_
  intro r s' h
  match r, h with
  | .ok (.ret u), h =>
    obtain ⟨v, H', os, br, un, hok', rv, hv⟩ := h
    cases (show v = .bl true from hv)
    cases (show u = Value.bool true from rv)
    refine ⟨rfl, OldK.of_keep ?_, os, br⟩
    intro b o e
    rcases only b with z | ⟨_, ob, xs, z⟩
    · exact un.keep b o e z (fun q => absurd (show b ∈ ([] : List Addr) from q) (by simp)) (by simp)
    · have z2 := un.frzs b ob _ z
      have e1 := (hok b _ z).1
      have e2 := (hok' b _ z2).1
      rw [e] at e1
      cases e1
      exact e2

/-- the law's call, where its def keeps its promise in quiet -/
theorem law_quiet (KX : K.In s₁.heap) (g0 : s₁.heap.Ns mainGlobals mg) (b0 : s₁.heap.Ns builtinsNs mb) (bb : ∀ y : Str, y ≠ "__name__" → mb y = bootBuiltins y) (lim : s₁.heap.NoLimit) (bare : s₁.gens = #[])
    (mods : ∃ mm, s₁.heap.Ns sysModules mm) (ha : s₁.heap.get? a = some { cls := .type "list", data := .seq vs.toArray }) (hi : IntsAre vs ns) (hl : ns.length ≤ sizeLine) (hr : Room k callerA)
    (F : ∀ base : Heap, K.In base → base.Ns mainGlobals mg → HasMods base → Keeps P w K mg base k fa fd [x] sp) (bind : ∀ (s : Shared) (u : Value), BindsTo s fd ⟨[u], []⟩ [(x, u)])
    (hsp : ∀ H : Hp, SqL K H a (ns.map V.int) → sp [.ref a] H (fun v _ => v = .bl true) fun _ _ _ => False) :
    codeAny (model P w) callerA (.call (.ref fa) ⟨[.ref a], []⟩) (LawEnd s₁) s₁ := by
  have rv := vals_ints hi
  have lenV := hi.length
  cases hk : K.lookup a with
  | some o =>
    have e := KX a o hk
    rw [ha] at e
    cases e
    refine law_from KX g0 b0 bb lim bare mods ha hr F bind (fun _ => none) (fun _ => .inl rfl) (fun b u z => by cases (show (none : Option HO) = some u from z)) (fun z => (z rfl).elim) (hsp _ (.inr ?_))
    exact ⟨_, vs.toArray, _, hk, rfl, rfl, rfl, by rw [List.size_toArray, lenV]; exact hl, by simpa using rv⟩
  | none =>
    have hS : (fun b => if b = a then some (HO.frz { cls := .type "list", data := .seq vs.toArray } (.lst (ns.map V.int))) else none : Hp) a = some (.frz { cls := .type "list", data := .seq vs.toArray } (.lst (ns.map V.int))) := if_pos rfl
    refine law_from KX g0 b0 bb lim bare mods ha hr F bind (fun b => if b = a then some (.frz { cls := .type "list", data := .seq vs.toArray } (.lst (ns.map V.int))) else none) ?_ ?_ (fun _ => hk) (hsp _ (.inl (.inr ⟨_, hS⟩)))
    · intro b
      by_cases hb : b = a
      · exact .inr ⟨hb, _, _, if_pos hb⟩
      · exact .inl (if_neg hb)
    · intro b u z
      by_cases hb : b = a
      · subst hb
        rw [show _ = _ from hS] at z
        cases z
        exact ⟨ha, by rw [List.length_map]; exact hl, vs, _, rv, ha⟩
      · cases (if_neg hb).symm.trans z
end

/-- what is left of the row's statement, once its head is done -/
theorem walk_quiet {l : PySem.W.OpenLaw} {n k : Nat} {q : Program} {loose : List Str} {XP : (Str → Option Value) → Heap → Prop} {YP : World → Heap → Prop} {d : DefRec} {K : Params → PySem.W.Frag} {sp : PySem.W.Frag → Sp} {x : Str}
    (hn : l.most = some n) (hn2 : n ≤ sizeLine) (hdf : d.params.defaults = []) (hr : Room k callerA) (hq : importsNone q = true) (hY : ∀ (w : World) (h : Heap), YP w h → (K w.params).In h)
    (F : ∀ (w : World) (mg : Str → Option Value) (fa : Addr) (h : Heap), (K w.params).In h → h.Ns mainGlobals mg → mg d.name = some (.ref fa) →
      ∃ fd : FuncData, (∀ (s : Shared) (u : Value), BindsTo s fd ⟨[u], []⟩ [(x, u)]) ∧
        ∀ base : Heap, (K w.params).In base → base.Ns mainGlobals mg → HasMods base → Keeps l.prog w (K w.params) mg base k fa fd [x] (sp (K w.params)))
    (hsp : ∀ (K : PySem.W.Frag) (H : Hp) (a : Addr) (ns : List Int), ns.length ≤ n → SqL K H a (ns.map V.int) → sp K [.ref a] H (fun v _ => v = .bl true) fun _ _ _ => False) :
    PySem.W.WalkO q loose XP YP l.row.toRowW d [] (fun f vs => PySem.call f vs) := by
  refine Att.attach_call hn hdf ?_
  intro w s₀ s₁ mg mb fa o pm cd doc a vs ns G Y ho hd hcd hmg hobj hints hlen hg
  have KX := hY w _ Y
  obtain ⟨fd, hb, hF⟩ := F w mg fa _ KX G.T.g hmg
  obtain ⟨mm, hm, _⟩ := (G.T.seer hq).mods
  exact law_quiet KX G.T.g G.T.b G.T.builtins G.T.nolimit hg ⟨mm, hm⟩ hobj hints (Nat.le_trans hlen hn2) hr hF hb fun H hS => hsp _ H a ns hlen hS
end Quiet
set_option Elab.async false
set_option linter.all false
set_option maxRecDepth 100000
set_option maxHeartbeats 2000000
namespace Quiet
open PySem PySem.Spec PyProof.Rows L2

theorem units_of {A : Around} {k : Nat} (hr : Room k A) : A.units + 64 < cLine := by have := hr.un; omega

/-! ### rules joined: which one it is, the reading says by the values -/
section
variable {X : Cx}
theorem op_or {f : Value → Value → Sem Value} {r r' : R2} (h : OpR X f r) (h' : OpR X f r') : OpR X f (fun x y H Q => r x y H Q ∨ r' x y H Q) := by
  intro pins s σ H x y v u Q I rx ry q
  rcases q with q | q
  · exact h pins s σ H x y v u Q I rx ry q
  · exact h' pins s σ H x y v u Q I rx ry q
theorem call_or {f : Value} {r r' : List V → Hp → VK → Prop} (h : CallR X f r) (h' : CallR X f r') : CallR X f (fun xs H Q => r xs H Q ∨ r' xs H Q) := by
  intro pins s σ H xs us Q I rx q
  rcases q with q | q
  · exact h pins s σ H xs us Q I rx q
  · exact h' pins s σ H xs us Q I rx q

/-- a + b: ints; texts; lists; tuples -/
def rAddS : R2 := fun x y H Q => ∃ i j, x = V.str i ∧ y = V.str j ∧ i.length + j.length ≤ sizeLine ∧ Q (V.str (i ++ j)) H
def rAddU (K : PySem.W.Frag) : R2 := fun x y H Q => rI0 (fun i j => V.int (i + j)) x y H Q ∨ (rAddS x y H Q ∨ (rCat x y H Q ∨ rCatA K x y H Q))
theorem op_addU : OpR X (binaryOp .Add) (rAddU X.K) := op_or op_add (op_or op_add_str (op_or op_cat op_catA))
/-- a * b: ints; list times int; tuple times int -/
def rMulU (K : PySem.W.Frag) : R2 := fun x y H Q => rI CMul (fun i j => V.int (i * j)) x y H Q ∨ (rRep x y H Q ∨ rRepT K x y H Q)
theorem op_mulU : OpR X (binaryOp .Mult) (rMulU X.K) := op_or op_mul (op_or op_rep op_repT)

/-- data compared by ==, no dict in them -/
def rEqIs : R2 := fun x y H Q => ∃ d e, Is H x d ∧ Is H y e ∧ d.canLay0 = true ∧ e.canLay0 = true ∧ (d.depth ≤ 60 ∨ e.depth ≤ 60) ∧ Q (.bl (PyData.eqv d e)) H
def rNeIs : R2 := fun x y H Q => ∃ d e, Is H x d ∧ Is H y e ∧ d.canLay0 = true ∧ e.canLay0 = true ∧ (d.depth ≤ 60 ∨ e.depth ≤ 60) ∧ Q (.bl (!PyData.eqv d e)) H
theorem op_eqIs (hu : X.A.units + 64 < cLine) : OpR X (compareOp .Eq) rEqIs := by
  intro pins s σ H x y v u Q I rx ry ⟨d, e, hd, he, c1, c2, hk, q⟩
  obtain ⟨as, r1, _⟩ := Is.read I d x v hd rx
  obtain ⟨bs, r2, _⟩ := Is.read I e y u he ry
  exact SeqAt.compareEq_reads r1 r2 c1 c2 (by omega) ⟨.bl _, H, I, rfl, q⟩
theorem op_neIs (hu : X.A.units + 64 < cLine) : OpR X (compareOp .NotEq) rNeIs := by
  intro pins s σ H x y v u Q I rx ry ⟨d, e, hd, he, c1, c2, hk, q⟩
  obtain ⟨as, r1, _⟩ := Is.read I d x v hd rx
  obtain ⟨bs, r2, _⟩ := Is.read I e y u he ry
  exact SeqAt.compareNe_reads r1 r2 c1 c2 (by omega) ⟨.bl _, H, I, rfl, q⟩
def rEqU (K : PySem.W.Frag) : R2 := fun x y H Q => rEq x y H Q ∨ (rEqIs x y H Q ∨ rEqV K x y H Q)
theorem op_eqU (hu : X.A.units + 64 < cLine) : OpR X (compareOp .Eq) (rEqU X.K) := op_or op_eq (op_or (op_eqIs hu) (op_eqV hu))
def rNeU : R2 := fun x y H Q => rNe x y H Q ∨ rNeIs x y H Q
theorem op_neU (hu : X.A.units + 64 < cLine) : OpR X (compareOp .NotEq) rNeU := op_or op_ne (op_neIs hu)
/-- a in b: a flat thing in a list or tuple of flat things; a text in a text -/
def rInS (neg : Bool) : R2 := fun x y H Q => ∃ i j, x = V.str i ∧ y = V.str j ∧ Q (V.bl (if neg then (Builtin.Str.occurrences j i 0 j.length 1).isEmpty else !(Builtin.Str.occurrences j i 0 j.length 1).isEmpty)) H
theorem op_inS : OpR X (compareOp .In) (rInS false) := op_in_str
theorem op_notInS : OpR X (compareOp .NotIn) (rInS true) := by
  intro pins s σ H x y v u Q I rx ry ⟨i, j, e1, e2, q⟩
  exact op_notIn_str pins s σ H x y v u Q I rx ry ⟨i, j, e1, e2, by simpa using q⟩
def rInU (K : PySem.W.Frag) : R2 := fun x y H Q => rIn K false x y H Q ∨ rInS false x y H Q
theorem op_inU : OpR X (compareOp .In) (rInU X.K) := op_or op_in_seq op_inS
def rNotInU (K : PySem.W.Frag) : R2 := fun x y H Q => rIn K true x y H Q ∨ rInS true x y H Q
theorem op_notInU : OpR X (compareOp .NotIn) (rNotInU X.K) := op_or op_notIn_seq op_notInS
/-- len -/
def rLenV (K : PySem.W.Frag) : List V → Hp → VK → Prop := fun xs H Q => ∃ x n, xs = [x] ∧ LenV K x H n ∧ Q (V.int ↑n) H
def rLenD : List V → Hp → VK → Prop := fun xs H Q => ∃ a kvs, xs = [V.ref a] ∧ H a = some (HO.dK kvs) ∧ Q (V.int (kvs.length : Nat)) H
theorem call_lenU : CallR X (.builtin "len") (fun xs H Q => rLenV X.K xs H Q ∨ rLenD xs H Q) := call_or call_len call_lenD
/-- isinstance, of one class, of several -/
theorem call_isiU : CallR X (.builtin "isinstance") (fun xs H Q => rIsi X.K xs H Q ∨ rIsiT X.K xs H Q) := call_or call_isi call_isiT
/-- slices: of a list, a tuple, a text -/
theorem sl_U : SlR X (fun x lo hi H Q => rSlL X.K x lo hi H Q ∨ (rSlA X.K x lo hi H Q ∨ rSlS x lo hi H Q)) := SlR.or sl_list (SlR.or sl_tupA sl_str)
/-- what a for walks: a list, a tuple -/
def iSeq (K : PySem.W.Frag) (tl : TE) : TI := fun σ H R => tl σ H fun x H1 => ∃ a, x = .ref a ∧ (((∃ xs, SqL K H1 a xs) ∧ R (Itl K a) H1) ∨ ((∃ xs, SqT K H1 a xs) ∧ R (Itt K a) H1))
theorem pi_seq {tg l : Expr} {tl : TE} (hl : PE X l tl) : PI X tg l (iSeq X.K tl) := by
  refine ⟨fun pins s σ H R I h => ?_⟩
  refine thn (hl.run pins s σ H _ I h) ?_
  rintro v s1 ⟨x, H1, I1, r1, a, e, q⟩
  have hv : PE X l (fun _ H Q => Q x H) → True := fun _ => trivial
  rcases q with ⟨hs, q⟩ | ⟨hs, q⟩
  · subst e
    obtain ⟨xs, hq⟩ := hs
    cases r1
    obtain ⟨its, rv, p, hz⟩ := I1.list hq
    refine wpAny_pyIter_list p.isList ?_
    refine ⟨s1.heap.objs.size, [s1.heap.objs.size], _, _, H1, rfl, I1.kept (t' := s1.toks) (fun b o e => Heap.get?_push_of_some _ e), turn_list a _, ⟨_, Heap.get?_push_size _ rfl, rfl, rfl⟩, ?_, q⟩
    intro b hb
    obtain rfl := List.mem_singleton.mp hb
    exact I1.fpOk (Nat.le_refl _) (I1.hok.fresh (Nat.le_refl _))
  · subst e
    obtain ⟨xs, hq⟩ := hs
    cases r1
    obtain ⟨its, rv, p, hz⟩ := I1.tuple hq
    refine wpAny_pyIter_tuple (show s1.heap.IsTuple a its.toArray from p) ?_
    refine ⟨s1.heap.objs.size, [s1.heap.objs.size], _, _, H1, rfl, I1.kept (t' := s1.toks) (fun b o e => Heap.get?_push_of_some _ e), turn_tuple a _, ⟨_, Heap.get?_push_size _ rfl, rfl, rfl⟩, ?_, q⟩
    intro b hb
    obtain rfl := List.mem_singleton.mp hb
    exact I1.fpOk (Nat.le_refl _) (I1.hok.fresh (Nat.le_refl _))
/-- xs[i] of a list that is tracked, for xs[i] op= e -/
theorem get_list : PGet X (fun o i H Q => ∃ p xs k v, o = V.ref p ∧ i = V.int k ∧ H p = some (.lst xs) ∧ 0 ≤ k ∧ k < 2 ^ 63 ∧ xs[k.toNat]? = some v ∧ Q v H) := by
  intro pins s σ H o i ov iv Q I ro ri ⟨p, xs, k, v, e1, e2, hp, h0, h1, hv, q⟩
  subst e1 e2
  cases ro
  obtain ⟨t, rfl⟩ := ri
  obtain ⟨its, r, pl, _⟩ := I.list (SqL.of hp)
  obtain ⟨u, hu, ru⟩ := r.get hv
  exact wpAny_getItem_list pl.isList h0 h1 (by simpa using hu) ⟨v, H, I, ru, q⟩
end
section
variable {X : Cx} (K : PySem.W.Frag) (hK : X.K = K)
include hK
theorem addK : OpR X (binaryOp .Add) (rAddU K) := hK ▸ op_addU
theorem mulK : OpR X (binaryOp .Mult) (rMulU K) := hK ▸ op_mulU
theorem eqK (hu : X.A.units + 64 < cLine) : OpR X (compareOp .Eq) (rEqU K) := hK ▸ op_eqU hu
theorem inK : OpR X (compareOp .In) (rInU K) := hK ▸ op_inU
theorem notInK : OpR X (compareOp .NotIn) (rNotInU K) := hK ▸ op_notInU
theorem lenK : CallR X (.builtin "len") (fun xs H Q => rLenV K xs H Q ∨ rLenD xs H Q) := hK ▸ call_lenU
theorem isiK : CallR X (.builtin "isinstance") (fun xs H Q => rIsi K xs H Q ∨ rIsiT K xs H Q) := hK ▸ call_isiU
theorem slK : SlR X (fun x lo hi H Q => rSlL K x lo hi H Q ∨ (rSlA K x lo hi H Q ∨ rSlS x lo hi H Q)) := hK ▸ sl_U
theorem ixK : IxR X (rIx K) := hK ▸ ix_seq
def rListOf : List V → Hp → VK → Prop := fun xs H Q => ∃ (p : Addr) (ys : List V), xs = [V.ref p] ∧ (SqL K H p ys ∨ SqT K H p ys) ∧ ∀ (l : Addr), H l = none → Q (V.ref l) (upd H l (HO.lst ys))
theorem listK : CallR X (.type "list") (rListOf K) := hK ▸ call_list_of
def rTupleOf : List V → Hp → VK → Prop := fun xs H Q => ∃ (p : Addr) (ys : List V), xs = [V.ref p] ∧ ((SqL K H p ys ∧ ∀ (l : Addr), H l = none → Q (V.ref l) (upd H l (HO.tup ys))) ∨ SqT K H p ys ∧ Q (V.ref p) H)
theorem tupleK : CallR X (.type "tuple") (rTupleOf K) := hK ▸ call_tuple_of
theorem allK (hc : X.calm = true) : CallR X (.builtin "all") (rAll K) := hK ▸ cr_all hc
theorem sumK (hc : X.calm = true) : CallR X (.builtin "sum") (rSum K) := hK ▸ cr_sum hc
theorem sortK : CallR X (.builtin "sorted") (rSortedS K) := hK ▸ cr_sortedS
theorem pi_seqK {tg l : Expr} {tl : TE} (hl : PE X l tl) : PI X tg l (iSeq K tl) := hK ▸ pi_seq hl
theorem pg_tupK {es : List Expr} {k : Nat} {t : TGs} {n : Nat} {pos : Pos} (hc : X.calm = true) (h : PGs X es t) (hn : (assignEach es X.env).length = n := by rfl) (hst : (assignEach es X.env).findIdx? (·.1) = none := by rfl) : PG X (.Tuple es k pos) (gTup K n t) := hK ▸ pg_tup hc h hn hst
end
end Quiet
set_option Elab.async false
set_option linter.all false
set_option maxRecDepth 100000
set_option maxHeartbeats 2000000
namespace Quiet
open PySem PySem.Spec PyProof.Rows L2

theorem same_upd {H : Hp} {a : Addr} {o : HO} (h : H a = none) : Same H (upd H a o) := fun b u e => by
  rw [upd_ne (ne_of_none e h)]
  exact e
/-- what is tracked stays, but for the object at D, which is new to H1 -/
theorem same_over {H1 H : Hp} {a : Addr} {o : HO} (h : H1 a = none) (s : Same H1 H) : Same H1 (upd H a o) := fun b u e => by
  rw [upd_ne (ne_of_none e h)]
  exact s b u e
theorem take_one {α : Type} : ∀ {l : List α} {i : Nat} {x : α}, l[i]? = some x → l.take (i + 1) = l.take i ++ [x]
  | [], _, _, h => by simp at h
  | a :: l, 0, x, h => by
    have e : a = x := Option.some.inj h
    subst e
    rfl
  | a :: l, i + 1, x, h => by
    have ih := take_one (l := l) (i := i) (x := x) h
    show a :: l.take (i + 1) = a :: l.take i ++ [x]
    rw [ih]
    rfl
mutual
theorem Is.same {H H' : Hp} (s : Same H H') : ∀ {d : PyData} {v : V}, Is H v d → Is H' v d
  | .none, _, h => by cases h; exact .non
  | .bool b, _, h => by cases h; exact .bl b
  | .int i, _, h => by cases h; exact .int i
  | .str x, _, h => by cases h; exact .str x
  | .list ds, _, h => by
    cases h with
    | lst e k => exact .lst (s _ _ e) (Are.same s k)
  | .tuple ds, _, h => by
    cases h with
    | tup e k => exact .tup (s _ _ e) (Are.same s k)
  | .dict ds, _, h => by
    cases h with
    | dic e k => exact .dic (s _ _ e) (AreKv.same s k)
theorem Are.same {H H' : Hp} (s : Same H H') : ∀ {ds : List PyData} {vs : List V}, Are H vs ds → Are H' vs ds
  | [], _, h => by cases h; exact .nil
  | d :: ds, _, h => by
    cases h with
    | cons a b => exact .cons (Is.same s a) (Are.same s b)
theorem AreKv.same {H H' : Hp} (s : Same H H') : ∀ {ds : List (PyData × PyData)} {kvs : List (Key × V)}, AreKv H kvs ds → AreKv H' kvs ds
  | [], _, h => by cases h; exact .nil
  | (k, d) :: ds, _, h => by
    cases h with
    | cons a b => exact .cons (Is.same s a) (AreKv.same s b)
end
theorem Are.length {H : Hp} : ∀ {ds : List PyData} {vs : List V}, Are H vs ds → vs.length = ds.length
  | [], _, h => by cases h; rfl
  | d :: ds, _, h => by
    cases h with
    | cons a b => simp only [List.length_cons, Are.length b]
theorem Are.get {H : Hp} : ∀ {ds : List PyData} {vs : List V} {i : Nat} {d : PyData}, Are H vs ds → ds[i]? = some d → ∃ v, vs[i]? = some v ∧ Is H v d
  | [], _, _, _, _, e => by simp at e
  | d :: ds, _, 0, _, h, e => by
    cases h with
    | cons a b =>
      simp at e
      subst e
      exact ⟨_, rfl, a⟩
  | d :: ds, _, i + 1, x, h, e => by
    cases h with
    | cons a b =>
      obtain ⟨v, h1, h2⟩ := Are.get (i := i) b (by simpa using e)
      exact ⟨v, by simpa using h1, h2⟩
theorem Are.at' {H : Hp} {ds : List PyData} {vs : List V} {i : Nat} {v : V} (h : Are H vs ds) (e : vs[i]? = some v) : ∃ d, ds[i]? = some d ∧ Is H v d := by
  have hl := h.length
  have hi : i < ds.length := by
    have := (List.getElem?_eq_some_iff.mp e).1
    omega
  obtain ⟨v', e', q⟩ := h.get (List.getElem?_eq_getElem hi)
  rw [e] at e'
  cases e'
  exact ⟨_, List.getElem?_eq_getElem hi, q⟩
theorem Are.append {H : Hp} : ∀ {ds : List PyData} {vs : List V} {es : List PyData} {ws : List V}, Are H vs ds → Are H ws es → Are H (vs ++ ws) (ds ++ es)
  | [], _, _, _, h, k => by cases h; exact k
  | d :: ds, _, _, _, h, k => by
    cases h with
    | cons a b => exact .cons a (Are.append b k)

/-- a comprehension over what is walked, whose elements (and tests) change nothing that is tracked -/
theorem comp_fm {α : Type} {J : It} {G : Hp → Prop} {Y : Nat → Hp → V → Hp → Prop} {g : TG} {tt : TT} {te : TE} {vs : List Nat} {σ : L2.St} {H1 : Hp} {D : Addr} {Qd : Hp → Prop} (ys : List α) (h : α → Option V)
    (w : Walk J ys.length G Y) (hD : H1 D = none) (hz : ys.length < sizeLine) (hG : ∀ H, Same H1 H → G H)
    (step : ∀ (i : Nat) (a : α) (x : V) (H H' : Hp) (R : Option V → Hp → Prop), ys[i]? = some a → Same H1 H → Y i H x H' → (∀ H4, Same H H4 → R (h a) H4) →
      g x (wipe σ vs) H' fun σ2 H2 => wipe σ2 vs = wipe σ vs ∧ tt σ2 H2 fun b H3 => if b = true then te σ2 H3 fun y H4 => R (some y) H4 else R none H3)
    (fin : ∀ H, Same H1 H → H D = some (.lst (ys.filterMap h)) → Qd H) :
    ∃ W : Nat → Nat → Hp → Prop, (∃ m, W 0 m (upd H1 D (.lst []))) ∧ ∀ i m H, W i m H → (J.stop i H ∧ Qd H) ∨ (J.go i H ∧ ∃ Nx : Hp → Prop, (∀ H', Nx H' → ∃ m', m' < m ∧ W (i + 1) m' H') ∧ ∀ x H', J.yld i H x H' →
      g x (wipe σ vs) H' fun σ2 H2 => wipe σ2 vs = wipe σ vs ∧ tt σ2 H2 fun b H3 => if b = true then te σ2 H3 fun y H4 => ∃ acc, H4 D = some (.lst acc) ∧ acc.length < sizeLine ∧ Nx (upd H4 D (.lst (acc ++ [y]))) else Nx H3) := by
  have cut : ∀ i, ((ys.take i).filterMap h).length ≤ ys.length := fun i => Nat.le_trans (List.length_filterMap_le _ _) (List.length_take_le' _ _)
  refine lc_it w (fun i H => Same H1 H ∧ H D = some (.lst ((ys.take i).filterMap h))) ⟨same_upd hD, by rw [upd_same]; rfl⟩ (fun i H _ p => hG H p.1) ?_ ?_
  · rintro i x H H' hi ⟨s1, hd⟩ hy
    have ha : ys[i]? = some ys[i] := List.getElem?_eq_getElem hi
    have step' := step i ys[i] x H H' (fun o H4 => match o with
      | some y => ∃ acc, H4 D = some (.lst acc) ∧ acc.length < sizeLine ∧ (Same H1 (upd H4 D (.lst (acc ++ [y]))) ∧ upd H4 D (.lst (acc ++ [y])) D = some (.lst ((ys.take (i + 1)).filterMap h)))
      | none => Same H1 H4 ∧ H4 D = some (.lst ((ys.take (i + 1)).filterMap h))) ha s1 hy ?_
    · exact step'
    · intro H4 s4
      have e4 := s4 D _ hd
      rw [take_one ha, List.filterMap_append]
      cases q : h ys[i] with
      | some y =>
        refine ⟨_, e4, Nat.lt_of_le_of_lt (cut i) hz, same_over hD (s1.trans s4), ?_⟩
        rw [upd_same]
        simp [q]
      | none =>
        refine ⟨s1.trans s4, ?_⟩
        rw [e4]
        simp [q]
  · rintro H ⟨s1, hd⟩
    rw [List.take_length] at hd
    exact fin H s1 hd

/-- .. without a test -/
theorem comp_map {α : Type} {J : It} {G : Hp → Prop} {Y : Nat → Hp → V → Hp → Prop} {g : TG} {te : TE} {vs : List Nat} {σ : L2.St} {H1 : Hp} {D : Addr} {Qd : Hp → Prop} (ys : List α) (h : α → V)
    (w : Walk J ys.length G Y) (hD : H1 D = none) (hz : ys.length < sizeLine) (hG : ∀ H, Same H1 H → G H)
    (step : ∀ (i : Nat) (a : α) (x : V) (H H' : Hp) (R : V → Hp → Prop), ys[i]? = some a → Same H1 H → Y i H x H' → (∀ H4, Same H H4 → R (h a) H4) →
      g x (wipe σ vs) H' fun σ2 H2 => wipe σ2 vs = wipe σ vs ∧ te σ2 H2 R)
    (fin : ∀ H, Same H1 H → H D = some (.lst (ys.map h)) → Qd H) :
    ∃ W : Nat → Nat → Hp → Prop, (∃ m, W 0 m (upd H1 D (.lst []))) ∧ ∀ i m H, W i m H → (J.stop i H ∧ Qd H) ∨ (J.go i H ∧ ∃ Nx : Hp → Prop, (∀ H', Nx H' → ∃ m', m' < m ∧ W (i + 1) m' H') ∧ ∀ x H', J.yld i H x H' →
      g x (wipe σ vs) H' fun σ2 H2 => wipe σ2 vs = wipe σ vs ∧ tYes σ2 H2 fun b H3 => if b = true then te σ2 H3 fun y H4 => ∃ acc, H4 D = some (.lst acc) ∧ acc.length < sizeLine ∧ Nx (upd H4 D (.lst (acc ++ [y]))) else Nx H3) := by
  refine lc_it w (fun i H => Same H1 H ∧ H D = some (.lst ((ys.take i).map h))) ⟨same_upd hD, by rw [upd_same]; rfl⟩ (fun i H _ p => hG H p.1) ?_ ?_
  · rintro i x H H' hi ⟨s1, hd⟩ hy
    have ha : ys[i]? = some ys[i] := List.getElem?_eq_getElem hi
    refine step i ys[i] x H H' (fun y H4 => ∃ acc, H4 D = some (.lst acc) ∧ acc.length < sizeLine ∧ (Same H1 (upd H4 D (.lst (acc ++ [y]))) ∧ upd H4 D (.lst (acc ++ [y])) D = some (.lst ((ys.take (i + 1)).map h)))) ha s1 hy ?_
    intro H4 s4
    refine ⟨_, s4 D _ hd, ?_, same_over hD (s1.trans s4), ?_⟩
    · rw [List.length_map]
      exact Nat.lt_of_le_of_lt (List.length_take_le' _ _) hz
    · rw [upd_same, take_one ha, List.map_append]
      rfl
  · rintro H ⟨s1, hd⟩
    rw [List.take_length] at hd
    exact fin H s1 hd
end Quiet
set_option Elab.async false
set_option linter.all false
set_option maxRecDepth 100000
set_option maxHeartbeats 2000000
namespace Quiet
open PySem PySem.Spec PyProof.Rows L2 PySem.SeqAt Sem

theorem sub_sd : isSubtype (.type "str") (.type "dict") = pure false := F.sub_str_dict
theorem sub_ds : isSubtype (.type "dict") (.type "str") = pure false := F.sub_dict_str
abbrev dob (es : Array DictEntry) (ep : Nat) : Obj := { cls := .type "dict", dict := none, data := .dict es ep, slots := #[] }
theorem dict_eq_no (l : Addr) (es : Array DictEntry) (ep : Nat) (b : Str) (u : Tok) :
    Meets (Builtin.«dict.__eq__» ⟨[.ref l, .str b u], []⟩) (fun _ R s => s.heap.get? l = some (dob es ep) ∧ R (.ok (.ret .notImplemented)) s) :=
  .of_wp fun prog w A R s h => by
    obtain ⟨hp, g, d, tk, os⟩ := s
    obtain ⟨hl, h⟩ := h
    have f1 := sub_sd
    wp_walk using wpAny_loadPart' hl, wpAny_load hl
    refine wpAny_of_eq sub_sd ?_
    wp_walk using wpAny_loadPart' hl, wpAny_load hl
    exact ⟨_, rfl, h⟩
theorem dict_ne_no (l : Addr) (es : Array DictEntry) (ep : Nat) (b : Str) (u : Tok) :
    Meets (Builtin.«dict.__ne__» ⟨[.ref l, .str b u], []⟩) (fun _ R s => s.heap.get? l = some (dob es ep) ∧ R (.ok (.ret .notImplemented)) s) :=
  .of_wp fun prog w A R s h => by
    obtain ⟨hp, g, d, tk, os⟩ := s
    obtain ⟨hl, h⟩ := h
    have f1 := sub_sd
    wp_walk using wpAny_loadPart' hl, wpAny_load hl
    refine wpAny_of_eq sub_sd ?_
    wp_walk using wpAny_loadPart' hl, wpAny_load hl
    exact ⟨_, rfl, h⟩
theorem str_eq_no (l : Addr) (es : Array DictEntry) (ep : Nat) (b : Str) (u : Tok) :
    Meets (Builtin.«str.__eq__» ⟨[.str b u, .ref l], []⟩) (fun _ R s => s.heap.get? l = some (dob es ep) ∧ R (.ok (.ret .notImplemented)) s) :=
  .of_wp fun prog w A R s h => by
    obtain ⟨hp, g, d, tk, os⟩ := s
    obtain ⟨hl, h⟩ := h
    have f1 := sub_ds
    wp_walk using wpAny_loadPart' hl, wpAny_load hl
    exact ⟨_, rfl, h⟩
theorem str_ne_no (l : Addr) (es : Array DictEntry) (ep : Nat) (b : Str) (u : Tok) :
    Meets (Builtin.«str.__ne__» ⟨[.str b u, .ref l], []⟩) (fun _ R s => s.heap.get? l = some (dob es ep) ∧ R (.ok (.ret .notImplemented)) s) :=
  .of_wp fun prog w A R s h => by
    obtain ⟨hp, g, d, tk, os⟩ := s
    obtain ⟨hl, h⟩ := h
    have f1 := sub_ds
    wp_walk using wpAny_loadPart' hl, wpAny_load hl
    exact ⟨_, rfl, h⟩
section
variable {A : Around} {s : Shared}
theorem rc_dict_str {l : Addr} {es : Array DictEntry} {ep : Nat} (b : Str) (u : Tok) (ho : s.heap.get? l = some (dob es ep)) (hu : A.units < cLine) : RcAt A s (.ref l) (.str b u) false := fun prog w E Q h => by
  exact rc_eq_decline_or (k := false) ⟨_, ho, rfl⟩ (typeIs_str s b u) (by decide) sub_sd F.slot_dict_eq F.slot_str_eq_refl
    (fun _ hq => call_meets F.slot_dict_eq ⟨_, ho, rfl⟩ F.entry_dict_eq (F.args_dict_eq_2 _ _) (dict_eq_no l es ep b u) ⟨ho, hq⟩)
    (fun _ hq => call_meets F.slot_str_eq_refl (typeIs_str s b u) F.entry_str_eq (F.args_str_eq_2 _ _) (str_eq_no l es ep b u) ⟨ho, hq⟩)
    (fun _ hq => wpAny_of_eq (rfl : isSame (.ref l) (.str b u) = pure false) hq) (.inr hu) h
theorem rcne_dict_str {l : Addr} {es : Array DictEntry} {ep : Nat} (b : Str) (u : Tok) (ho : s.heap.get? l = some (dob es ep)) (hu : A.units < cLine) : RcNeAt A s (.ref l) (.str b u) true := fun prog w E Q h => by
  exact rc_ne_decline_or (k := false) ⟨_, ho, rfl⟩ (typeIs_str s b u) (by decide) sub_sd F.slot_dict_ne F.slot_str_ne_refl
    (fun _ hq => call_meets F.slot_dict_ne ⟨_, ho, rfl⟩ F.entry_dict_ne (F.args_dict_ne_2 _ _) (dict_ne_no l es ep b u) ⟨ho, hq⟩)
    (fun _ hq => call_meets F.slot_str_ne_refl (typeIs_str s b u) F.entry_str_ne (F.args_str_ne_2 _ _) (str_ne_no l es ep b u) ⟨ho, hq⟩)
    (fun _ hq => wpAny_of_eq (rfl : isSame (.ref l) (.str b u) = pure false) hq) (.inr hu) h
end
/-- is the data this text? -/
def isText (t : Str) : PyData → Bool | .str x => x == t | _ => false
def rEqT : R2 := fun x y H Q => ∃ d t, Is H x d ∧ y = .str t ∧ Q (.bl (isText t d)) H
def rNeT : R2 := fun x y H Q => ∃ d t, Is H x d ∧ y = .str t ∧ Q (.bl (!isText t d)) H
section
variable {X : Cx}
theorem dict_obj {pins : List (Addr × Obj)} {σ : L2.St} {H : Hp} {s : Shared} {a : Addr} {kvs : List (Key × V)} (I : L2.Inv X pins σ H s) (h : H a = some (.dK kvs)) : ∃ es ep, s.heap.get? a = some (dob es ep) := by
  obtain ⟨_, _, vs, _, o, es, ep, e, c, hd, _⟩ := I.hok _ _ h
  obtain ⟨oc, od, oda, osl⟩ := o
  obtain ⟨h1, h2, h3⟩ := c
  dsimp only at h1 h2 h3 hd
  subst h1 h2 h3 hd
  exact ⟨es, ep, e⟩
theorem op_eqT (hu : X.A.units + 64 < cLine) : OpR X (compareOp .Eq) rEqT := by
  intro pins s σ H x y v u Q I rx ry ⟨d, t, hd, e, q⟩
  subst e
  obtain ⟨tk, rfl⟩ := ry
  have hu' : X.A.units < cLine := by omega
  have fin : ∀ b, isText t d = b → EP X pins σ Q (.bool b) s := fun b eb => ⟨.bl b, H, I, rfl, by rw [← eb]; exact q⟩
  cases hd with
  | non => cases rx; exact RcAt.none_str t tk _ _ _ _ (fin _ rfl)
  | bl b => cases rx; exact RcAt.bool_str b t tk _ _ _ _ (fin _ rfl)
  | int i => obtain ⟨t1, rfl⟩ := rx; exact RcAt.int_str i t1 t tk _ _ _ _ (fin _ rfl)
  | str z => obtain ⟨t1, rfl⟩ := rx; exact RcAt.str_str z t1 t tk _ _ _ _ (fin _ rfl)
  | lst h1 h2 =>
    cases rx
    obtain ⟨_, its, n, rv, ho⟩ := I.hok _ _ h1
    exact RcAt.list_str (items := its.toArray) t tk ⟨_, ho, rfl, n, rfl⟩ hu' _ _ _ _ (fin _ rfl)
  | tup h1 h2 =>
    cases rx
    obtain ⟨_, its, rv, o, ho, c, n, hd⟩ := I.hok _ _ h1
    exact RcAt.tuple_str (items := its.toArray) t tk ⟨o, ho, c, n, hd⟩ hu' _ _ _ _ (fin _ rfl)
  | dic h1 h2 =>
    cases rx
    obtain ⟨es, ep, ho⟩ := dict_obj I h1
    exact rc_dict_str t tk ho hu' _ _ _ _ (fin _ rfl)
theorem op_neT (hu : X.A.units + 64 < cLine) : OpR X (compareOp .NotEq) rNeT := by
  intro pins s σ H x y v u Q I rx ry ⟨d, t, hd, e, q⟩
  subst e
  obtain ⟨tk, rfl⟩ := ry
  have hu' : X.A.units < cLine := by omega
  have fin : ∀ b, (!isText t d) = b → EP X pins σ Q (.bool b) s := fun b eb => ⟨.bl b, H, I, rfl, by rw [← eb]; exact q⟩
  cases hd with
  | non => cases rx; exact RcNeAt.none_str t tk _ _ _ _ (fin _ rfl)
  | bl b => cases rx; exact RcNeAt.bool_str b t tk _ _ _ _ (fin _ rfl)
  | int i => obtain ⟨t1, rfl⟩ := rx; exact RcNeAt.int_str i t1 t tk _ _ _ _ (fin _ rfl)
  | str z => obtain ⟨t1, rfl⟩ := rx; exact RcNeAt.str_str z t1 t tk _ _ _ _ (fin _ rfl)
  | lst h1 h2 =>
    cases rx
    obtain ⟨_, its, n, rv, ho⟩ := I.hok _ _ h1
    exact RcNeAt.list_str (items := its.toArray) t tk ⟨_, ho, rfl, n, rfl⟩ hu' _ _ _ _ (fin _ rfl)
  | tup h1 h2 =>
    cases rx
    obtain ⟨_, its, rv, o, ho, c, n, hd⟩ := I.hok _ _ h1
    exact RcNeAt.tuple_str (items := its.toArray) t tk ⟨o, ho, c, n, hd⟩ hu' _ _ _ _ (fin _ rfl)
  | dic h1 h2 =>
    cases rx
    obtain ⟨es, ep, ho⟩ := dict_obj I h1
    exact rcne_dict_str t tk ho hu' _ _ _ _ (fin _ rfl)
end
end Quiet
set_option Elab.async false
set_option linter.all false
set_option maxRecDepth 100000
set_option maxHeartbeats 2000000
namespace Quiet
open PySem PySem.Spec PyProof.Rows L2

/-! ### exceptions as values -/
/-- an exception of the class at C, its fields -/
def Xc (H : Hp) (a C : Addr) (fs : List (Str × V)) : Prop := (fs = [] ∧ H a = some (exo a C none)) ∨ ∃ dx, H a = some (exo a C (some dx)) ∧ H dx = some (exd dx fs)
theorem Xc.same {H H' : Hp} {a C : Addr} {fs : List (Str × V)} (s : Same H H') (x : Xc H a C fs) : Xc H' a C fs := by
  rcases x with ⟨e, h⟩ | ⟨dx, h1, h2⟩
  · exact .inl ⟨e, s _ _ h⟩
  · exact .inr ⟨dx, s _ _ h1, s _ _ h2⟩
section
variable {X : Cx} {pins : List (Addr × Obj)} {σ : L2.St} {H : Hp} {s : Shared}
theorem Xc.inst {a C : Addr} {fs : List (Str × V)} (I : Inv X pins σ H s) (x : Xc H a C fs) : ∃ ox od, PySem.W.InstAt s.heap a ox C od := by
  rcases x with ⟨_, h⟩ | ⟨dx, h, h2⟩
  · obtain ⟨t1, ho⟩ := exo_at I.hok h
    exact ⟨_, none, ho, rfl, rfl, trivial⟩
  · obtain ⟨t1, ho⟩ := exo_at I.hok h
    obtain ⟨mA, hns, _⟩ := exd_at I.hok h2
    obtain ⟨od, hod, _⟩ := lookIn_ns hns
    exact ⟨_, some od, ho, rfl, rfl, hod⟩
end
/-- isinstance of it -/
def rIsX (K : PySem.W.Frag) : List V → Hp → VK → Prop := fun xs H Q => ∃ (a C : Addr) (fs : List (Str × V)) (c : V) (cv : Value) (b : Bool), xs = [.ref a, c] ∧ Xc H a C fs ∧ ExcC K C ∧ (∀ u, RelV c u → u = cv) ∧ PySem.W.kitOne K (.ref C) cv = some b ∧ Q (.bl b) H
section
variable {X : Cx}
theorem call_isX : CallR X (.builtin "isinstance") (rIsX X.K) := by
  intro pins s σ H xs us Q I r h
  obtain ⟨a, C, fs, c, cv, b, rfl, hx, T, hcv, e, q⟩ := h
  cases r with
  | cons rx rr =>
    cases rr with
    | cons rt rr =>
      cases rr
      cases rx
      have ec := hcv _ rt
      subst ec
      obtain ⟨ox, od, J⟩ := hx.inst I
      obtain ⟨cd, hcl, _⟩ := PySem.W.any_some T.hd
      exact PySem.W.kia_one (PySem.W.kitx_exc (by rw [hcl]; rfl) T.hg T.hk T.hs T.ha T.hn T.ht T.hm) I.kIn J e (fun z => nomatch z) fun tk => ⟨.bl b, H, I.kept (t' := tk) fun _ _ z => z, rfl, q⟩
/-- e.f, a field that its own __init__ has set -/
def tXv (K : PySem.W.Frag) (f : Str) (te : TE) : TE := fun σ H Q => te σ H fun x H1 => ∃ (a C dx : Addr) (fs : List (Str × V)) (v : V), x = .ref a ∧ H1 a = some (exo a C (some dx)) ∧ H1 dx = some (exd dx fs) ∧ XfC K C ∧ PySem.W.findIn K (.ref C) f = some none ∧ fs.lookup f = some v ∧ Q v H1
theorem pe_xv {e : Expr} {te : TE} {pos : Pos} {n : Str} (he : PE X e te) (hb : attributeBase e n X.env (eval e X.env) = eval e X.env := by rfl) : PE X (.Attribute e n pos) (tXv X.K n te) := by
  refine ⟨fun pins s σ H Q I h => ?_⟩
  refine attr_of hb (thn (he.run pins s σ H _ I h) fun u s1 ⟨x, H1, I1, rx, a, C, dx, fs, v, ex, h1, h2, T, hno, l, q⟩ => ?_)
  subst ex
  obtain rfl : u = Value.ref a := rx
  obtain ⟨t1, ho⟩ := exo_at I1.hok h1
  obtain ⟨mA, hns, hr⟩ := exd_at I1.hok h2
  obtain ⟨od, hod, hl⟩ := lookIn_ns hns
  obtain ⟨u, hu, ru⟩ := RelO.some_of (v := v) (o := mA n) (by rw [← l]; exact hr n)
  have J : PySem.W.InstAt s1.heap a _ C (some od) := ⟨ho, rfl, rfl, hod⟩
  exact HandSPX.exc_get I1.kIn J T.ga T.gg T.exC (PySem.W.findObj_own T.hdC hno rfl (by rw [hl, hu])) (handed_of ru) ⟨v, H1, I1.tok _, ru, q⟩
/-- C(e, ..) as a value, C's own __init__ keeping sp -/
def tMkV (C : Addr) (sp : Sp) (ta : TA) : TE := fun σ H Q => ta σ H fun vs H1 => vs.length ≤ 1000 ∧ ∀ a, H1 a = none → sp (.ref a :: vs) (upd H1 a (exo a C none)) (fun v H2 => v = .non ∧ Q (.ref a) H2) (fun _ _ _ => False)
variable {CX : CXT} {x : Str} {C fI : Addr} {k : Nat} {fd : FuncData} {ps : List Str} {sp : Sp} {p pos : Pos} {e : Expr} {es : List Expr} {ta : TA}
theorem mk_run {pins : List (Addr × Obj)} {σ : L2.St} {H1 : Hp} {s1 : Shared} {us : List Value} {vs : List V} {Q : VK} (T : OexC X.K C) (iC : PySem.W.findIn X.K (.ref C) "__init__" = some (some (.ref fI))) (tI : PySem.W.typeIn X.K (.ref fI) = some (.type "function"))
    (F1 : FnOk X.prog X.w X.K X.mg X.base CX k fI fd ps sp) (hr : Room (k + 1) X.A) (hb : Binds X.K fd ps []) (hx : Passes CX X (fun _ _ _ => False)) (I1 : Inv X pins σ H1 s1) (r1 : Vals vs us) (hz : vs.length ≤ 1000)
    (q1 : ∀ a, H1 a = none → sp (.ref a :: vs) (upd H1 a (exo a C none)) (fun v H2 => v = .non ∧ Q (.ref a) H2) (fun _ _ _ => False)) :
    wpAny (model X.prog X.w) X.A (call (.ref C) us) (EP X pins σ Q) X.xe s1 := by
  obtain ⟨nm, q, N, bs, bm, sn, sub, ab, col, dd, k0, k1, k2, k3, k5, hC, hbm⟩ := T.cls
  obtain ⟨hp, g, dr, tk, os⟩ := s1
  have up : hp.objs.size ≤ hp.objs.size + 1 := Nat.le_succ _
  have free : H1 (hp.objs.size + 1) = none := I1.hok.fresh up
  have hq := q1 (hp.objs.size + 1) free
  have old : ∀ b o, hp.get? b = some o → ((hp.push (PySem.W.kdv_tup us)).push (PySem.HandSPX.excO C hp.objs.size)).get? b = some o := fun b o e => Heap.get?_push_of_some _ (Heap.get?_push_of_some _ e)
  have new : ((hp.push (PySem.W.kdv_tup us)).push (PySem.HandSPX.excO C hp.objs.size)).get? (hp.objs.size + 1) = some (PySem.HandSPX.excO C hp.objs.size) := by heap_get
  have I2 : Inv X pins σ (upd H1 (hp.objs.size + 1) (exo (hp.objs.size + 1) C none)) ⟨(hp.push (PySem.W.kdv_tup us)).push (PySem.HandSPX.excO C hp.objs.size), g, dr, tk, os⟩ :=
    I1.laid (t' := tk) (a := hp.objs.size + 1) (o := exo (hp.objs.size + 1) C none) old up (exo_ok new)
  have r2 : Vals (V.ref (hp.objs.size + 1) :: vs) (Value.ref (hp.objs.size + 1) :: us) := .cons rfl r1
  have len : (Value.ref (hp.objs.size + 1) :: us).length = ps.length := by
    have e := r2.length
    rw [F1.len _ _ _ _ hq] at e
    exact e.symm
  have lus : us.length ≤ sizeLine := by
    rw [← Paired.length r1, sizeLine_eq]
    omega
  refine wpAny_call (PySem.HandSPX.call_own F.excBase_ValueError (fun Y => PySem.HandSPX.refsVE_contains Y bm hbm) (I1.kIn _ _ hC) (PySem.W.looks_findIn I1.kIn iC) (fun self => PySem.W.bind_fn I1.kIn self tI) lus
    (codeAny_mono (F1.run _ X.stack _ _ ⟨Value.ref (hp.objs.size + 1) :: us, []⟩ (Value.ref (hp.objs.size + 1) :: us) _ _ (fun _ _ _ => False) (hr.make C us []) (I2.env0.make C us []) (by
      have z := hb _ (Value.ref (hp.objs.size + 1) :: us) I2.kIn (by simpa using len)
      simpa using z) r2 hq) fun r s' hq' => ?_))
  match r, hq' with
  | .error er, hq' => exact hx pins σ _ _ er s' I2 hq'
  | .ok (.ret u), hq' =>
    obtain ⟨v, H2, os2, bare2, un2, hok2, rv, ev, q2⟩ := hq'
    subst ev
    exact ⟨rv, .ref (hp.objs.size + 1), H2, I2.call' (ch := []) os2 un2 hok2 bare2 (fun b z => absurd z (by simp)), rfl, q2⟩
theorem pe_mkV (T : OexC X.K C) (iC : PySem.W.findIn X.K (.ref C) "__init__" = some (some (.ref fI))) (tI : PySem.W.typeIn X.K (.ref fI) = some (.type "function"))
    (F1 : FnOk X.prog X.w X.K X.mg X.base CX k fI fd ps sp) (hr : Room (k + 1) X.A) (hb : Binds X.K fd ps []) (hx : Passes CX X (fun _ _ _ => False)) (hg : Gl X x) (hm : X.mg x = some (.ref C)) (ha : PA X (e :: es) ta)
    (hdb : (x == ("__debug__" : Str)) = false := by decide) (he : starEach (e :: es) X.env = (false, eval e X.env) :: starEach es X.env := by rfl) (hpl : (backTo pos (starEach es X.env)).any (·.1) = false := by rfl) :
    PE X (.Call (.Name x p) (e :: es) [] pos) (tMkV C sp ta) := by
  refine ⟨fun pins s σ H Q I h => ?_⟩
  refine wpAny_Call_Name_kw (ld_glob I hg hm ?_ hdb)
  exact PySem.W.callWith_K (h₀ := X.base) I.ok.mod.kin T.kC (thn (ha.run pos pins s σ H _ I h) fun us s1 ⟨vs, H1, I1, r1, hz, q1⟩ => ⟨I1.kIn, mk_run T iC tI F1 hr hb hx I1 r1 hz q1⟩) he hpl
theorem pe_mkV0 (T : OexC X.K C) (iC : PySem.W.findIn X.K (.ref C) "__init__" = some (some (.ref fI))) (tI : PySem.W.typeIn X.K (.ref fI) = some (.type "function"))
    (F1 : FnOk X.prog X.w X.K X.mg X.base CX k fI fd ps sp) (hr : Room (k + 1) X.A) (hb : Binds X.K fd ps []) (hx : Passes CX X (fun _ _ _ => False)) (hg : Gl X x) (hm : X.mg x = some (.ref C))
    (hdb : (x == ("__debug__" : Str)) = false := by decide) : PE X (.Call (.Name x p) [] [] pos) (tMkV C sp tNil) := by
  refine ⟨fun pins s σ H Q I h => ?_⟩
  refine wpAny_Call_Name_kw (ld_glob I hg hm ?_ hdb)
  obtain ⟨hz, q1⟩ := h
  exact PySem.W.callWith_K0 I.kIn T.kC (mk_run (us := []) T iC tI F1 hr hb hx I .nil hz q1)
end
end Quiet
set_option Elab.async false
set_option linter.all false
set_option maxRecDepth 100000
set_option maxHeartbeats 4000000
namespace Quiet
open PySem PySem.Spec PyProof.Rows L2 PySem.Froz

/-! ### sets of texts -/
/-- by which the payload can be walked -/
structure Wk (w : World) (D : SD) : Prop where
  ris : Ris D.2.2.place.toList
  led : w.params.followText "set-order" = true ∨ D.2.2.led = true
/-- the set of the texts l stands at a -/
def TxSet (P : Program) (w : World) (h : Heap) (a : Addr) (l : List Str) : Prop := ∃ D : SD, h.get? a = some (sObj "set" D) ∧ TxOk P w D l ∧ l.Nodup ∧ Wk w D
section
variable {P : Program} {w : World} {A : Around} {E : Value → Shared → Prop} {s : Shared}
theorem TxSet.on {h h' : Heap} {a : Addr} {l : List Str} (S : TxSet P w h a l) (k : ∀ o, h.get? a = some o → h'.get? a = some o) : TxSet P w h' a l := by
  obtain ⟨D, e, r⟩ := S
  exact ⟨D, k _ e, r⟩
theorem wk_tail {ep : Nat} {es1 : Array (Int × Value)} {t2 : SetTable} {b : Bool} (hr : Ris t2.place.toList) (hl : w.params.followText "set-order" = true ∨ t2.led = true) : Wk w (tailTx ep es1 t2 b) := by
  unfold tailTx
  split
  · exact ⟨relayAll_ris t2 es1 _, hl.imp id fun z => (relayAll_led t2 es1 _).trans z⟩
  · exact ⟨hr, hl⟩
theorem wk_add {D : SD} {h : Int} {v : Value} (W : Wk w D) : Wk w (addTx h v D) := by
  obtain ⟨es, ep, t⟩ := D
  have r1 := layNew_ris t es h v W.ris
  have l1 : w.params.followText "set-order" = true ∨ (layNew t es h v).2.1.led = true := W.led.imp id fun z => (layNew_led t es h v).trans z
  unfold addTx
  refine wk_tail ?_ ?_
  · split
    · exact r1
    · exact r1
  · split
    · exact l1
    · exact l1
/-- a text that is there already -/
theorem add_old {a : Addr} {D : SD} {l : List Str} {k : Str} {u : Tok} {Q : Bool → Shared → Prop} (ho : s.heap.get? a = some (sObj "set" D)) (F : TxOk P w D l) (hk : k ∈ l) (hb : l.length < scanBound) (q : Q false s) :
    wpAny (model P w) A (setAddHashed a (.str k u) (hashStr w k)) Q E s := by
  obtain ⟨es, ep, t⟩ := D
  have hd : (sObj "set" (es, ep, t)).data = .set es ep t := rfl
  have fit' : t.fits es.size = true := F.fit
  have el' : ElemsOf (strKind P w) es.toList := F.el
  have sz' : es.size < scanBound := (show es.size = l.length from F.sz) ▸ hb
  unfold setAddHashed setAddHashedIn
  refine wpAny_holding (wpAny_bind (wpAny_setState_of ho hd fit' ?_))
  dsimp only
  rw [byScan_of (x := Value.str k u) rfl sz' el']
  simp only [↓reduceIte]
  unfold setAddByScan
  refine wpAny_bind (wpAny_bind (wpAny_rule ?_))
  refine wpAny_bind (wpAny_setScan_of (knd := strKind P w) (k := k) (is_str k u) ho hd fit' el' ?_)
  obtain ⟨e, he, z⟩ := (F.mem k).mp hk
  cases r : List.findIdx? (fun e => (strKind P w).is k e.2) es.toList with
  | some j =>
    dsimp only
    exact wpAny_pure (wpAny_pure q)
  | none =>
    have c := List.findIdx?_eq_none_iff.mp r e he
    rw [z] at c
    cases c
/-- a text is added -/
theorem add_text {a : Addr} {l : List Str} {k : Str} {u : Tok} {Q : Bool → Shared → Prop} (S : TxSet P w s.heap a l) (hb : l.length + 1 < scanBound)
    (q : ∀ b h', Heap.SameBut a s.heap h' → TxSet P w h' a (if k ∈ l then l else k :: l) → Q b { s with heap := h' }) : wpAny (model P w) A (setAddHashed a (.str k u) (hashStr w k)) Q E s := by
  obtain ⟨D, e, F, nd, W⟩ := S
  by_cases hk : k ∈ l
  · refine add_old e F hk (by omega) ?_
    have := q false s.heap (Heap.SameBut.refl a s.heap) (by rw [if_pos hk]; exact ⟨D, e, F, nd, W⟩)
    exact this
  · refine add_x e F hk hb (q true _ (Heap.SameBut.update ..) ?_)
    rw [if_neg hk]
    exact ⟨_, get_upd _ e rfl, add_ok u F, List.nodup_cons.mpr ⟨hk, nd⟩, wk_add W⟩
/-- set(..), by what its beginning does -/
theorem set_by {x : Value} {Q : Value → Shared → Prop} 
    (body : ∀ z : Shared, z = { s with heap := s.heap.push { cls := .type "set", dict := none, data := .set #[] 0 (.fresh 0 0 (!w.params.followText "set-order")) } } →
      wpAny (model P w) A.in1.in1 (Builtin.«set.__init__» ⟨[.ref s.heap.objs.size, x], []⟩)
        (fun fin s' => match fin with | .done f => wants (fun r s₂ => r = .none ∧ Q (.ref s.heap.objs.size) s₂) E (.ok f) s' | .again c' => c'.quiet = true ∧ codeAny (model P w) A.in1 c' (wants (fun r s₂ => r = .none ∧ Q (.ref s.heap.objs.size) s₂) E) s')
        (fun e s' => wants (fun r s₂ => r = .none ∧ Q (.ref s.heap.objs.size) s₂) E (.error e) s') z) :
    wpAny (model P w) A (call (.type "set") [x]) Q E s := by
  obtain ⟨c0, tl0, mro0⟩ := F.called_set.mro
  have made0 := F.called_set.made
  have sub0 := F.called_set.sub
  refine wpAny_call (codeAny_of_tree ?_)
  show wpAny _ _ (callAny (.type "set") _) _ _ _
  refine wpAny_pure ⟨Code.quiet_builtin _ (by decide +kernel), codeAny_builtin F.entry_type_call ?_⟩
  rw [Around.under_plain (weight_type_call_type "set" [x] []) rfl]
  have nt0 := F.called_set.notType
  have cc0 := F.called_set.canCreate
  have ck0 := F.typeCall_set_1 x
  repeat (any_goals (first | assumption | wp_step))
  refine codeAny_mono (code_set_led1 x (E := E) (Q₁ := fun o z => o = .ref s.heap.objs.size ∧ z = { s with heap := s.heap.push { cls := .type "set", dict := none, data := .set #[] 0 (.fresh 0 0 (!w.params.followText "set-order")) } }) ⟨rfl, rfl⟩) fun r z hr => ?_
  match r, hr with
  | .ok (.ret o), hr =>
    obtain ⟨rfl, hz⟩ := hr
    have bd := body z hz
    have ty : z.TypeIs (.ref s.heap.objs.size) "set" := by
      rw [hz]
      exact ⟨_, Heap.get?_push_size _ rfl, rfl⟩
    have li0 := F.called_set.init.lookup
    have bi0 := F.called_set.init.bind (.ref s.heap.objs.size)
    repeat (any_goals (first | assumption | wp_step))
    refine codeAny_mono (codeAny_call_builtin (R := wants (fun r s₂ => r = .none ∧ Q (.ref s.heap.objs.size) s₂) E) F.called_set.init.plain F.entry_set_init (check_set_init_1 ty bd)) fun r2 z2 hr2 => ?_
    match r2, hr2 with
    | .ok (.ret r), hr2 =>
      obtain ⟨rfl, hq⟩ := hr2
      repeat (any_goals (first | assumption | wp_step))
    | .error e, hr2 => exact hr2
  | .error e, hr => exact hr
end
end Quiet
set_option Elab.async false
set_option linter.all false
set_option maxRecDepth 100000
set_option maxHeartbeats 4000000
namespace Quiet
open PySem PySem.Spec PyProof.Rows L2 PySem.Froz

/-- the texts, each once, as they were met: the last that is new ahead -/
def met : List Str → List Str → List Str
  | l, [] => l
  | l, x :: r => met (if x ∈ l then l else x :: l) r
theorem met_mem : ∀ (r l : List Str) (k : Str), k ∈ met l r ↔ k ∈ l ∨ k ∈ r
  | [], l, k => by simp [met]
  | x :: r, l, k => by
    rw [met, met_mem r, List.mem_cons]
    by_cases h : x ∈ l
    · rw [if_pos h]
      constructor
      · rintro (z | z)
        · exact .inl z
        · exact .inr (.inr z)
      · rintro (z | z | z)
        · exact .inl z
        · exact .inl (z ▸ h)
        · exact .inr z
    · rw [if_neg h, List.mem_cons]
      constructor
      · rintro ((z | z) | z)
        · exact .inr (.inl z)
        · exact .inl z
        · exact .inr (.inr z)
      · rintro (z | z | z)
        · exact .inl (.inr z)
        · exact .inl (.inl z)
        · exact .inr z
theorem met_nodup : ∀ (r l : List Str), l.Nodup → (met l r).Nodup
  | [], _, h => h
  | x :: r, l, h => by
    rw [met]
    refine met_nodup r _ ?_
    split
    · exact h
    · exact List.nodup_cons.mpr ⟨by assumption, h⟩
theorem met_len : ∀ (r l : List Str), (met l r).length ≤ l.length + r.length
  | [], l => Nat.le_refl _
  | x :: r, l => by
    rw [met]
    have := met_len r (if x ∈ l then l else x :: l)
    have h2 : (if x ∈ l then l else x :: l).length ≤ l.length + 1 := by split <;> simp
    simp only [List.length_cons] at *
    omega
section
variable {P : Program} {w : World} {A : Around} {E : Value → Shared → Prop} {s : Shared}
theorem upd_texts {I : Addr} {fp wr : List Addr} {G : Array GenState → Array GenState → Prop} {n : Nat} {Pv : Nat → Value → Prop} {St : Nat → Shared → Prop} {R : Result → Shared → Prop}
    (W : WalksS P w A.in1 I fp wr G n Pv St) (S : Addr) (nS : S ∉ fp) (xs : List Str) (len : xs.length = n) (val : ∀ i v, Pv i v → ∃ x t, xs[i]? = some x ∧ v = .str x t) :
    ∀ (m i : Nat) (l : List Str) (z : Shared), n - i = m → i ≤ n → St i z → TxSet P w z.heap S l → l.length + m + 1 < scanBound →
      (∀ z', Moved (S :: wr) G z z' → TxSet P w z'.heap S (met l (xs.drop i)) → R (.ok (.ret .none)) z') →
      codeAny (model P w) A (.builtin "set.update.loop" ⟨[.ref S, .ref I], []⟩) R z := by
  have nW : S ∉ wr := fun h => nS (W.sub _ h)
  have up : ∀ b ∈ wr, b ∈ S :: wr := fun b hb => List.mem_cons_of_mem _ hb
  intro m
  induction m with
  | zero =>
    intro i l z hm hi st hS hb k
    have e : i = xs.length := by omega
    refine codeAny_builtin F.entry_set_update_loop ?_
    rw [Around.under_plainId F.plain_set_update_loop _]
    show wpAny _ A.in1 (pyNext (.ref I) >>= _) _ _ z
    refine wpAny_bind (W.done z _ _ (by rw [← show i = n from by omega]; exact st) fun z' mv => ?_)
    refine wpAny_pure (k z' (mv.mono up) ?_)
    rw [e, List.drop_length]
    exact hS.on fun o e => mv.heap S o nW e
  | succ m ih =>
    intro i l z hm hi st hS hb k
    have lt : i < n := by omega
    refine codeAny_builtin F.entry_set_update_loop ?_
    rw [Around.under_plainId F.plain_set_update_loop _]
    show wpAny _ A.in1 (pyNext (.ref I) >>= _) _ _ z
    refine wpAny_bind (W.item i z _ _ lt st fun v z' pv st' mv => ?_)
    obtain ⟨x, t, hx, rfl⟩ := val i v pv
    have dr : xs.drop i = x :: xs.drop (i + 1) := by
      obtain ⟨h1, h2⟩ := List.getElem?_eq_some_iff.mp hx
      rw [List.drop_eq_getElem_cons h1, h2]
    show wpAny _ A.in1 (holding [Value.str x t] (setAdd S (.str x t)) >>= _) _ _ z'
    refine wpAny_bind (wpAny_holding ?_)
    unfold setAdd
    refine wpAny_holding (wpAny_bind ((strKind P w).pyHash (k := x) (is_str x t) ?_))
    refine add_text (s := { z' with toks := z'.toks + 1 }) (l := l) (hS.on fun o e => mv.heap S o nW e) (by omega) fun b h' sb hS2 => ?_
    have le : (if x ∈ l then l else x :: l).length ≤ l.length + 1 := by split <;> simp
    refine wpAny_pure ⟨plainId_quiet F.plain_set_update_loop _, ih (i + 1) _ _ (by omega) lt (W.frame _ z' _ _ st' (Nat.le_succ _) fun b hb o e => ?_) hS2 (by omega) fun z2 mv2 hS3 => ?_⟩
    · rw [sb.2 b (fun h : b = S => nS (h ▸ hb))]
      exact e
    · refine k z2 (Moved.trans W.gtrans ((mv.mono up).then_heap (Nat.le_succ _) fun b o hb e => ?_) mv2) ?_
      · rw [sb.2 b (fun h : b = S => hb (h ▸ List.mem_cons_self))]
        exact e
      · rw [dr, met]
        exact hS3
/-- a set that is new -/
theorem txSet_new {h : Heap} {a : Addr} (e : h.get? a = some { cls := .type "set", dict := none, data := .set #[] 0 (.fresh 0 0 (!w.params.followText "set-order")) }) : TxSet P w h a [] :=
  ⟨(#[], 0, .fresh 0 0 (!w.params.followText "set-order")), e, TxOk.nil (by rfl), List.nodup_nil, List.Pairwise.nil, by
    show _ ∨ (!w.params.followText "set-order") = true
    cases w.params.followText "set-order"
    · exact .inr rfl
    · exact .inl rfl⟩
theorem text_at {its : List Value} {xs : List Str} (h : StrsAre its xs) : ∀ {i : Nat} {v : Value}, its[i]? = some v → ∃ x t, xs[i]? = some x ∧ v = .str x t := by
  induction h with
  | nil =>
    intro i v e
    simp at e
  | cons x t r ih =>
    intro i v e
    cases i with
    | zero =>
      simp at e
      exact ⟨x, t, rfl, e.symm⟩
    | succ i => simpa using ih (by simpa using e)
/-- what the set's beginning does: it walks a list or tuple of texts -/
theorem init_texts {T : String} {l : Addr} {its : Array Value} {xs : List Str} {Q : Value → Shared → Prop} (hh : A.handled = none) (hT : T = "list" ∧ s.heap.IsList l its ∨ T = "tuple" ∧ s.heap.IsTuple l its) (hi : StrsAre its.toList xs) (hb : xs.length + 1 < scanBound)
    (k : ∀ (h' : Heap) (tk : Nat), TxSet P w h' s.heap.objs.size (met [] xs) → (∀ b o, s.heap.get? b = some o → h'.get? b = some o) → Q (.ref s.heap.objs.size) { s with heap := h', toks := tk }) :
    wpAny (model P w) A (call (.type "set") [.ref l]) Q E s := by
  refine set_by fun z hz => ?_
  have size : xs.length = its.size := by
    have := hi.length
    simpa using this.symm
  obtain ⟨ol, el⟩ : ∃ o, s.heap.get? l = some o := by
    rcases hT with ⟨_, o, e, _⟩ | ⟨_, o, e, _⟩
    · exact ⟨o, e⟩
    · exact ⟨o, e⟩
  have ll : l < s.heap.objs.size := Heap.lt_size el
  have h3 : A.in1.in1.in1.handled = none := by simp [hh]
  have new : z.heap.get? s.heap.objs.size = some { cls := .type "set", dict := none, data := .set #[] 0 (.fresh 0 0 (!w.params.followText "set-order")) } := by
    rw [hz]
    exact Heap.get?_push_size _ rfl
  have zs : z.heap.objs.size = s.heap.objs.size + 1 := by
    rw [hz]
    exact Heap.size_push ..
  have old : ∀ b o, s.heap.get? b = some o → z.heap.get? b = some o := fun b o e => by
    rw [hz]
    exact Heap.get?_push_of_some _ e
  have ends : ∀ {G : Obj} (z' : Shared), Moved [s.heap.objs.size, z.heap.objs.size] (fun a b => b = a) { z with heap := z.heap.push G } z' → TxSet P w z'.heap s.heap.objs.size (met [] (xs.drop 0)) → Q (.ref s.heap.objs.size) z' := fun z' mv hS => by
    obtain ⟨h', g', d', tk', os'⟩ := z'
    have eg : g' = s.gens := by
      have := mv.gens
      rw [hz] at this
      exact this
    have ed : d' = s.drawn := by
      have := mv.drawn
      rw [hz] at this
      exact this
    have eo : os' = s.os := by
      have := mv.os
      rw [hz] at this
      exact this
    subst eg ed eo
    refine k h' tk' hS fun b o e => ?_
    have lb : b < s.heap.objs.size := Heap.lt_size e
    refine mv.heap b o (fun q => ?_) (Heap.get?_push_of_some _ (old _ _ e))
    rcases List.mem_cons.mp q with q | q
    · exact Nat.ne_of_lt lb q
    · exact Nat.ne_of_lt (by rw [zs]; exact Nat.lt_succ_of_lt lb) (List.mem_singleton.mp q)
  rcases hT with ⟨rfl, hl⟩ | ⟨rfl, hl⟩
  · have hl' : z.heap.IsList l its := by
      obtain ⟨o, e, r⟩ := hl
      exact ⟨o, old _ _ e, r⟩
    obtain ⟨⟨oc, od, odt, osl⟩, oe, occ, on, odd⟩ := hl'
    simp only at occ odd
    subst occ odd
    have f1 := F.sub_list_set
    have f2 := F.sub_list_frozenset
    have f3 : (Value.type "list" == Value.type "dict") = false := by decide
    have hl1 : z.heap.IsList l its := ⟨_, oe, rfl, on, rfl⟩
    unfold Builtin.«set.__init__» noKeywords Builtin.Frozenset.updateFrom
    generalize hPI : pyIter = PI
    wp_walk
    subst hPI
    refine wpAny_pyIter_list hl1 (wpAny_bind (wpAny_runValue ?_))
    have nI : l ≠ z.heap.objs.size := Nat.ne_of_lt (by rw [zs]; exact Nat.lt_succ_of_lt ll)
    refine upd_texts (P := P) (w := w) ((Walks.list h3 _ l nI its).toS) s.heap.objs.size (fun q => ?_) xs size (fun i v hv => text_at hi (by rw [Array.getElem?_toList]; exact hv)) xs.length 0 [] _ (by omega) (Nat.zero_le _) ⟨⟨_, Heap.get?_push_size _ rfl, rfl, rfl⟩, hl1.push _⟩ (txSet_new (Heap.get?_push_of_some _ new)) (by simpa using hb) fun z' mv hS => ?_
    · rcases List.mem_cons.mp q with q | q
      · exact Nat.ne_of_lt (by rw [zs]; exact Nat.lt_succ_self _) q
      · exact Nat.ne_of_gt ll (List.mem_singleton.mp q)
    · show wpAny _ _ _ _ _ _
      refine wpAny_pure ?_
      show wpAny _ _ (ret Value.none) _ _ _
      exact wpAny_pure ⟨rfl, ends _ mv hS⟩
  · have hl' : z.heap.IsTuple l its := by
      obtain ⟨o, e, r⟩ := hl
      exact ⟨o, old _ _ e, r⟩
    obtain ⟨⟨oc, od, odt, osl⟩, oe, occ, on, odd⟩ := hl'
    simp only at occ odd
    subst occ odd
    have f1 := F.sub_tuple_set
    have f2 := F.sub_tuple_frozenset
    have f3 : (Value.type "tuple" == Value.type "dict") = false := by decide
    have hl1 : z.heap.IsTuple l its := ⟨_, oe, rfl, on, rfl⟩
    unfold Builtin.«set.__init__» noKeywords Builtin.Frozenset.updateFrom
    generalize hPI : pyIter = PI
    wp_walk
    subst hPI
    refine wpAny_pyIter_tuple hl1 (wpAny_bind (wpAny_runValue ?_))
    have nI : l ≠ z.heap.objs.size := Nat.ne_of_lt (by rw [zs]; exact Nat.lt_succ_of_lt ll)
    refine upd_texts (P := P) (w := w) ((Walks.tuple h3 _ l nI its).toS) s.heap.objs.size (fun q => ?_) xs size (fun i v hv => text_at hi (by rw [Array.getElem?_toList]; exact hv)) xs.length 0 [] _ (by omega) (Nat.zero_le _) ⟨⟨_, Heap.get?_push_size _ rfl, rfl, rfl⟩, hl1.push _⟩ (txSet_new (Heap.get?_push_of_some _ new)) (by simpa using hb) fun z' mv hS => ?_
    · rcases List.mem_cons.mp q with q | q
      · exact Nat.ne_of_lt (by rw [zs]; exact Nat.lt_succ_self _) q
      · exact Nat.ne_of_gt ll (List.mem_singleton.mp q)
    · show wpAny _ _ _ _ _ _
      refine wpAny_pure ?_
      show wpAny _ _ (ret Value.none) _ _ _
      exact wpAny_pure ⟨rfl, ends _ mv hS⟩
theorem perm_sub : ∀ (l xs : List Str), l.Nodup → (∀ x ∈ l, x ∈ xs) → xs.length ≤ l.length → xs.Perm l
  | [], xs, _, _, h => by
    have : xs = [] := List.length_eq_zero_iff.mp (Nat.le_zero.mp h)
    rw [this]
  | a :: l, xs, nd, sub, h => by
    obtain ⟨n1, n2⟩ := List.nodup_cons.mp nd
    have ha := sub a List.mem_cons_self
    have pe := List.perm_cons_erase ha
    refine pe.trans (List.Perm.cons a (perm_sub l _ n2 (fun x hx => ?_) ?_))
    · exact (List.mem_erase_of_ne (fun (e : x = a) => n1 (e ▸ hx))).mpr (sub x (List.mem_cons_of_mem _ hx))
    · have := pe.length_eq
      simp only [List.length_cons] at this h
      omega
/-- sorted(set) -/
theorem sort_texts {a : Addr} {l : List Str} {Q : Value → Shared → Prop} (S : TxSet P w s.heap a l) (hh : A.handled = none) (h64 : l.length < 64)
    (k : ∀ z p (out : Array Value) (c : Nat) (ys : List Str), (∀ b o, s.heap.get? b = some o → z.heap.get? b = some o) → z.gens = s.gens → z.os = s.os → s.heap.objs.size ≤ p →
      z.heap.get? p = some (seqObj "list" out c) → StrsAre out.toList ys → ys.Perm l → sortedS ys = true → Q (.ref p) z) : wpAny (model P w) A (call (.builtin "sorted") [.ref a]) Q E s := by
  obtain ⟨⟨es, ep, t⟩, e, F0, nd, W⟩ := S
  have size : es.size = l.length := F0.sz
  have fit' : t.fits es.size = true := F0.fit
  have el' : ElemsOf (strKind P w) es.toList := F0.el
  have mem' : ∀ k : Str, k ∈ l ↔ ∃ e ∈ es.toList, (strKind P w).is k e.2 = true := F0.mem
  refine Calls.call_function_entry kind_sorted plain_sorted entry_sorted (args_sorted1 _) ?_
  unfold Builtin.«sorted»
  refine wpAny_bind (m := checkCount "sorted" 1 1 _) (wpAny_pure ?_)
  refine wpAny_bind (collect_set (A := A.in1) hh ⟨_, e, rfl, rfl⟩ fit' (by rw [size]; unfold scanBound; omega) W.ris W.led fun z vs k1 zs g1 o1 pm => ?_)
  have lv : vs.length = l.length := by rw [pm.length_eq, List.length_map, Array.length_toList, size]
  have hx : StrsAre vs (vs.map strOf) := strsAre_map vs fun v hv => by
    obtain ⟨q, hq, rfl⟩ := List.mem_map.mp (pm.mem_iff.mp hv)
    obtain ⟨⟨x, h1, _⟩, _⟩ := el' q hq
    obtain ⟨tk, e1⟩ := Value.isStrOf_shape (x := x) (v := q.2) h1
    exact ⟨x, tk, e1⟩
  have hp : (vs.map strOf).Perm l := perm_sub l _ nd (fun x hx => by
    obtain ⟨q, hq, z⟩ := (mem' x).mp hx
    obtain ⟨tk, e1⟩ := Value.isStrOf_shape (x := x) (v := q.2) z
    exact List.mem_map.mpr ⟨q.2, pm.mem_iff.mpr (List.mem_map.mpr ⟨q, hq, rfl⟩), by rw [e1]; rfl⟩) (by rw [List.length_map, lv]; exact Nat.le_refl _)
  refine wpAny_bind (wpAny_newList ?_ (by rw [lv, sizeLine_eq]; omega))
  have at0 : (z.heap.push (seqObj "list" vs.toArray 0)).get? z.heap.objs.size = some (seqObj "list" vs.toArray 0) := Heap.get?_push_size _ rfl
  refine wpAny_bind (wpAny_holding (wpAny_call_entry slot_list_sort ⟨_, at0, rfl⟩ entry_list_sort (list_sort_treeK strKind_oneLt at0 hx.keysOf (fun v₁ v₂ rest e => keyKind_strs (by rw [← e]; exact hx)) (by omega) fun st' a1 a2 => ⟨_, rfl, ?_⟩) (args_list_sort _)))
  obtain ⟨ys, y1, y2, y3⟩ := sorted_out_str hx a1 a2
  obtain ⟨c, hc⟩ := sortedHeap_at (vs := vs) (out := (arrOf st').map (·.2)) at0
  refine wpAny_pure ⟨_, rfl, k _ z.heap.objs.size _ c ys (fun b u q => ?_) g1 o1 zs hc y1 (y2.trans hp) y3⟩
  have q1 := k1 b u q
  have lt := Heap.lt_size q1
  show (sortedHeap (z.heap.push (seqObj "list" vs.toArray 0)) z.heap.objs.size vs _).get? b = some u
  rw [sortedHeap_old (Nat.ne_of_lt lt) (by rw [size_push']; exact Nat.lt_succ_of_lt lt)]
  exact Heap.get?_push_of_some _ q1
end
/-! ### as rules -/
def TxO (P : Program) (w : World) (a : Addr) (l : List Str) : HO := .ext fun h => TxSet P w h a l
theorem txO_new {w : World} {P : Program} {H : Hp} {h : Heap} {a : Addr} {l : List Str} (R : TxSet P w h a l) : ObjOk P w H h a (TxO P w a l) := by
  have ⟨D, e, _⟩ := R
  exact ⟨R, ⟨_, e⟩, fun h1 h2 p k => TxSet.on p k⟩
section
variable {X : Cx} (K : PySem.W.Frag) (hK : X.K = K)
/-- set(texts) -/
def rSetT (K : PySem.W.Frag) (P : Program) (w : World) : List V → Hp → VK → Prop := fun xs H Q => ∃ (a : Addr) (ks : List Str), xs = [V.ref a] ∧ (SqL K H a (ks.map V.str) ∨ SqT K H a (ks.map V.str)) ∧ ks.length < 64 ∧
  ∀ p, H p = none → Q (.ref p) (upd H p (TxO P w p (met [] ks)))
theorem call_setT (hc : X.calm = true) : CallR X (.type "set") (rSetT X.K X.prog X.w) := by
  intro pins s σ H xs us Q I r h
  obtain ⟨a, ks, rfl, hs, h64, q⟩ := h
  rw [Vals.ref1 r]
  obtain ⟨its, rv, hT⟩ : ∃ its : List Value, Vals (ks.map V.str) its ∧ ∃ T, T = "list" ∧ s.heap.IsList a its.toArray ∨ T = "tuple" ∧ s.heap.IsTuple a its.toArray := by
    rcases hs with hs | hs
    · obtain ⟨its, rv, p, _⟩ := I.list hs
      exact ⟨its, rv, _, .inl ⟨rfl, p.isList⟩⟩
    · obtain ⟨its, rv, p, _⟩ := I.tuple hs
      exact ⟨its, rv, _, .inr ⟨rfl, p⟩⟩
  obtain ⟨T, hT⟩ := hT
  refine init_texts (P := X.prog) (w := X.w) (I.ok.hd hc) hT (by simpa using rv.strs) (by unfold scanBound; omega) fun h' tk S k => ?_
  exact ⟨.ref s.heap.objs.size, upd H s.heap.objs.size (TxO X.prog X.w s.heap.objs.size (met [] ks)), I.laid (t' := tk) k (Nat.le_refl _) (txO_new S), rfl, q _ (I.hok.fresh (Nat.le_refl _))⟩
/-- sorted(set of texts) -/
def rSortT (P : Program) (w : World) : List V → Hp → VK → Prop := fun vs H Q => ∃ (a : Addr) (l : List Str), vs = [V.ref a] ∧ H a = some (TxO P w a l) ∧ l.length < 64 ∧
  ∀ (ys : List Str) (p : Addr), ys.Perm l → sortedS ys = true → H p = none → Q (.ref p) (upd H p (.lst (ys.map V.str)))
theorem call_sortT (hc : X.calm = true) : CallR X (.builtin "sorted") (rSortT X.prog X.w) := by
  intro pins s σ H vs us Q I r h
  obtain ⟨a, l, rfl, ha, h64, q⟩ := h
  have S : TxSet X.prog X.w s.heap a l := (I.hok a _ ha).1
  rw [Vals.ref1 r]
  refine sort_texts S (I.ok.hd hc) h64 fun z p out c ys k g o lp hp hy pm so => ?_
  have len : (ys.map V.str).length ≤ sizeLine := by rw [List.length_map, pm.length_eq, sizeLine_eq]; omega
  have none' : H p = none := I.hok.fresh lp
  have J : Inv X pins σ (upd H p (.lst (ys.map V.str))) { s with heap := z.heap, gens := z.gens, drawn := z.drawn, toks := z.toks } :=
    I.call (ch := []) (Un.laid k lp none') (I.hok.laid k lp ⟨len, out.toList, c, vals_of_strs hy, hp⟩) (by rw [g]; exact I.bare) (fun _ z => nomatch z)
  have e : z = { s with heap := z.heap, gens := z.gens, drawn := z.drawn, toks := z.toks } := by
    cases z
    cases s
    cases o
    rfl
  rw [e]
  exact ⟨.ref p, _, J, rfl, q ys p pm so none'⟩
end
end Quiet
namespace Quiet
open PySem PySem.Spec L2
section
variable {X : Cx} (K : PySem.W.Frag) (P : Program) (w : World) (hK : X.K = K) (hP : X.prog = P) (hw : X.w = w) (hc : X.calm = true)
include hP hw hc
theorem sortTK : CallR X (.builtin "sorted") (rSortT P w) := hP ▸ hw ▸ call_sortT hc
include hK
theorem setK : CallR X (.type "set") (rSetT K P w) := hK ▸ hP ▸ hw ▸ call_setT hc
end
end Quiet
set_option Elab.async false
set_option linter.all false
set_option maxRecDepth 100000
set_option maxHeartbeats 2000000
namespace Quiet
open PySem PySem.Spec PyProof.Rows L2 PySem.SeqAt Sem

/-- xs == [], xs != [], t == (): whatever stands in them -/
def rEq0L : R2 := fun x y H Q => ∃ a b xs, x = .ref a ∧ y = .ref b ∧ H a = some (.lst xs) ∧ H b = some (.lst []) ∧ Q (.bl xs.isEmpty) H
def rNe0L : R2 := fun x y H Q => ∃ a b xs, x = .ref a ∧ y = .ref b ∧ H a = some (.lst xs) ∧ H b = some (.lst []) ∧ Q (.bl (!xs.isEmpty)) H
def rEq0T : R2 := fun x y H Q => ∃ a b xs, x = .ref a ∧ y = .ref b ∧ H a = some (.tup xs) ∧ H b = some (.tup []) ∧ Q (.bl xs.isEmpty) H
section
variable {X : Cx}
theorem op_eq0L (hu : X.A.units + 64 < cLine) : OpR X (compareOp .Eq) rEq0L := by
  intro pins s σ H x y v u Q I rx ry ⟨a, b, xs, e1, e2, ha, hb, q⟩
  subst e1 e2
  cases rx
  cases ry
  obtain ⟨us, r1, p1, _⟩ := I.list (SqL.of ha)
  obtain ⟨ws, r2, p2, _⟩ := I.list (SqL.of hb)
  cases r2
  have hu' : X.A.units < cLine := by omega
  have l1 := r1.length
  cases xs with
  | nil =>
    cases r1
    exact RcAt.lists (e := fun _ => true) p1.isList p2.isList rfl hu' (fun j h1 _ => absurd h1 (Nat.not_lt_zero j)) _ _ _ _ ⟨.bl true, H, I, rfl, q⟩
  | cons x xs =>
    refine RcAt.lists_lengths p1.isList p2.isList ?_ hu' _ _ _ _ ⟨.bl false, H, I, rfl, q⟩
    rw [List.size_toArray, ← l1]
    rfl
theorem op_ne0L (hu : X.A.units + 64 < cLine) : OpR X (compareOp .NotEq) rNe0L := by
  intro pins s σ H x y v u Q I rx ry ⟨a, b, xs, e1, e2, ha, hb, q⟩
  subst e1 e2
  cases rx
  cases ry
  obtain ⟨us, r1, p1, _⟩ := I.list (SqL.of ha)
  obtain ⟨ws, r2, p2, _⟩ := I.list (SqL.of hb)
  cases r2
  have hu' : X.A.units < cLine := by omega
  have l1 := r1.length
  cases xs with
  | nil =>
    cases r1
    exact RcNeAt.lists (e := fun _ => true) p1.isList p2.isList rfl hu' (fun j h1 _ => absurd h1 (Nat.not_lt_zero j)) _ _ _ _ ⟨.bl false, H, I, rfl, q⟩
  | cons x xs =>
    refine RcNeAt.lists_lengths p1.isList p2.isList ?_ hu' _ _ _ _ ⟨.bl true, H, I, rfl, q⟩
    rw [List.size_toArray, ← l1]
    rfl
theorem op_eq0T (hu : X.A.units + 64 < cLine) : OpR X (compareOp .Eq) rEq0T := by
  intro pins s σ H x y v u Q I rx ry ⟨a, b, xs, e1, e2, ha, hb, q⟩
  subst e1 e2
  cases rx
  cases ry
  obtain ⟨us, r1, p1, _⟩ := I.tuple (SqT.of ha)
  obtain ⟨ws, r2, p2, _⟩ := I.tuple (SqT.of hb)
  cases r2
  have hu' : X.A.units < cLine := by omega
  have l1 := r1.length
  have e : ((List.range (min us.toArray.size ([] : List Value).toArray.size)).all (fun _ => true) && us.toArray.size == ([] : List Value).toArray.size) = xs.isEmpty := by
    rw [List.size_toArray, ← l1]
    cases xs <;> simp
  refine RcAt.tuples (e := fun _ => true) p1 p2 hu' (fun j _ h2 => absurd h2 (Nat.not_lt_zero j)) _ _ _ _ ?_
  rw [e]
  exact ⟨.bl _, H, I, rfl, q⟩
end
end Quiet
set_option Elab.async false
set_option linter.all false
set_option maxRecDepth 100000
set_option maxHeartbeats 4000000
namespace Quiet
open PySem PySem.Spec PyProof.Rows L2 HT

/-! ### t[::-1] of a tuple -/
section
variable {prog : Program} {w : World} {A : Around} {E : Value → Shared → Prop} {s : Shared}
theorem back_parts (n : Nat) : Builtin.Slice.sliceAdjust none none (-1) (n : Int) = ((n : Int) - 1, -1) := by
  unfold Builtin.Slice.sliceAdjust
  simp
theorem back_count (n : Nat) : Builtin.Slice.slicePlaces ((n : Int) - 1) (-1) (-1) = n := by
  unfold Builtin.Slice.slicePlaces
  have h1 : ¬ ((-1 : Int) > 0) := by omega
  simp only [h1, if_false]
  split <;> first | omega | (simp; omega) | simp
theorem fm_map {α β : Type} (f : α → Option β) (g : α → β) : ∀ {l : List α}, (∀ m ∈ l, f m = some (g m)) → l.filterMap f = l.map g
  | [], _ => rfl
  | x :: l, h => by
    rw [List.filterMap_cons_some (h x List.mem_cons_self), List.map_cons, fm_map f g fun m hm => h m (List.mem_cons_of_mem _ hm)]
theorem back_pick (xs : Array Value) : ((List.range xs.size).filterMap fun (m : Nat) => xs[(((xs.size : Nat) : Int) - 1 + (m : Int) * (-1)).toNat]?) = xs.toList.reverse := by
  have g : ∀ m ∈ List.range xs.size, xs[(((xs.size : Nat) : Int) - 1 + (m : Int) * (-1)).toNat]? = some (xs.toList.reverse.getD m Value.none) := fun m hm => by
    have hm' := List.mem_range.mp hm
    have e : (((xs.size : Nat) : Int) - 1 + (m : Int) * (-1)).toNat = xs.size - 1 - m := by omega
    have l1 : m < xs.toList.reverse.length := by
      rw [List.length_reverse, Array.length_toList]
      exact hm'
    rw [e, List.getD_eq_getElem?_getD, List.getElem?_eq_getElem l1, List.getElem_reverse]
    rw [← Array.getElem?_toList, List.getElem?_eq_getElem (by rw [Array.length_toList]; omega)]
    simp
  rw [fm_map _ _ g]
  refine List.ext_getElem (by simp) fun i h1 h2 => ?_
  rw [List.getElem_map, List.getElem_range, List.getD_eq_getElem?_getD, List.getElem?_eq_getElem h2]
  rfl
theorem back_applied {sl : Addr} {u : Tok} {n : Nat} {Q : Int × Int × Nat → Shared → Prop} (hs : s.heap.IsSliceOf sl .none .none (.int (-1) u)) (h : Q ((n : Int) - 1, -1, n) s) :
    wpAny (model prog w) A (Builtin.Slice.sliceApplied (.ref sl) (pure (n : Int))) Q E s := by
  obtain ⟨os, ho, hc, hd⟩ := id hs
  unfold Builtin.Slice.sliceApplied Builtin.Slice.sliceFields
  refine wpAny_bind (wpAny_bind (wpAny_field ho hd (x := .none) rfl (wpAny_bind (wpAny_field ho hd (x := .none) rfl (wpAny_bind (wpAny_field ho hd (x := .int (-1) u) rfl (wpAny_pure ?_)))))))
  refine wpAny_bind (slicePart_int ?_)
  show wpAny _ _ (if ((-1 : Int) == 0) = true then _ else _) _ _ s
  rw [if_neg (by decide)]
  refine wpAny_bind (slicePart_none (wpAny_bind (slicePart_none (wpAny_bind (wpAny_pure ?_)))))
  show wpAny _ _ (match Builtin.Slice.sliceAdjust none none (-1) (n : Int) with | (lo, hi) => pure (lo, (-1 : Int), Builtin.Slice.slicePlaces lo hi (-1))) _ _ s
  rw [back_parts n]
  show wpAny _ _ (pure ((n : Int) - 1, (-1 : Int), Builtin.Slice.slicePlaces ((n : Int) - 1) (-1) (-1))) _ _ s
  rw [back_count]
  exact wpAny_pure h
theorem getItem_back {t sl : Addr} {its : Array Value} {u : Tok} {Q : Value → Shared → Prop} (ht : IsTup s.heap t its) (hs : s.heap.IsSliceOf sl .none .none (.int (-1) u)) (z : its.size ≤ sizeLine)
    (h : Q (.ref s.heap.objs.size) { s with heap := s.heap.push { cls := .type "tuple", data := .seq its.toList.reverse.toArray } }) : wpAny (model prog w) A (getItem (.ref t) (.ref sl)) Q E s := by
  have room : sizeOk (.seq its.toList.reverse.toArray) := by
    show its.toList.reverse.toArray.size ≤ sizeLine
    rw [List.size_toArray, List.length_reverse, Array.length_toList]
    exact z
  obtain ⟨os, ho, hc, hd⟩ := id hs
  have ty : s.TypeIs (.ref sl) "slice" := ⟨os, ho, hc⟩
  unfold getItem
  try with_reducible refine wpAny_holding ?_
  first | refine wpAny_bind (wpAny_pure ?_) | skip
  refine wpAny_bind (wpAny_sequenceKey ht.typeIs (by decide) ?_)
  refine wpAny_bind (wpAny_callSpecial?_slot (name := Str.ofString "__getitem__") ht.typeIs PyProof.Rows.slot_tuple_getitem (wpAny_call_entry PyProof.Rows.slot_tuple_getitem ht.typeIs entry_tuple_getitem ?_ (args_tuple_getitem _ _)))
  show wpAny _ _ (Builtin.Tuple.tupleItemsOf (.ref t) >>= _) _ _ s
  refine wpAny_bind (tupleItemsOf_ ht (wpAny_bind (wpAny_typeOf ty ?_)))
  rw [if_pos (by decide)]
  refine wpAny_bind (back_applied hs ?_)
  have no : ¬ (((((its.size : Nat) : Int) - 1) == 0 && (-1 : Int) == 1 && its.size == its.size) = true) := by simp
  show wpAny _ _ (if ((((its.size : Nat) : Int) - 1) == 0 && (-1 : Int) == 1 && its.size == its.size) = true then _ else _) _ _ s
  rw [if_neg no, back_pick]
  first
    | exact wpAny_bind (m := Builtin.Tuple.tupleExact _) (wpAny_newObj_type (wpAny_pure ⟨_, rfl, wpAny_pure h⟩) room)
    | exact wpAny_bind (m := Builtin.Tuple.tupleExact _) (wpAny_newObj_type (wpAny_bind (wpAny_pure (wpAny_pure ⟨_, rfl, wpAny_pure h⟩))) room)
    | exact wpAny_bind (wpAny_bind (m := Builtin.Tuple.tupleExact _) (wpAny_newObj_type (wpAny_pure (wpAny_pure ⟨_, rfl, wpAny_pure h⟩)) room))
    | exact wpAny_bind (wpAny_bind (m := Builtin.Tuple.tupleExact _) (wpAny_newObj_type (wpAny_pure ⟨_, rfl, wpAny_pure h⟩) room))
end
def tRevT (K : PySem.W.Frag) (te : TE) : TE := fun σ H Q => te σ H fun x H1 => ∃ a xs, x = .ref a ∧ SqT K H1 a xs ∧ ∀ p, H1 p = none → Q (.ref p) (upd H1 p (.tup xs.reverse))
theorem pe_revT {X : Cx} {e : Expr} {te : TE} {k : Nat} {p1 p2 p3 pos : Pos} (he : PE X e te) : PE X (.Subscript e (.Slice none none (some (.UnaryOp .USub (.Constant (.int 1) k p1) p2)) p3) pos) (tRevT X.K te) := by
  refine ⟨fun pins s σ H Q I h => ?_⟩
  refine Subscript_ (thn (he.run pins s σ H _ I h) fun v s1 ⟨x, H1, I1, r1, a, xs, ex, hx, q⟩ => ?_)
  subst ex
  cases r1
  have minus : PO X (some (.UnaryOp .USub (.Constant (.int 1) k p1) p2)) (tPart (tUn (rU fun i => .int (-i)) (tC (.int 1)))) := po_some (pe_un un_neg pe_int)
  refine wpAny_Slice (thn (po_none.run pins s1 σ H1 (fun o H2 => o = none ∧ H2 = H1) I1 ⟨rfl, rfl⟩) fun vl s2 ⟨l, H2, I2, pl, el, e2⟩ => ?_)
  subst el e2
  refine thn (po_none.run pins s2 σ H2 (fun o H3 => o = none ∧ H3 = H2) I2 ⟨rfl, rfl⟩) fun vu s3 ⟨u, H3, I3, pu, eu, e3⟩ => ?_
  subst eu e3
  refine thn (minus.run pins s3 σ H3 (fun o H4 => o = some (-1) ∧ H4 = H3) I3 ⟨1, rfl, -1, rfl, rfl, rfl⟩) fun vs s4 ⟨o, H4, I4, ps, eo, e4⟩ => ?_
  subst eo e4
  cases pl
  cases pu
  cases ps with
  | int _ t =>
  have I5 : Inv X pins σ H4 { s4 with heap := s4.heap.push { cls := .type "slice", data := .fields #[.none, .none, .int (-1) t] } } := I4.kept (t' := s4.toks) fun b ob q => Heap.get?_push_of_some _ q
  obtain ⟨its, r, ht, hz⟩ := I5.tuple hx
  have len := r.length
  show wpAny (model X.prog X.w) X.A (subscriptTail e (.Slice none none (some (.UnaryOp .USub (.Constant (.int 1) k p1) p2)) p3) (.ref a) (.ref s4.heap.objs.size)) (EP X pins σ Q) X.xe { s4 with heap := s4.heap.push { cls := .type "slice", data := .fields #[.none, .none, .int (-1) t] } }
  refine tail_any (ops := [.ref a, .ref s4.heap.objs.size]) ht.typeIs (PyProof.Rows.slot_tuple_getitem.lookup) ?_ (by with_unfolding_all rfl)
  refine getItem_back (u := t) ht (Heap.IsSliceOf.new _ .none .none (.int (-1) t)) (by rw [List.size_toArray]; omega) ?_
  refine ⟨.ref _, _, I5.laid (t' := s4.toks) (o := .tup xs.reverse) (fun b ob q => Heap.get?_push_of_some _ q) (Nat.le_refl _) ?_, rfl, q _ (I5.hok.fresh (Nat.le_refl _))⟩
  exact ⟨by rw [List.length_reverse]; exact hz, _, by simpa using r.reverse, IsTup.new _ _⟩
theorem revT {X : Cx} (K : PySem.W.Frag) (hK : X.K = K) {e : Expr} {te : TE} {k : Nat} {p1 p2 p3 pos : Pos} (he : PE X e te) : PE X (.Subscript e (.Slice none none (some (.UnaryOp .USub (.Constant (.int 1) k p1) p2)) p3) pos) (tRevT K te) := hK ▸ pe_revT he
end Quiet
set_option Elab.async false
set_option linter.all false
set_option maxRecDepth 100000
set_option maxHeartbeats 4000000
namespace Gn
open PySem PySem.Spec PyProof.Rows L2 Quiet
/-! ### data -/
/-- the name of its class -/
def tyn : PyData → String
  | .none => "NoneType" | .bool _ => "bool" | .int _ => "int" | .str _ => "str" | .list _ => "list" | .tuple _ => "tuple" | .dict _ => "dict"
theorem ty_of {K : PySem.W.Frag} {H : Hp} {v : V} {d : PyData} (h : Is H v d) : TyX K H v (.type (tyn d)) := by
  cases h with
  | non => exact .base .non
  | bl b => exact .base (.bl b)
  | int i => exact .base (.int i)
  | str x => exact .base (.str x)
  | lst h _ => exact .base (.lst h)
  | tup h _ => exact .base (.tup h)
  | dic h _ => exact .base (.dK h)
theorem q_isi {K : PySem.W.Frag} {H : Hp} {v : V} {d : PyData} {T : String} {b : Bool} {Q : VK} (h : Is H v d) (e : kitB (tyn d) T = some b) (q : Q (.bl b) H) :
    rIsi K [v, .ty T] H Q ∨ rIsiT K [v, .ty T] H Q := .inl ⟨v, .ty T, .type (tyn d), .type T, b, rfl, .ty T, ty_of h, kit_ty e, q⟩
def iInt : PyData → Bool | .int _ => true | .bool _ => true | _ => false
def isTruth : PyData → Bool | .bool _ => true | _ => false
def iStr : PyData → Bool | .str _ => true | _ => false
def iTup : PyData → Bool | .tuple _ => true | _ => false
def iLst : PyData → Bool | .list _ => true | _ => false
def iDic : PyData → Bool | .dict _ => true | _ => false
theorem k_int (d : PyData) : kitB (tyn d) "int" = some (iInt d) := by cases d <;> (dsimp only [tyn, iInt, isTruth, iStr, iTup, iLst, iDic]; decide +kernel)
theorem k_bool (d : PyData) : kitB (tyn d) "bool" = some (isTruth d) := by cases d <;> (dsimp only [tyn, iInt, isTruth, iStr, iTup, iLst, iDic]; decide +kernel)
theorem k_str (d : PyData) : kitB (tyn d) "str" = some (iStr d) := by cases d <;> (dsimp only [tyn, iInt, isTruth, iStr, iTup, iLst, iDic]; decide +kernel)
theorem k_tup (d : PyData) : kitB (tyn d) "tuple" = some (iTup d) := by cases d <;> (dsimp only [tyn, iInt, isTruth, iStr, iTup, iLst, iDic]; decide +kernel)
theorem k_lst (d : PyData) : kitB (tyn d) "list" = some (iLst d) := by cases d <;> (dsimp only [tyn, iInt, isTruth, iStr, iTup, iLst, iDic]; decide +kernel)
theorem k_dic (d : PyData) : kitB (tyn d) "dict" = some (iDic d) := by cases d <;> (dsimp only [tyn, iInt, isTruth, iStr, iTup, iLst, iDic]; decide +kernel)
def isInt (d : PyData) : Bool := iInt d && !isTruth d
/-- a choice by a truth -/
theorem if_b {b : Bool} {A B : Prop} (h1 : b = true → A) (h2 : b = false → B) : if b = true then A else B := by
  cases b with
  | true => rw [if_pos rfl]; exact h1 rfl
  | false => rw [if_neg Bool.false_ne_true]; exact h2 rfl
def spInt : Sp := fun vs H Q _ => ∃ (v : V) (d : PyData), vs = [v] ∧ Is H v d ∧ Q (.bl (isInt d)) H
def spTruth : Sp := fun vs H Q _ => ∃ (v : V) (d : PyData), vs = [v] ∧ Is H v d ∧ Q (.bl (isTruth d)) H
section
variable {P : Program} {w : World} {K : PySem.W.Frag} {mg : Str → Option Value} {base : Heap}
/-! ### names -/
theorem q_len {K : PySem.W.Frag} {H : Hp} {x : Str} {Q : VK} (hz : x.length ≤ sizeLine) (q : Q (.int (x.length : Nat)) H) : rLenV K [V.str x] H Q ∨ rLenD [V.str x] H Q := .inl ⟨_, _, rfl, ⟨hz, rfl⟩, q⟩
def letters : Str := "abcdefghijklmnopqrstuvwxyz"
def low (c : Nat) : Bool := decide (c ∈ letters.cps.toList)
def nameB (x : Str) : Bool := decide (1 ≤ x.length) && decide (x.length ≤ 8) && x.cps.toList.all low
def isName : PyData → Bool | .str x => nameB x | _ => false
/-- not too big to be measured -/
def Small (d : PyData) : Prop := d.weight ≤ 1000000
theorem small_str {x : Str} (h : Small (.str x)) : x.length ≤ 1000000 := by
  have : x.cps.size ≤ 1000000 := by simpa [Small, PyData.weight] using h
  exact this
def spName : Sp := fun vs H Q _ => ∃ (v : V) (d : PyData), vs = [v] ∧ Is H v d ∧ Small d ∧ ∀ H', Same H H' → Q (.bl (isName d)) H'
theorem sz1 {n : Nat} (h : n ≤ 1000000) : n ≤ sizeLine := Nat.le_trans h (by decide)
theorem sz2 {n : Nat} (h : n ≤ 1000000) : n < sizeLine := Nat.lt_of_le_of_lt h (by decide)
end

/-! ### lists and tuples, item by item -/
def Sq (K : PySem.W.Frag) (H : Hp) (a : Addr) (xs : List V) : Prop := SqL K H a xs ∨ SqT K H a xs
theorem Sq.same {K : PySem.W.Frag} {H H' : Hp} {a : Addr} {xs : List V} (s : Same H H') (h : Sq K H a xs) : Sq K H' a xs := by
  rcases h with h | h
  · exact .inl (s.seq h)
  · refine .inr ?_
    rcases h with (h | ⟨o, h⟩) | h
    · exact .inl (.inl (s _ _ h))
    · exact .inl (.inr ⟨o, s _ _ h⟩)
    · exact .inr h
theorem q_ix {K : PySem.W.Frag} {H : Hp} {a : Addr} {xs : List V} {z : Int} {i : Nat} {v : V} {Q : VK} (h : Sq K H a xs) (e : z = (i : Int)) (hv : xs[i]? = some v) (q : Q v H) : rIx K (.ref a) (.int z) H Q := by
  subst e
  rcases h with h | h
  · exact .inl ⟨a, xs, _, v, rfl, rfl, h, atI_nat hv, q⟩
  · exact .inr (.inl ⟨a, xs, _, v, rfl, rfl, h, atI_nat hv, q⟩)
theorem q_lenSq {K : PySem.W.Frag} {H : Hp} {a : Addr} {xs : List V} {Q : VK} (h : Sq K H a xs) (q : Q (.int (xs.length : Nat)) H) : rLenV K [V.ref a] H Q ∨ rLenD [V.ref a] H Q := by
  refine .inl ⟨_, _, rfl, ?_, q⟩
  rcases h with h | h
  · exact .inl ⟨xs, h, rfl⟩
  · exact .inr ⟨xs, h, rfl⟩
theorem q_add {K : PySem.W.Frag} {i j : Int} {H : Hp} {Q : VK} (q : Q (.int (i + j)) H) : rAddU K (.int i) (.int j) H Q := .inl ⟨i, j, rfl, rfl, q⟩
theorem q_eqi {K : PySem.W.Frag} {i j : Int} {H : Hp} {Q : VK} (q : Q (.bl (decide (i = j))) H) : rEqU K (.int i) (.int j) H Q := .inl ⟨rfl, by
  have e : decide (V.int i = V.int j) = decide (i = j) := by simp
  rw [e]
  exact q⟩
theorem q_nei {i j : Int} {H : Hp} {Q : VK} (q : Q (.bl (!decide (i = j))) H) : rNeU (.int i) (.int j) H Q := .inl ⟨rfl, by
  have e : decide (V.int i = V.int j) = decide (i = j) := by simp
  first
    | (rw [e]; exact q)
    | (simp only [ne_eq, decide_not]; rw [e]; exact q)⟩
/-! ### texts that rise -/
def slt (x y : Str) : Bool := decide (x.cps.toList < y.cps.toList)
def asc : List Str → Bool
  | x :: y :: r => slt x y && asc (y :: r)
  | _ => true
def ascAt (xs : List Str) (i : Nat) : Bool := match xs[i]?, xs[i + 1]? with
  | some x, some y => slt x y
  | _, _ => true
theorem all_asc : ∀ xs : List Str, (List.range (xs.length - 1)).all (ascAt xs) = asc xs
  | [] => rfl
  | [_] => rfl
  | x :: y :: r => by
    have ih := all_asc (y :: r)
    have e : (x :: y :: r).length - 1 = ((y :: r).length - 1) + 1 := by simp
    rw [e, List.range_succ_eq_map, List.all_cons, List.all_map]
    show (slt x y && _) = (slt x y && asc (y :: r))
    rw [← ih]
    rfl
def spAsc (K : PySem.W.Frag) : Sp := fun vs H Q _ => ∃ (a : Addr) (xs : List Str), vs = [.ref a] ∧ Sq K H a (xs.map V.str) ∧ xs.length ≤ 1000000 ∧ ∀ H', Same H H' → Q (.bl (asc xs)) H'
section
variable {P : Program} {w : World} {K : PySem.W.Frag} {mg : Str → Option Value} {base : Heap}
end

/-! ### sizes -/
theorem len_weight : ∀ ds : List PyData, ds.length ≤ PyData.weightAll ds
  | [] => Nat.zero_le _
  | d :: ds => by
    have := len_weight ds
    simp only [List.length_cons, PyData.weightAll]
    omega
theorem mem_weight : ∀ {ds : List PyData} {d : PyData}, d ∈ ds → d.weight ≤ PyData.weightAll ds
  | d :: ds, e, h => by
    simp only [PyData.weightAll]
    rcases List.mem_cons.mp h with rfl | h
    · omega
    · have := mem_weight h
      omega
theorem small_tup {ds : List PyData} (h : Small (.tuple ds)) : ds.length ≤ 1000000 ∧ ∀ d ∈ ds, Small d := by
  have h' : PyData.weightAll ds ≤ 1000000 := by simpa [Small, PyData.weight] using h
  exact ⟨Nat.le_trans (len_weight ds) h', fun d hd => Nat.le_trans (mem_weight hd) h'⟩
/-! ### texts among data -/
def textOf : PyData → Str | .str x => x | _ => Str.ofString ""
theorem are_texts {H : Hp} : ∀ {ds : List PyData} {vs : List V}, Are H vs ds → (∀ d ∈ ds, ∃ x, d = .str x) → vs = (ds.map textOf).map V.str
  | [], _, h, _ => by cases h; rfl
  | d :: ds, _, h, k => by
    cases h with
    | cons a b =>
      obtain ⟨x, rfl⟩ := k d List.mem_cons_self
      cases a
      rw [are_texts b fun e he => k e (List.mem_cons_of_mem _ he)]
      rfl
theorem name_text {d : PyData} (h : isName d = true) : ∃ x, d = .str x := by
  cases d <;> first | exact ⟨_, rfl⟩ | (exact absurd h (by simp [isName]))
theorem names_text {ds : List PyData} (h : ds.all isName = true) : ∀ d ∈ ds, ∃ x, d = .str x := fun d hd => name_text (List.all_eq_true.mp h d hd)
def isNames : PyData → Bool | .tuple ds => ds.all isName && asc (ds.map textOf) | _ => false
def isPair : PyData → Bool | .tuple [a, b] => isName a && isTruth b | _ => false
def askOf : PyData → Str | .tuple (a :: _) => textOf a | _ => Str.ofString ""
def arePairs : PyData → Bool | .tuple ds => !ds.isEmpty && ds.all isPair && asc (ds.map askOf) | _ => false
def at' (ds : List PyData) (i : Nat) : PyData := ds.getD i .none
def isFact : PyData → Bool
  | .tuple ds => if ds.length < 2 then false else if isText "never" (at' ds 0) then decide (ds.length = 2) && arePairs (at' ds 1)
    else if !isText "after" (at' ds 0) || !decide (ds.length = 5) then false else ((ds.drop 1).take 3).all isName && isTruth (at' ds 4)
  | _ => false
def isWordOf (ks : List Str) : PyData → Bool | .tuple [.str x, b] => decide (x ∈ ks) && isName b | _ => false
def isLone (k : Str) : PyData → Bool | .tuple [.str x] => decide (x = k) | _ => false
def isWay (d : PyData) : Bool := isLone "on" d || isWordOf ["leave", "again", "raise", "stop"] d
def isExit (d : PyData) : Bool := isLone "end" d || isWordOf ["raise", "stop"] d
/-- a def that tells whether a thing is so -/
def spB (p : PyData → Bool) : Sp := fun vs H Q _ => ∃ (v : V) (d : PyData), vs = [v] ∧ Is H v d ∧ Small d ∧ ∀ H', Same H H' → Q (.bl (p d)) H'
theorem pair_is {d : PyData} (h : isPair d = true) : ∃ x b, d = .tuple [.str x, .bool b] := by
  match d, h with
  | .tuple [a, b], h =>
    have h' : isName a = true ∧ isTruth b = true := by simpa [isPair] using h
    obtain ⟨x, rfl⟩ := name_text h'.1
    cases b <;> first | exact ⟨_, _, rfl⟩ | exact absurd h'.2 (by simp [isTruth])
section
variable {P : Program} {w : World} {K : PySem.W.Frag} {mg : Str → Option Value} {base : Heap}
end

theorem cut_at {ds : List PyData} {xs : List V} {H : Hp} (hs : Are H xs ds) {i : Nat} (hi : i < ds.length) : ∃ v, xs[i]? = some v ∧ Is H v (at' ds i) := by
  obtain ⟨v, h1, h2⟩ := hs.get (List.getElem?_eq_getElem hi)
  refine ⟨v, h1, ?_⟩
  have e : at' ds i = ds[i] := by simp [at', List.getD_eq_getElem?_getD, List.getElem?_eq_getElem hi]
  rw [e]
  exact h2
theorem mem_at {ds : List PyData} {i : Nat} (hi : i < ds.length) : at' ds i ∈ ds := by
  have e : at' ds i = ds[i] := by simp [at', List.getD_eq_getElem?_getD, List.getElem?_eq_getElem hi]
  rw [e]
  exact List.getElem_mem hi
theorem Are.drop {H : Hp} : ∀ (n : Nat) {ds : List PyData} {vs : List V}, Are H vs ds → Are H (vs.drop n) (ds.drop n)
  | 0, _, _, h => h
  | n + 1, [], _, h => by cases h; exact .nil
  | n + 1, d :: ds, _, h => by
    cases h with
    | cons a b => exact Are.drop n b
theorem Are.take {H : Hp} : ∀ (n : Nat) {ds : List PyData} {vs : List V}, Are H vs ds → Are H (vs.take n) (ds.take n)
  | 0, _, _, h => .nil
  | n + 1, [], _, h => by cases h; exact .nil
  | n + 1, d :: ds, _, h => by
    cases h with
    | cons a b => exact .cons a (Are.take n b)
section
variable {P : Program} {w : World} {K : PySem.W.Frag} {mg : Str → Option Value} {base : Heap}
end

theorem in_texts (x : Str) : ∀ ks : List Str, inV (.str x) (ks.map V.str) = decide (x ∈ ks)
  | [] => by simp [inV]
  | y :: ks => by
    have ih := in_texts x ks
    unfold inV at ih ⊢
    rw [List.map_cons, List.any_cons, ih]
    by_cases e : y = x
    · subst e
      simp [eqV]
    · have e' : ¬ x = y := fun z => e z.symm
      simp [eqV, e, e']
theorem flat_texts : ∀ ks : List Str, (ks.map V.str).all flatV = true
  | [] => rfl
  | y :: ks => by
    rw [List.map_cons, List.all_cons, flat_texts ks]
    rfl
theorem q_inTexts {K : PySem.W.Frag} {H : Hp} {x : Str} {a : Addr} {ks : List Str} {Q : VK} (h : Sq K H a (ks.map V.str)) (q : Q (.bl (decide (x ∈ ks))) H) : rInU K (.str x) (.ref a) H Q := by
  refine .inl ⟨a, ks.map V.str, rfl, h, rfl, flat_texts ks, ?_⟩
  rw [in_texts]
  exact q
section
variable {P : Program} {w : World} {K : PySem.W.Frag} {mg : Str → Option Value} {base : Heap}
def spWordOf (K : PySem.W.Frag) : Sp := fun vs H Q _ => ∃ (v : V) (d : PyData) (a : Addr) (ks : List Str), vs = [v, .ref a] ∧ Is H v d ∧ Small d ∧ Sq K H a (ks.map V.str) ∧ ∀ H', Same H H' → Q (.bl (isWordOf ks d)) H'
end

/-! ### the bag of draws -/
/-- a bag stands at p -/
def Bag (H : Hp) (p : Addr) : Prop := ∃ (q : Addr) (b0 b1 b2 : Int) (cs : List Int), H p = some (.lst [.int b0, .int b1, .int b2, .ref q]) ∧ H q = some (.lst (cs.map V.int)) ∧
  0 ≤ b0 ∧ 0 ≤ b1 ∧ b1 < 2147483647 ∧ 0 ≤ b2 ∧ cs.length ≤ 63 ∧ ∀ c ∈ cs, 0 ≤ c
/-- something was drawn, made: the bag at p may have changed, all else that was tracked stands -/
structure Ext (p : Addr) (H H' : Hp) : Prop where
  bag : Bag H' p
  inner : ∀ (b0 b1 b2 : Int) (q : Addr), H p = some (.lst [.int b0, .int b1, .int b2, .ref q]) → ∃ c0 c1 c2 : Int, H' p = some (.lst [.int c0, .int c1, .int c2, .ref q])
  keep : ∀ b o, b ≠ p → H b = some o → H' b = some o
theorem Ext.refl {p : Addr} {H : Hp} (h : Bag H p) : Ext p H H := ⟨h, fun _ _ _ _ e => ⟨_, _, _, e⟩, fun _ _ _ e => e⟩
theorem Ext.trans {p : Addr} {H H1 H2 : Hp} (a : Ext p H H1) (b : Ext p H1 H2) : Ext p H H2 := ⟨b.bag, fun _ _ _ _ e => let ⟨_, _, _, e1⟩ := a.inner _ _ _ _ e; b.inner _ _ _ _ e1, fun c o n e => b.keep c o n (a.keep c o n e)⟩
theorem Bag.same {p : Addr} {H H' : Hp} (h : Bag H p) (s : Same H H') : Bag H' p := by
  obtain ⟨q, b0, b1, b2, cs, h1, h2, r⟩ := h
  exact ⟨q, b0, b1, b2, cs, s _ _ h1, s _ _ h2, r⟩
theorem Ext.same {p : Addr} {H H' : Hp} (h : Bag H p) (s : Same H H') : Ext p H H' := ⟨h.same s, fun _ _ _ _ e => ⟨_, _, _, s _ _ e⟩, fun b o _ e => s b o e⟩
/-- an object that is new to H is written: the bag stays -/
theorem Ext.over {p a : Addr} {H H1 : Hp} {o : HO} (hB : Bag H p) (x : Ext p H H1) (n : H a = none) : Ext p H (upd H1 a o) := by
  obtain ⟨q, b0, b1, b2, cs, h1, h2, _⟩ := hB
  have nap : a ≠ p := fun z => by rw [z, h1] at n; cases n
  have naq : a ≠ q := fun z => by rw [z, h2] at n; cases n
  obtain ⟨bq, c0, c1, c2, ds, k1, k2, r⟩ := x.bag
  obtain ⟨e0, e1, e2, e3⟩ := x.inner _ _ _ _ h1
  have ebq : bq = q := by
    rw [k1] at e3
    cases e3
    rfl
  subst ebq
  refine ⟨⟨bq, c0, c1, c2, ds, by rw [upd_ne nap.symm]; exact k1, by rw [upd_ne naq.symm]; exact k2, r⟩, fun d0 d1 d2 q' e => ?_, fun b u nb e => ?_⟩
  · obtain ⟨f0, f1, f2, f3⟩ := x.inner _ _ _ _ e
    exact ⟨f0, f1, f2, by rw [upd_ne nap.symm]; exact f3⟩
  · rw [upd_ne (ne_of_none e n)]
    exact x.keep b u nb e
theorem Ext.then {p : Addr} {H H1 H2 : Hp} (a : Ext p H H1) (s : Same H1 H2) : Ext p H H2 := a.trans (.same a.bag s)
theorem atl {xs : List V} {z : Int} {i : Nat} (e : z = (i : Int)) (hi : i < xs.length) : ixN xs.length z = some i := by
  subst e
  simp [ixN, hi]
/-- one of as many: the number drawn -/
def spTake : Sp := fun vs H Q _ => ∃ (p : Addr) (m : Int), vs = [.ref p, .int m] ∧ 0 < m ∧ m < 1073741824 ∧ Bag H p ∧ ∀ (v : Int) (H' : Hp), 0 ≤ v → v < m → Ext p H H' → Q (.int v) H'
theorem q_geI {i j : Int} {H : Hp} {Q : VK} (q : Q (.bl (decide (j ≤ i))) H) : rI0 (fun i j => V.bl (decide (j ≤ i))) (.int i) (.int j) H Q := ⟨i, j, rfl, rfl, q⟩
section
variable {P : Program} {w : World} {K : PySem.W.Frag} {mg : Str → Option Value} {base : Heap}
end

theorem Sq.ext {K : PySem.W.Frag} {H H' : Hp} {p a : Addr} {xs : List V} (x : Ext p H H') (n : a ≠ p) (h : Sq K H a xs) : Sq K H' a xs := by
  rcases h with (h | ⟨o, h⟩) | h
  · rcases h with h | ⟨o, h⟩
    · exact .inl (.inl (.inl (x.keep _ _ n h)))
    · exact .inl (.inl (.inr ⟨o, x.keep _ _ n h⟩))
  all_goals first
    | (rcases h with (h | ⟨o, h⟩) | h
       · exact .inr (.inl (.inl (x.keep _ _ n h)))
       · exact .inr (.inl (.inr ⟨o, x.keep _ _ n h⟩))
       · exact .inr (.inr h))
    | exact .inl (.inr h)
    | exact .inl (.inr ⟨_, h⟩)
theorem Bag.upd {p a : Addr} {H : Hp} {o : HO} (h : Bag H p) (n : H a = none) : Bag (upd H a o) p := h.same (same_upd n)
theorem Bag.at {p : Addr} {H : Hp} (h : Bag H p) : ∃ o, H p = some o := by
  obtain ⟨q, b0, b1, b2, cs, h1, _⟩ := h
  exact ⟨_, h1⟩
theorem Bag.ne {p a : Addr} {H : Hp} (h : Bag H p) (n : H a = none) : a ≠ p := fun z => by
  obtain ⟨o, e⟩ := h.at
  rw [z, e] at n
  cases n
/-- the bag that the law begins with -/
def spBag (K : PySem.W.Frag) : Sp := fun vs H Q _ => ∃ (a : Addr) (ns : List Int), vs = [.ref a] ∧ SqL K H a (ns.map V.int) ∧ ∀ (p : Addr) (H' : Hp), Bag H' p → Q (.ref p) H'
/-- one of several things -/
def spOne (K : PySem.W.Frag) : Sp := fun vs H Q _ => ∃ (p : Addr) (t : V), vs = [.ref p, t] ∧ Bag H p ∧
  ((∃ a xs, t = .ref a ∧ a ≠ p ∧ Sq K H a xs ∧ 0 < xs.length ∧ xs.length ≤ 1000000 ∧ ∀ (i : Nat) (v : V) (H' : Hp), xs[i]? = some v → Ext p H H' → Q v H') ∨
    (∃ z : Str, t = .str z ∧ 0 < z.length ∧ z.length ≤ 1000000 ∧ ∀ (c : Nat) (H' : Hp), c ∈ z.cps.toList → Ext p H H' → Q (.str ⟨#[c]⟩) H'))
/-- the things in another order -/
def spMixed (K : PySem.W.Frag) : Sp := fun vs H Q _ => ∃ (p a : Addr) (xs : List V), vs = [.ref p, .ref a] ∧ Bag H p ∧ a ≠ p ∧ SqL K H a xs ∧ xs.length ≤ 1000 ∧
  ∀ (q : Addr) (ys : List V) (H' : Hp), ys.Perm xs → H' q = some (.lst ys) → q ≠ p → Ext p H H' → Q (.ref q) H'
section
variable {P : Program} {w : World} {K : PySem.W.Frag} {mg : Str → Option Value} {base : Heap}
end

/-- a text such as a name is -/
def Nm (x : Str) : Prop := 1 ≤ x.length ∧ x.length ≤ 8 ∧ ∀ c ∈ x.cps.toList, c < 128
def menu : List Str := ["do", "of", "case", "end", "if", "else", "loop", "block", "leave", "again", "mark", "yes", "no", "at", "try", "on"]
def nmB (x : Str) : Bool := decide (1 ≤ x.length) && decide (x.length ≤ 8) && x.cps.toList.all fun c => decide (c < 128)
theorem nm_of {x : Str} (h : nmB x = true) : Nm x := by
  simp only [nmB, Bool.and_eq_true, decide_eq_true_eq, List.all_eq_true] at h
  exact ⟨h.1.1, h.1.2, h.2⟩
theorem menu_nm : ∀ x ∈ menu, Nm x := fun x hx => nm_of (by
  have : menu.all nmB = true := by decide +kernel
  exact List.all_eq_true.mp this x hx)
theorem menu_split : Txt.split (Str.ofString "do of case end if else loop block leave again mark yes no at try on") (Str.ofString " ") = menu := by decide +kernel
/-- names, as many as asked for -/
def spNames : Sp := fun vs H Q _ => ∃ (p : Addr) (m : Int), vs = [.ref p, .int m] ∧ 0 ≤ m ∧ m ≤ 8 ∧ Bag H p ∧
  ∀ (a : Addr) (xs : List Str) (H' : Hp), (xs.length : Int) = m → (∀ x ∈ xs, Nm x) → H' a = some (.tup (xs.map V.str)) → a ≠ p → Ext p H H' → Q (.ref a) H'
theorem cutV_map {α : Type} (f : α → V) (xs : List α) (lo hi : Option Int) : cutV (xs.map f) lo hi = ((xs.drop (HT.sIx xs.length 0 lo)).take (HT.sIx xs.length xs.length hi - HT.sIx xs.length 0 lo)).map f := by
  unfold cutV
  rw [List.length_map, ← List.map_drop, ← List.map_take]
def cutL {α : Type} (xs : List α) (lo hi : Option Int) : List α := (xs.drop (HT.sIx xs.length 0 lo)).take (HT.sIx xs.length xs.length hi - HT.sIx xs.length 0 lo)
theorem cutL_mem {α : Type} {xs : List α} {lo hi : Option Int} {x : α} (h : x ∈ cutL xs lo hi) : x ∈ xs := List.mem_of_mem_drop (List.mem_of_mem_take h)
theorem cutL_len {α : Type} (xs : List α) (lo hi : Option Int) : (cutL xs lo hi).length ≤ xs.length := by
  unfold cutL
  refine Nat.le_trans (List.length_take_le' _ _) ?_
  rw [List.length_drop]
  omega
theorem cutL_from {α : Type} (xs : List α) {v : Int} (h : 0 ≤ v) : (cutL xs (some v) none).length = xs.length - min v.toNat xs.length := by
  unfold cutL
  rw [List.length_take, List.length_drop]
  have e : HT.sIx xs.length 0 (some v) = min v.toNat xs.length := by
    show (if v < 0 then _ else _) = _
    rw [if_neg (by omega)]
  rw [e]
  show min (xs.length - min v.toNat xs.length) _ = _
  omega
theorem cutL_to {α : Type} (xs : List α) {v : Int} (h : 0 ≤ v) : (cutL xs none (some v)).length = min v.toNat xs.length := by
  unfold cutL
  rw [List.length_take, List.length_drop]
  have e : HT.sIx xs.length xs.length (some v) = min v.toNat xs.length := by
    show (if v < 0 then _ else _) = _
    rw [if_neg (by omega)]
  rw [e]
  show min (min v.toNat xs.length - 0) (xs.length - 0) = _
  omega
theorem range_get {n i c : Nat} (h : (List.range n)[i]? = some c) : c = i ∧ i < n := by
  obtain ⟨h1, h2⟩ := List.getElem?_eq_some_iff.mp h
  rw [List.getElem_range] at h2
  rw [List.length_range] at h1
  exact ⟨h2.symm, h1⟩
theorem aaa_nm (i : Nat) (h : i < 8) : Nm (cutS (Str.ofString "aaaaaaaa") none (some (0 + (i : Int) + 1))) := nm_of (by
  have : (List.range 8).all (fun i => nmB (cutS (Str.ofString "aaaaaaaa") none (some (0 + (i : Int) + 1)))) = true := by decide +kernel
  exact List.all_eq_true.mp this i (List.mem_range.mpr h))
def abc : Str := "abcdefghijklmnopqrstuvwxyz"
theorem abc_len : abc.cps.toList.length = 26 := by decide +kernel
theorem abc_len' : abc.length = 26 := by decide +kernel
theorem abc_lo : ∀ c ∈ abc.cps.toList, c < 128 := by
  have : abc.cps.toList.all (fun c => decide (c < 128)) = true := by decide +kernel
  intro c hc
  exact of_decide_eq_true (List.all_eq_true.mp this c hc)
def letter (z : Int) : Nat := abc.cps.toList.getD (z % 26).toNat 0
theorem letter_get (z : Int) : abc.cps.toList[(z % 26).toNat]? = some (letter z) := by
  have h : (z % 26).toNat < abc.cps.toList.length := by
    rw [abc_len]
    omega
  unfold letter
  rw [List.getD_eq_getElem?_getD, List.getElem?_eq_getElem h]
  rfl
theorem letter_at (z : Int) : atI abc.cps.toList (z % 26) = some (letter z) := by
  have := atI_nat (letter_get z)
  rwa [show (((z % 26).toNat : Nat) : Int) = z % 26 from by omega] at this
theorem letter_lo (z : Int) : letter z < 128 := abc_lo _ (List.mem_of_getElem? (letter_get z))
theorem nm_behind {x : Str} {c : Nat} (l : x.length ≤ 7) (h : ∀ c ∈ x.cps.toList, c < 128) (hc : c < 128) : Nm (x ++ ⟨#[c]⟩) := by
  have e : (x ++ (⟨#[c]⟩ : Str)).cps = x.cps ++ #[c] := rfl
  have e2 : (x ++ (⟨#[c]⟩ : Str)).length = x.length + 1 := by
    show (x.cps ++ #[c]).size = x.cps.size + 1
    simp
  refine ⟨by omega, by omega, fun d hd => ?_⟩
  rw [e, Array.toList_append] at hd
  rcases List.mem_append.mp hd with z | z
  · exact h d z
  · rw [List.mem_singleton.mp z]
    exact hc
theorem p0' (x : Int) (h : 0 < x) : 0 < x := h
section
variable {P : Program} {w : World} {K : PySem.W.Frag} {mg : Str → Option Value} {base : Heap}
end

/-! ### the law's own looks -/
theorem fm_none {α β : Type} (p : α → Bool) (f : α → β) : ∀ xs : List α, (xs.filterMap fun x => if p x then none else some (f x)).isEmpty = xs.all p
  | [] => rfl
  | x :: xs => by
    cases h : p x with
    | true => rw [List.filterMap_cons_none (by rw [h]; rfl), fm_none p f xs, List.all_cons, h, Bool.true_and]
    | false =>
      rw [List.filterMap_cons_some (b := f x) (by rw [h]; rfl), List.all_cons, h]
      rfl
section
variable {P : Program} {w : World} {K : PySem.W.Frag} {mg : Str → Option Value} {base : Heap}
def isLoneOf (ks : List Str) : PyData → Bool | .tuple [.str x] => decide (x ∈ ks) | _ => false
theorem lone_of (k : Str) (d : PyData) : isLoneOf [k] d = isLone k d := by
  unfold isLoneOf isLone
  split <;> simp
def spLawWord (K : PySem.W.Frag) : Sp := fun vs H Q _ => ∃ (v : V) (d : PyData) (a b : Addr) (ks ls : List Str), vs = [v, .ref a, .ref b] ∧ Is H v d ∧ Small d ∧ Sq K H a (ks.map V.str) ∧ Sq K H b (ls.map V.str) ∧
  ∀ H', Same H H' → Q (.bl (isLoneOf ks d || isWordOf ls d)) H'
end

/-! ### texts that rise, and sorted texts -/
theorem str_ext {x y : Str} (h : x.cps.toList = y.cps.toList) : x = y := by
  cases x
  cases y
  simp only at h
  rw [Array.toList_inj.mp h]
theorem asc_pw : ∀ {xs : List Str}, asc xs = true → xs.Pairwise fun x y => x.cps.toList < y.cps.toList
  | [], _ => .nil
  | [_], _ => List.pairwise_singleton _ _
  | x :: y :: r, h => by
    have h' : slt x y = true ∧ asc (y :: r) = true := by
      rw [asc, Bool.and_eq_true] at h
      exact h
    have ih := asc_pw h'.2
    have h1 : x.cps.toList < y.cps.toList := of_decide_eq_true h'.1
    refine List.pairwise_cons.mpr ⟨fun z hz => ?_, ih⟩
    rcases List.mem_cons.mp hz with e | hz
    · rw [e]
      exact h1
    · exact List.lt_trans h1 ((List.pairwise_cons.mp ih).1 z hz)
theorem rise_pw : ∀ {x : Str} {r : List Str}, risingS x r = true → (x :: r).Pairwise fun x y => x.cps.toList ≤ y.cps.toList
  | _, [], _ => List.pairwise_singleton _ _
  | x, y :: r, h => by
    have h' : ltCps y.cps.toList x.cps.toList = false ∧ risingS y r = true := by
      rw [risingS, Bool.and_eq_true, Bool.not_eq_true'] at h
      exact h
    have ih := rise_pw h'.2
    have h1 : x.cps.toList ≤ y.cps.toList := by
      have := h'.1
      rw [ltCps_eq, decide_eq_false_iff_not] at this
      exact List.not_lt.mp this
    refine List.pairwise_cons.mpr ⟨fun z hz => ?_, ih⟩
    rcases List.mem_cons.mp hz with e | hz
    · rw [e]
      exact h1
    · exact List.le_trans h1 ((List.pairwise_cons.mp ih).1 z hz)
theorem sorted_pw : ∀ {ys : List Str}, sortedS ys = true → ys.Pairwise fun x y => x.cps.toList ≤ y.cps.toList
  | [], _ => .nil
  | _ :: _, h => rise_pw h
theorem asc_of : ∀ {ys : List Str}, (ys.Pairwise fun x y => x.cps.toList ≤ y.cps.toList) → ys.Nodup → asc ys = true
  | [], _, _ => rfl
  | [_], _, _ => rfl
  | x :: y :: r, h, nd => by
    obtain ⟨h1, h2⟩ := List.pairwise_cons.mp h
    obtain ⟨n1, n2⟩ := List.nodup_cons.mp nd
    rw [asc, asc_of h2 n2, Bool.and_true]
    refine decide_eq_true ?_
    have le := h1 y List.mem_cons_self
    have ne : x.cps.toList ≠ y.cps.toList := fun e => n1 (by rw [str_ext e]; exact List.mem_cons_self)
    exact Classical.byContradiction fun n => ne (List.le_antisymm le (List.not_lt.mp n))
theorem asc_iff {xs ys : List Str} (p : ys.Perm (met [] xs)) (s : sortedS ys = true) : decide (xs = ys) = asc xs := by
  rw [Bool.eq_iff_iff, decide_eq_true_eq]
  constructor
  · intro e
    rw [e]
    exact asc_of (sorted_pw s) (p.nodup_iff.mpr (met_nodup xs [] List.nodup_nil))
  · intro a
    have pw := asc_pw a
    have nd : xs.Nodup := pw.imp fun h e => by
      rw [e] at h
      exact List.lt_irrefl _ h
    have pm : (met [] xs).Perm xs := perm_sub xs _ nd (fun x hx => (met_mem xs [] x).mpr (.inr hx)) (by have := met_len xs []; simpa using this)
    exact List.Perm.eq_of_pairwise (le := fun x y : Str => x.cps.toList ≤ y.cps.toList) (fun x y _ _ h1 h2 => str_ext (List.le_antisymm h1 h2)) (pw.imp fun h => List.le_of_lt h) (sorted_pw s) (p.trans pm).symm
/-! ### lists of texts as data -/
theorem are_strs {H : Hp} : ∀ xs : List Str, Are H (xs.map V.str) (xs.map .str)
  | [] => .nil
  | x :: xs => .cons (.str x) (are_strs xs)
theorem eqv_strs : ∀ xs ys : List Str, PyData.eqvAll (xs.map .str) (ys.map .str) = decide (xs = ys)
  | [], [] => rfl
  | [], _ :: _ => by simp [PyData.eqvAll]
  | _ :: _, [] => by simp [PyData.eqvAll]
  | x :: xs, y :: ys => by
    simp only [List.map_cons, PyData.eqvAll, PyData.eqv, eqv_strs xs ys]
    rw [Bool.eq_iff_iff]
    simp
def okT (x : Str) : Prop := ∀ c ∈ x.cps.toList, c < 128
theorem depth_strs : ∀ xs : List Str, PyData.depthAll (xs.map .str) = 0
  | [] => rfl
  | x :: xs => by
    simp only [List.map_cons, PyData.depthAll, PyData.depth, depth_strs xs, Nat.max_self]
theorem strOk_of {x : Str} (h : okT x) : PyData.strOk x = true := by
  unfold PyData.strOk
  rw [Array.all_eq_true']
  intro c hc
  have := h c (by simpa using hc)
  exact decide_eq_true (Nat.lt_trans this (by decide))
theorem lay_strs : ∀ {xs : List Str}, (∀ x ∈ xs, okT x) → PyData.canLayAll0 (xs.map .str) = true
  | [], _ => rfl
  | x :: xs, h => by
    simp only [List.map_cons, PyData.canLayAll0, PyData.canLay0, Bool.and_eq_true]
    exact ⟨strOk_of (h x List.mem_cons_self), lay_strs fun y hy => h y (List.mem_cons_of_mem _ hy)⟩
theorem q_eqTexts {K : PySem.W.Frag} {H : Hp} {p q : Addr} {xs ys : List Str} {Q : VK} (hp : H p = some (.lst (xs.map V.str))) (hq : H q = some (.lst (ys.map V.str))) (ox : ∀ x ∈ xs, okT x) (oy : ∀ x ∈ ys, okT x)
    (k : Q (.bl (decide (xs = ys))) H) : rEqU K (.ref p) (.ref q) H Q := by
  refine .inr (.inl ⟨.list (xs.map .str), .list (ys.map .str), .lst hp (are_strs xs), .lst hq (are_strs ys), lay_strs ox, lay_strs oy, .inl ?_, ?_⟩)
  · simp only [PyData.depth, depth_strs]
    decide
  · show Q (.bl (PyData.eqvAll _ _)) H
    rw [eqv_strs]
    exact k

/-- tuples of names, of pairs, that are not too long for a set -/
structure Few (d : PyData) : Prop where
  names : ∀ ds, d = .tuple ds → ds.all isName = true → ds.length < 64
  pairs : ∀ ds es, d = .tuple ds → at' ds 1 = .tuple es → es.all isPair = true → es.length < 64
def spF (p : PyData → Bool) : Sp := fun vs H Q _ => ∃ (v : V) (d : PyData), vs = [v] ∧ Is H v d ∧ Small d ∧ Few d ∧ ∀ H', Same H H' → Q (.bl (p d)) H'
theorem zip_all (p : PyData → Bool) : ∀ {xs : List V} {ds : List PyData}, xs.length = ds.length → (xs.zip ds).all (fun x => p x.2) = ds.all p
  | [], [], _ => rfl
  | _ :: xs, d :: ds, h => by
    rw [List.zip_cons_cons, List.all_cons, List.all_cons, zip_all p (by simpa using h)]
  | [], _ :: _, h => by simp at h
  | _ :: _, [], h => by simp at h
theorem zip_at {xs : List V} {ds : List PyData} {i : Nat} {x : V × PyData} (h : (xs.zip ds)[i]? = some x) : xs[i]? = some x.1 ∧ ds[i]? = some x.2 := List.getElem?_zip_eq_some.mp h
theorem zip_len {xs : List V} {ds : List PyData} (h : xs.length = ds.length) : (xs.zip ds).length = xs.length := by
  rw [List.length_zip]
  omega
theorem fm_len {α β : Type} (p : α → Bool) (f : α → β) (xs : List α) : decide ((xs.filterMap fun x => if p x then some (f x) else none).length = xs.length) = xs.all p := by
  have e : (xs.filterMap fun x => if p x then some (f x) else none) = (xs.filter p).map f := by
    induction xs with
    | nil => rfl
    | cons x xs ih =>
      cases h : p x with
      | true => rw [List.filterMap_cons_some (b := f x) (by rw [h]; rfl), List.filter_cons_of_pos h, List.map_cons, ih]
      | false => rw [List.filterMap_cons_none (by rw [h]; rfl), List.filter_cons_of_neg (by rw [h]; exact Bool.false_ne_true), ih]
  rw [e, List.length_map, Bool.eq_iff_iff, decide_eq_true_eq, List.all_eq_true]
  exact List.length_filter_eq_length_iff
theorem name_ok {d : PyData} (h : isName d = true) : okT (textOf d) := by
  obtain ⟨x, rfl⟩ := name_text h
  have h' : nameB x = true := h
  rw [nameB, Bool.and_eq_true, List.all_eq_true] at h'
  intro c hc
  have h2 := of_decide_eq_true (h'.2 c hc)
  have : letters.cps.toList.all (fun c => decide (c < 128)) = true := by decide +kernel
  exact of_decide_eq_true (List.all_eq_true.mp this c h2)
section
variable {P : Program} {w : World} {K : PySem.W.Frag} {mg : Str → Option Value} {base : Heap}
end

/-- the seven truths of a thing -/
def seven (d : PyData) : List Bool := [isInt d, isTruth d, isName d, isNames d, isFact d, isWay d, isExit d]
def spTold : Sp := fun vs H Q _ => ∃ (v : V) (d : PyData), vs = [v] ∧ Is H v d ∧ Small d ∧ Few d ∧ ∀ H' r, Same H H' → H' r = some (.lst ((seven d).map V.bl)) → H r = none → Q (.ref r) H'
theorem Same.none {H H' : Hp} {a : Addr} (s : Same H H') (e : H' a = none) : H a = none := by
  cases h : H a with
  | none => rfl
  | some o => rw [s _ _ h] at e; cases e
section
variable {P : Program} {w : World} {K : PySem.W.Frag} {mg : Str → Option Value} {base : Heap}
end

/-! ### data that does not lean on some of the objects -/
/-- without what stands at some places -/
def hide (S : Addr → Bool) (H : Hp) : Hp := fun b => if S b = true then none else H b
theorem hide_ne {S : Addr → Bool} {b : Addr} {H : Hp} (n : S b = false) : hide S H b = H b := if_neg (by rw [n]; exact Bool.false_ne_true)
theorem hide_some {S : Addr → Bool} {b : Addr} {H : Hp} {o : HO} (e : hide S H b = some o) : S b = false ∧ H b = some o := by
  cases h : S b with
  | true =>
    rw [hide, if_pos h] at e
    cases e
  | false =>
    rw [hide_ne h] at e
    exact ⟨rfl, e⟩
theorem hide_in {S : Addr → Bool} {H : Hp} : Same (hide S H) H := fun b o e => (hide_some e).2
theorem hide_mono {S : Addr → Bool} {H H' : Hp} (s : Same H H') : Same (hide S H) (hide S H') := fun b o e => by
  obtain ⟨n, e⟩ := hide_some e
  rw [hide_ne n]
  exact s b o e
theorem hide_ext {S : Addr → Bool} {p : Addr} {H H' : Hp} (hp : S p = true) (x : Ext p H H') : Same (hide S H) (hide S H') := fun b o e => by
  obtain ⟨n, e⟩ := hide_some e
  rw [hide_ne n]
  exact x.keep b o (fun z => by rw [z, hp] at n; cases n) e
/-- these places are tracked -/
def Trk (S : Addr → Bool) (H : Hp) : Prop := ∀ b, S b = true → ∃ o, H b = some o
theorem Trk.no {S : Addr → Bool} {H : Hp} {a : Addr} (t : Trk S H) (n : H a = none) : S a = false := by
  cases h : S a with
  | false => rfl
  | true =>
    obtain ⟨o, e⟩ := t a h
    rw [n] at e
    cases e
theorem Trk.same {S : Addr → Bool} {H H' : Hp} (t : Trk S H) (s : Same H H') : Trk S H' := fun b h => by
  obtain ⟨o, e⟩ := t b h
  exact ⟨o, s _ _ e⟩
theorem Trk.ext {S : Addr → Bool} {p : Addr} {H H' : Hp} (t : Trk S H) (x : Ext p H H') : Trk S H' := fun b h => by
  obtain ⟨o, e⟩ := t b h
  by_cases n : b = p
  · rw [n]
    exact x.bag.at
  · exact ⟨o, x.keep b o n e⟩
theorem ne_p {S : Addr → Bool} {p a : Addr} (hp : S p = true) (n : S a = false) : a ≠ p := fun z => by
  rw [z, hp] at n
  cases n
/-- what is tracked in the first is in the second -/
def Dom (G H : Hp) : Prop := ∀ a, H a = none → G a = none
theorem Dom.refl (G : Hp) : Dom G G := fun _ h => h
theorem Dom.trans {G H I : Hp} (a : Dom G H) (b : Dom H I) : Dom G I := fun x h => a x (b x h)
theorem Dom.same {H H' : Hp} (s : Same H H') : Dom H H' := fun a h => Same.none s h
theorem Dom.ext {p : Addr} {H H' : Hp} (x : Ext p H H') : Dom H H' := fun a h => by
  by_cases n : a = p
  · obtain ⟨o, e⟩ := x.bag.at
    rw [n, e] at h
    cases h
  · cases q : H a with
    | none => rfl
    | some o => rw [x.keep a o n q] at h; cases h
/-- a value, new to the heap -/
def NewV (G : Hp) (v : V) : Prop := ∀ a, v = .ref a → G a = none
theorem NewV.dom {G H : Hp} {v : V} (d : Dom G H) (n : NewV H v) : NewV G v := fun a e => d a (n a e)
/-! ### what displays give -/
section
variable (S : Addr → Bool) (G : Hp) (σ : L2.St) (H1 : Hp)
/-- the expression gives this data, newly made -/
def Gives (te : TE) (d : PyData) : Prop := ∀ (H : Hp) (Q : VK), Same H1 H → (∀ v H', Is (hide S H') v d → NewV G v → Same H H' → Q v H') → te σ H Q
def GivesAll (ta : TA) (ds : List PyData) : Prop := ∀ (H : Hp) (Q : List V → Hp → Prop), Same H1 H → (∀ vs H', Are (hide S H') vs ds → (∀ v ∈ vs, NewV G v) → Same H H' → Q vs H') → ta σ H Q
end
section
variable {S : Addr → Bool} {G : Hp} {σ : L2.St} {H1 : Hp}
theorem g_non : Gives S G σ H1 (tC .non) .none := fun H Q _ k => k _ H .non (fun a e => by cases e) (Same.refl H)
theorem g_bl {b : Bool} : Gives S G σ H1 (tC (.bl b)) (.bool b) := fun H Q _ k => k _ H (.bl b) (fun a e => by cases e) (Same.refl H)
theorem g_int {i : Int} : Gives S G σ H1 (tC (.int i)) (.int i) := fun H Q _ k => k _ H (.int i) (fun a e => by cases e) (Same.refl H)
theorem g_str {x : Str} : Gives S G σ H1 (tC (.str x)) (.str x) := fun H Q _ k => k _ H (.str x) (fun a e => by cases e) (Same.refl H)
theorem g_nil : GivesAll S G σ H1 tNil [] := fun H Q _ k => k [] H .nil (fun v h => by cases h) (Same.refl H)
theorem g_cons {te : TE} {ta : TA} {d : PyData} {ds : List PyData} (a : Gives S G σ H1 te d) (b : GivesAll S G σ H1 ta ds) : GivesAll S G σ H1 (tCons te ta) (d :: ds) := fun H Q s k =>
  a H _ s fun v H2 h n s2 => b H2 _ (s.trans s2) fun vs H3 hs ns s3 => k (v :: vs) H3 (.cons (Is.same (hide_mono s3) h) hs) (fun u hu => by
    rcases List.mem_cons.mp hu with e | hu
    · rw [e]; exact n
    · exact ns u hu) (s2.trans s3)
theorem new_at {H H2 : Hp} {a : Addr} (hT : Trk S H1) (hD : Dom G H1) (s : Same H1 H) (s2 : Same H H2) (n : H2 a = none) (o : HO) : S a = false ∧ NewV G (.ref a) ∧ Same H (upd H2 a o) ∧ Same (hide S H2) (hide S (upd H2 a o)) ∧ hide S (upd H2 a o) a = some o := by
  have ne : S a = false := (hT.same (s.trans s2)).no n
  refine ⟨ne, fun b e => ?_, s2.trans (same_upd n), hide_mono (same_upd n), by rw [hide_ne ne]; exact upd_same⟩
  cases e
  exact hD a (Same.none (s.trans s2) n)
theorem g_lst {ta : TA} {ds : List PyData} (hT : Trk S H1) (hD : Dom G H1) (h : GivesAll S G σ H1 ta ds) (l : ds.length ≤ 1000000) : Gives S G σ H1 (tLst ta) (.list ds) := fun H Q s k =>
  h H _ s fun vs H2 hs _ s2 => ⟨sz1 (by rw [hs.length]; exact l), fun a n => by
    obtain ⟨ne, nw, s3, s4, e⟩ := new_at hT hD s s2 n (.lst vs)
    exact k _ _ (.lst e (Are.same s4 hs)) nw s3⟩
theorem g_tup {ta : TA} {ds : List PyData} (hT : Trk S H1) (hD : Dom G H1) (h : GivesAll S G σ H1 ta ds) (l : ds.length ≤ 1000000) : Gives S G σ H1 (tTup ta) (.tuple ds) := fun H Q s k =>
  h H _ s fun vs H2 hs _ s2 => ⟨sz1 (by rw [hs.length]; exact l), fun a n => by
    obtain ⟨ne, nw, s3, s4, e⟩ := new_at hT hD s s2 n (.tup vs)
    exact k _ _ (.tup e (Are.same s4 hs)) nw s3⟩
theorem g_dnew (hT : Trk S H1) (hD : Dom G H1) : Gives S G σ H1 tDNewK (.dict []) := fun H Q s k a n => by
  obtain ⟨ne, nw, s3, s4, e⟩ := new_at hT hD s (Same.refl H) n (.dK [])
  exact k _ _ (.dic e .nil) nw s3
theorem g_neg {i : Int} : Gives S G σ H1 (tUn (rU fun i => .int (-i)) (tC (.int i))) (.int (-i)) := fun H Q _ k => ⟨i, rfl, k _ H (.int _) (fun a e => by cases e) (Same.refl H)⟩
theorem g_pow {i j : Int} (c : CPow i j) : Gives S G σ H1 (tOp (rI CPow fun i j => .int (i ^ j.toNat)) (tC (.int i)) (tC (.int j))) (.int (i ^ j.toNat)) := fun H Q _ k =>
  ⟨i, j, rfl, rfl, c, k _ H (.int _) (fun a e => by cases e) (Same.refl H)⟩
end

section
variable {S : Addr → Bool} {G : Hp} {σ : L2.St} {H1 : Hp}
/-- {"a": "b"} -/
theorem g_d1 {x y : Str} (hT : Trk S H1) (hD : Dom G H1) : Gives S G σ H1 (tDisp [(tC (.str x), tC (.str y))]) (.dict [(.str x, .str y)]) := fun H Q s k q n => by
  refine ⟨upd_same, [(.inr x, .str y)], rfl, by show 1 ≤ 15; decide, ?_⟩
  have ne : S q = false := (hT.same s).no n
  have e0 : mergeK [] [(Sum.inr x, V.str y)] = [(Sum.inr x, V.str y)] := rfl
  rw [e0]
  refine k _ _ (.dic (kvs := [(.inr x, .str y)]) (by rw [hide_ne ne]; exact upd_same) (.cons (.str y) .nil)) (fun b e => by cases e; exact hD q (Same.none s n)) ?_
  exact same_over n (same_upd n)
/-- {"a": ()} -/
theorem g_d2 {x : Str} (hT : Trk S H1) (hD : Dom G H1) : Gives S G σ H1 (tDisp [(tC (.str x), tTup tNil)]) (.dict [(.str x, .tuple [])]) := fun H Q s k q n => by
  refine ⟨Nat.zero_le _, fun a na => ?_⟩
  have ne : S q = false := (hT.same s).no n
  have nea : S a = false := ((hT.same s).same (same_upd n)).no na
  have naq : q ≠ a := fun z => by rw [← z, upd_same] at na; cases na
  refine ⟨same_upd na _ _ upd_same, [(.inr x, .ref a)], rfl, by show 1 ≤ 15; decide, ?_⟩
  have e0 : mergeK [] [(Sum.inr x, V.ref a)] = [(Sum.inr x, V.ref a)] := rfl
  rw [e0]
  refine k _ _ (.dic (kvs := [(.inr x, .ref a)]) (by rw [hide_ne ne]; exact upd_same) (.cons (.tup (xs := []) (by rw [hide_ne nea, upd_ne naq.symm]; exact upd_same) .nil) .nil)) (fun b e => by cases e; exact hD q (Same.none s n)) ?_
  exact same_over n ((same_upd n).trans (same_upd na))
theorem are_rep {H : Hp} {v : V} {d : PyData} (h : Is H v d) : ∀ n : Nat, Are H (List.replicate n v) (List.replicate n d)
  | 0 => .nil
  | n + 1 => .cons h (are_rep h n)
theorem flat_rep (v : V) : ∀ n : Nat, (List.replicate n [v]).flatten = List.replicate n v
  | 0 => rfl
  | n + 1 => by
    rw [List.replicate_succ, List.flatten_cons, flat_rep v n]
    rfl
/-- [i] * n -/
theorem g_rep {K : PySem.W.Frag} {i j : Int} {te : TE} (hT : Trk S H1) (hD : Dom G H1) (h : te = tC (.int j)) (h0 : 0 ≤ j) (hj : j ≤ 1000000) :
    Gives S G σ H1 (tOp (rMulU K) (tLst (tCons (tC (.int i)) tNil)) te) (.list (List.replicate j.toNat (.int i))) := fun H Q s k => by
  subst h
  refine ⟨by show 1 ≤ sizeLine; decide, fun a n => .inr (.inl ⟨a, j, [.int i], rfl, rfl, upd_same, by omega, by omega, by show 1 * j.toNat ≤ sizeLine; rw [Nat.one_mul]; exact sz1 (by omega), fun b nb => ?_⟩)⟩
  rw [flat_rep]
  have nb' : S b = false := ((hT.same s).same (same_upd n)).no nb
  refine k _ _ (.lst (by rw [hide_ne nb']; exact upd_same) (are_rep (.int i) _)) (fun c e => by cases e; exact hD b (Same.none s (Same.none (same_upd n) nb))) ((same_upd n).trans (same_upd nb))
/-- what stands in a slot -/
theorem g_var {i : Nat} {v : V} {d : PyData} (e : σ[i]? = some (some v)) (h : Is (hide S H1) v d) (n : NewV G v) : Gives S G σ H1 (tVar i) d := fun H Q s k => ⟨v, e, k v H (Is.same (hide_mono s) h) n (Same.refl H)⟩
theorem g_op {r : R2} {ta tb : TE} {da db dc : PyData} (a : Gives S G σ H1 ta da) (b : Gives S G σ H1 tb db)
    (c : ∀ v u H Q, Same H1 H → Is (hide S H) v da → Is (hide S H) u db → (∀ x H', Is (hide S H') x dc → NewV G x → Same H H' → Q x H') → r v u H Q) : Gives S G σ H1 (tOp r ta tb) dc := fun H Q s k =>
  a H _ s fun v H2 h n s2 => b H2 _ (s.trans s2) fun u H3 h3 n3 s3 => c v u H3 Q (s.trans (s2.trans s3)) (Is.same (hide_mono s3) h) h3 fun x H4 h4 n4 s4 => k x H4 h4 n4 (s2.trans (s3.trans s4))
/-- xs + ys, lists -/
theorem g_cat {K : PySem.W.Frag} {ta tb : TE} {ds es : List PyData} (hT : Trk S H1) (hD : Dom G H1) (a : Gives S G σ H1 ta (.list ds)) (b : Gives S G σ H1 tb (.list es)) (l : ds.length + es.length ≤ 1000000) :
    Gives S G σ H1 (tOp (rAddU K) ta tb) (.list (ds ++ es)) := g_op a b fun v u H Q s h1 h2 k => by
  cases h1 with
  | @lst x xs _ e1 k1 =>
  cases h2 with
  | @lst y ys _ e2 k2 =>
  refine .inr (.inr (.inl ⟨x, y, xs, ys, rfl, rfl, hide_in _ _ e1, hide_in _ _ e2, sz1 (by rw [k1.length, k2.length]; exact l), fun q n => ?_⟩))
  obtain ⟨ne, nw, s3, s4, e⟩ := new_at hT hD s (Same.refl H) n (.lst (xs ++ ys))
  exact k _ _ (.lst e (Are.same s4 (Are.append k1 k2))) nw s3
end

end Gn
set_option Elab.async false
set_option linter.all false
set_option maxRecDepth 100000
set_option maxHeartbeats 4000000
namespace Gn
open PySem PySem.Spec PyProof.Rows L2 Quiet

/-! ### xs.count(t), xs a list of texts -/
def cntT (k : Str) (ys : List Str) : Nat := ys.countP (· == k)
theorem cnt_same {k : Str} : ∀ {vs : List Value} {ys : List Str}, StrsAre vs ys → vs.countP (isStrOf k) = cntT k ys
  | _, _, .nil => rfl
  | _, _, .cons n u h => by
    have ih := cnt_same (k := k) h
    unfold cntT at ih ⊢
    rw [List.countP_cons, List.countP_cons, ih]
    rfl
def rCntT (K : PySem.W.Frag) : V → List V → Hp → VK → Prop := fun x xs H Q => ∃ (p : Addr) (ys : List Str) (k : Str), x = .ref p ∧ xs = [.str k] ∧ SqL K H p (ys.map V.str) ∧ Q (.int (cntT k ys : Nat)) H
theorem strs_of {us : List Value} : ∀ {ys : List Str}, Vals (ys.map V.str) us → StrsAre us ys := by
  intro ys
  induction ys generalizing us with
  | nil => intro h; cases h; exact .nil
  | cons y ys ih =>
    intro h
    cases h with
    | cons r t =>
      obtain ⟨tk, rfl⟩ := r
      exact .cons y tk (ih t)
theorem mt_countT {X : Cx} : MtM X "list.count" (rCntT X.K) := by
  intro pins s σ H x xs v us Q I rx rxs h
  obtain ⟨p, ys, k, rfl, rfl, hs, q⟩ := h
  cases rx
  obtain ⟨u, rfl, ru⟩ := rxs.one
  obtain ⟨t, rfl⟩ := ru
  obtain ⟨its, rv, ⟨⟨cls, dd, data, sl⟩, n, ho, hc, hdn, hd⟩, hlen⟩ := I.list hs
  simp only at hc hd
  subst hc hd
  have hi := strs_of rv
  refine call_meets PySem.F.slot_list_count ⟨_, ho, rfl⟩ PySem.F.entry_list_count (PySem.F.args_list_count_2 _ _)
    (SeqAt.list_countAt p its.toArray n dd sl (.str k t) (isStrOf k)) ⟨ho, fun y hy => (eq_isStrOf k t hi y (by simpa using hy)).at _ _, ?_⟩
  have ec : its.toArray.toList.countP (isStrOf k) = cntT k ys := cnt_same hi
  refine ⟨.int (cntT k ys : Nat), H, I.tok _, ⟨s.toks, ?_⟩, q⟩
  show Value.int ((its.toArray.toList.countP (isStrOf k) : Nat) : Int) s.toks = Value.int ((cntT k ys : Nat) : Int) s.toks
  rw [ec]
theorem cntK {X : Cx} (K : PySem.W.Frag) (hK : X.K = K) : MtM X "list.count" (rCntT K) := hK ▸ mt_countT
end Gn
namespace Gn
open PySem PySem.Spec PyProof.Rows L2 Quiet
/-! ### what a for walks: a list or a tuple, whichever -/
def iSq (K : PySem.W.Frag) (tl : TE) : TI := fun σ H R => tl σ H fun x H1 => ∃ a xs, x = .ref a ∧ Sq K H1 a xs ∧
  ∀ (J : It) (G : Hp → Prop), (∀ H', (∀ o, H1 a = some o → H' a = some o) → G H') → Walk J xs.length G (YAt xs) → R J H1
theorem sqL_keep {K : PySem.W.Frag} {H H' : Hp} {a : Addr} {xs : List V} (h : SqL K H a xs) (k : ∀ o, H a = some o → H' a = some o) : SqL K H' a xs := by
  rcases h with (h | ⟨o, h⟩) | h
  · exact .inl (.inl (k _ h))
  · exact .inl (.inr ⟨o, k _ h⟩)
  · exact .inr h
theorem sqT_keep {K : PySem.W.Frag} {H H' : Hp} {a : Addr} {xs : List V} (h : SqT K H a xs) (k : ∀ o, H a = some o → H' a = some o) : SqT K H' a xs := by
  rcases h with (h | ⟨o, h⟩) | h
  · exact .inl (.inl (k _ h))
  · exact .inl (.inr ⟨o, k _ h⟩)
  · exact .inr h
theorem pi_sq {X : Cx} (K : PySem.W.Frag) (hK : X.K = K) {tg l : Expr} {tl : TE} (hl : PE X l tl) : PI X tg l (iSq K tl) := by
  subst hK
  refine ⟨fun pins s σ H R I h => ?_⟩
  refine thn (hl.run pins s σ H _ I h) ?_
  rintro v s1 ⟨x, H1, I1, r1, a, xs, e, hs, q⟩
  subst e
  rcases hs with hq | hq
  · have q := q (Itl X.K a) (fun H => SqL X.K H a xs) (fun H' k => sqL_keep hq k) walk_list
    cases r1
    obtain ⟨its, rv, p, hz⟩ := I1.list hq
    refine wpAny_pyIter_list p.isList ?_
    refine ⟨s1.heap.objs.size, [s1.heap.objs.size], _, _, H1, rfl, I1.kept (t' := s1.toks) (fun b o e => Heap.get?_push_of_some _ e), turn_list a _, ⟨_, Heap.get?_push_size _ rfl, rfl, rfl⟩, ?_, q⟩
    intro b hb
    obtain rfl := List.mem_singleton.mp hb
    exact I1.fpOk (Nat.le_refl _) (I1.hok.fresh (Nat.le_refl _))
  · have q := q (Itt X.K a) (fun H => SqT X.K H a xs) (fun H' k => sqT_keep hq k) walk_tup
    cases r1
    obtain ⟨its, rv, p, hz⟩ := I1.tuple hq
    refine wpAny_pyIter_tuple (show s1.heap.IsTuple a its.toArray from p) ?_
    refine ⟨s1.heap.objs.size, [s1.heap.objs.size], _, _, H1, rfl, I1.kept (t' := s1.toks) (fun b o e => Heap.get?_push_of_some _ e), turn_tuple a _, ⟨_, Heap.get?_push_size _ rfl, rfl, rfl⟩, ?_, q⟩
    intro b hb
    obtain rfl := List.mem_singleton.mp hb
    exact I1.fpOk (Nat.le_refl _) (I1.hok.fresh (Nat.le_refl _))
theorem q_isi2 {K : PySem.W.Frag} {H : Hp} {v : V} {d : PyData} {tp : Addr} {S T : String} {Q : VK} (h : Is H v d) (e : H tp = some (.tup [.ty S, .ty T])) {b c : Bool} (e1 : kitB (tyn d) S = some b) (e2 : kitB (tyn d) T = some c) (q : Q (.bl (b || c)) H) :
    rIsi K [v, .ref tp] H Q ∨ rIsiT K [v, .ref tp] H Q := by
  refine .inr ⟨v, tp, [.ty S, .ty T], .type (tyn d), [.type S, .type T], b || c, rfl, e, .cons (.ty S) (.cons (.ty T) .nil), ty_of h, ?_, q⟩
  have h1 := kit_ty (K := K) e1
  have h2 := kit_ty (K := K) e2
  cases b <;> cases c <;> simp [PySem.W.kitAny, h1, h2]
theorem q_eqs {K : PySem.W.Frag} {a b : Str} {H : Hp} {Q : VK} (q : Q (.bl (decide (a = b))) H) : rEqU K (.str a) (.str b) H Q := .inl ⟨rfl, by
  have e : decide (V.str a = V.str b) = decide (a = b) := by simp
  rw [e]
  exact q⟩
theorem q_nes {a b : Str} {H : Hp} {Q : VK} (q : Q (.bl (!decide (a = b))) H) : rNeU (.str a) (.str b) H Q := .inl ⟨rfl, by
  have e : decide (V.str a = V.str b) = decide (a = b) := by simp
  rw [e]
  exact q⟩
theorem q_notInTexts {K : PySem.W.Frag} {H : Hp} {x : Str} {a : Addr} {ks : List Str} {Q : VK} (h : Sq K H a (ks.map V.str)) (q : Q (.bl (!decide (x ∈ ks))) H) : rNotInU K (.str x) (.ref a) H Q := by
  refine .inl ⟨a, ks.map V.str, rfl, h, rfl, flat_texts ks, ?_⟩
  rw [in_texts]
  exact q
theorem bnot_t {b : Bool} (h : (!b) = true) : b = false := by cases b <;> first | rfl | cases h
theorem bnot_f {b : Bool} (h : (!b) = false) : b = true := by cases b <;> first | rfl | cases h
/-- t + u, tuples -/
theorem q_catT {K : PySem.W.Frag} {H : Hp} {a b : Addr} {xs ys : List V} {Q : VK} (ha : H a = some (.tup xs)) (hb : H b = some (.tup ys)) (hz : xs.length + ys.length ≤ sizeLine)
    (q : ∀ (r : Addr) (H' : Hp), Same H H' → H' r = some (.tup (xs ++ ys)) → Q (.ref r) H') : rAddU K (.ref a) (.ref b) H Q := by
  refine .inr (.inr (.inr ⟨a, b, xs, ys, rfl, rfl, SqT.of ha, SqT.of hb, hz, fun e => ?_, fun _ e => ?_, fun _ _ r hr => ?_⟩))
  · subst e
    exact q b H (Same.refl _) hb
  · subst e
    exact q a H (Same.refl _) (by rw [List.append_nil]; exact ha)
  · exact q r _ (same_upd hr) upd_same
section
variable {X : Cx} {o e : Expr} {es : List Expr} {to : TE} {t : TA} {name : Str} {apos cpos pos : Pos} {T id : String} {r : V → List V → Hp → VK → Prop} {f : Str} {ta : TE}
theorem pe_bmK (K : PySem.W.Frag) (hK : X.K = K) (pa : PySem.PlainAttrs T) (slot : PySem.Slot T name id) (hty : typeOf (.builtin id) = pure (.type "method_descriptor")) (hm : MtR X id r) (ho : PE X o to) (ha : PA X (e :: es) t)
    (hbase : attributeBase o name X.env (eval o X.env) = eval o X.env := by rfl)
    (hfew : ((backTo cpos (starEach (e :: es) X.env)).all (fun x => !x.1) && (backToKw cpos (keywordEach [] X.env)).all (fun x => x.1.isSome)
      && decide ((e :: es).length + ([] : List Keyword).length + (if ([] : List Keyword).isEmpty then 0 else 1) < 30)) = true := by rfl)
    (hline : (apos.endLine == cpos.line) = true := by rfl) (hs : starEach (e :: es) X.env = (false, eval e X.env) :: starEach es X.env := by rfl) (hplain : (backTo cpos (starEach es X.env)).any (·.1) = false := by rfl) :
    PE X (.Call (.Attribute o name apos) (e :: es) [] cpos) (tBM K T r to t) := hK ▸ pe_bm pa slot hty hm ho ha hbase hfew hline hs hplain
theorem pe_fldK (K : PySem.W.Frag) (hK : X.K = K) (he : PE X e ta) (hb : attributeBase e f X.env (eval e X.env) = eval e X.env) : PE X (.Attribute e f pos) (tFld K ta f) := hK ▸ pe_fld he hb
end
/-- an expression, by what its value and the heap behind it have in common, however it came -/
def tVia (te : TE) : TE := fun σ H Q => ∃ P : V → Hp → Prop, te σ H P ∧ ∀ v H', P v H' → Q v H'
theorem pe_via {X : Cx} {e : Expr} {te : TE} (he : PE X e te) : PE X e (tVia te) := by
  refine ⟨fun pins s σ H Q I h => ?_⟩
  obtain ⟨P, h1, h2⟩ := h
  refine thn (he.run pins s σ H P I h1) ?_
  rintro v s1 ⟨x, H1, I1, r1, q⟩
  exact ⟨x, H1, I1, r1, h2 x H1 q⟩
/-- t[a:b], a tuple -/
theorem q_cutT {K : PySem.W.Frag} {H : Hp} {a : Addr} {xs : List V} {lo hi : Option Int} {Q : VK} (ha : H a = some (.tup xs))
    (q : ∀ (r : Addr) (H' : Hp), Same H H' → H' r = some (.tup (cutV xs lo hi)) → Q (.ref r) H') : rSlL K (.ref a) lo hi H Q ∨ (rSlA K (.ref a) lo hi H Q ∨ rSlS (.ref a) lo hi H Q) := by
  refine .inr (.inl ⟨a, xs, rfl, SqT.of ha, fun e => q a H (Same.refl _) ?_, fun _ r hr => q r _ (same_upd hr) upd_same⟩)
  rw [ha]
  congr 2
  unfold cutV
  rw [e.1, e.2, List.drop_zero, Nat.sub_zero, List.take_length]
/-- xs[a:b], a list -/
theorem q_cutL {K : PySem.W.Frag} {H : Hp} {a : Addr} {xs : List V} {lo hi : Option Int} {Q : VK} (ha : H a = some (.lst xs))
    (q : ∀ (r : Addr), H r = none → Q (.ref r) (upd H r (.lst (cutV xs lo hi)))) : rSlL K (.ref a) lo hi H Q ∨ (rSlA K (.ref a) lo hi H Q ∨ rSlS (.ref a) lo hi H Q) := .inl ⟨a, xs, rfl, SqL.of ha, q⟩
/-- xs + ys, lists -/
theorem q_catL {K : PySem.W.Frag} {H : Hp} {a b : Addr} {xs ys : List V} {Q : VK} (ha : H a = some (.lst xs)) (hb : H b = some (.lst ys)) (hz : xs.length + ys.length ≤ sizeLine)
    (q : ∀ (r : Addr), H r = none → Q (.ref r) (upd H r (.lst (xs ++ ys)))) : rAddU K (.ref a) (.ref b) H Q := .inr (.inr (.inl ⟨a, b, xs, ys, rfl, rfl, ha, hb, hz, q⟩))
/-- data that is a list or a tuple -/
def iSeqD : PyData → Option (List PyData) | .list ds => some ds | .tuple ds => some ds | _ => none
theorem seq_of {K : PySem.W.Frag} {H : Hp} {v : V} {d : PyData} {ds : List PyData} (h : Is H v d) (e : iSeqD d = some ds) : ∃ a xs, v = .ref a ∧ Sq K H a xs ∧ Are H xs ds := by
  cases h with
  | lst h1 h2 => cases e; exact ⟨_, _, rfl, .inl (SqL.of h1), h2⟩
  | tup h1 h2 => cases e; exact ⟨_, _, rfl, .inr (SqT.of h1), h2⟩
  | _ => cases e
theorem small_seq {d : PyData} {ds : List PyData} (h : Small d) (e : iSeqD d = some ds) : ds.length ≤ 1000000 ∧ ∀ x ∈ ds, Small x := by
  have h' : PyData.weightAll ds ≤ 1000000 := by
    cases d <;> first | (cases e; simpa [Small, PyData.weight] using h) | cases e
  exact ⟨Nat.le_trans (len_weight ds) h', fun d hd => Nat.le_trans (mem_weight hd) h'⟩
theorem not_seq {d : PyData} (h : iSeqD d = none) : (iLst d || iTup d) = false := by cases d <;> first | rfl | cases h
theorem is_seq {d : PyData} {ds : List PyData} (h : iSeqD d = some ds) : (iLst d || iTup d) = true := by cases d <;> first | rfl | cases h
end Gn
set_option Elab.async false
set_option linter.all false
set_option maxRecDepth 100000
set_option maxHeartbeats 4000000
namespace Gn
open PySem PySem.Spec PyProof.Rows L2 Quiet
/-! ### data such as the law draws, n times bent -/
def isI : PyData → Bool | .int _ => true | _ => false
def nonI (ds : List PyData) : Nat := ds.countP fun d => !isI d
mutual
def okD (n : Nat) : PyData → Bool
  | .none | .bool _ => true
  | .int i => decide (i.natAbs ≤ 10 ^ 39 + n)
  | .str x => decide (x.length ≤ 50 + n) && x.cps.toList.all fun c => decide (c < 128)
  | .list ds | .tuple ds => okAll n ds && decide (nonI ds ≤ 40 + n)
  | .dict kvs => decide (kvs.length ≤ 12 + n) && okKv n kvs
def okAll (n : Nat) : List PyData → Bool
  | [] => true
  | d :: ds => okD n d && okAll n ds
def okKv (n : Nat) : List (PyData × PyData) → Bool
  | [] => true
  | (k, d) :: r => okD n k && okD n d && okKv n r
end
def wB (n : Nat) : Nat := 4 ^ n * 5000
def dB (n : Nat) : Nat := 10 + 10 * n
structure Fine (n : Nat) (d : PyData) : Prop where
  ok : okD n d = true
  w : d.weight ≤ wB n
  dp : d.depth ≤ dB n
/-- all at once -/
def fineB (d : PyData) : Bool := okD 0 d && decide (d.weight ≤ 5000) && decide (d.depth ≤ 10)
theorem fine_of {d : PyData} (h : fineB d = true) : Fine 0 d := by
  simp only [fineB, Bool.and_eq_true, decide_eq_true_eq] at h
  exact ⟨h.1.1, h.1.2, h.2⟩
/-! ### lists that are told of -/
section
variable (S : Addr → Bool) (G : Hp) (σ : L2.St) (H1 : Hp)
def GivesL (te : TE) (ds : List PyData) : Prop := ∀ (H : Hp) (Q : VK), Same H1 H → (∀ a xs H', H' a = some (.lst xs) → S a = false → Are (hide S H') xs ds → (∀ v ∈ xs, NewV G v) → NewV G (.ref a) → Same H H' → Q (.ref a) H') → te σ H Q
end
section
variable {S : Addr → Bool} {G : Hp} {σ : L2.St} {H1 : Hp}
theorem gl_lst {ta : TA} {ds : List PyData} (hT : Trk S H1) (hD : Dom G H1) (h : GivesAll S G σ H1 ta ds) (l : ds.length ≤ 1000000) : GivesL S G σ H1 (tLst ta) ds := fun H Q s k =>
  h H _ s fun vs H2 hs nv s2 => ⟨sz1 (by rw [hs.length]; exact l), fun a n => by
    obtain ⟨ne, nw, s3, s4, e⟩ := new_at hT hD s s2 n (.lst vs)
    exact k a vs _ upd_same ne (Are.same s4 hs) nv nw s3⟩
theorem gl_var {i : Nat} {a : Addr} {xs : List V} {ds : List PyData} (e : σ[i]? = some (some (.ref a))) (h : H1 a = some (.lst xs)) (ne : S a = false) (hs : Are (hide S H1) xs ds) (nv : ∀ v ∈ xs, NewV G v) (nw : NewV G (.ref a)) : GivesL S G σ H1 (tVar i) ds :=
  fun H Q s k => ⟨_, e, k a xs H (s _ _ h) ne (Are.same (hide_mono s) hs) nv nw (Same.refl H)⟩
theorem gl_cat {K : PySem.W.Frag} {ta tb : TE} {ds es : List PyData} (hT : Trk S H1) (hD : Dom G H1) (a : GivesL S G σ H1 ta ds) (b : GivesL S G σ H1 tb es) (l : ds.length + es.length ≤ 1000000) :
    GivesL S G σ H1 (tOp (rAddU K) ta tb) (ds ++ es) := fun H Q s k =>
  a H _ s fun x xs H2 e1 n1 k1 v1 w1 s2 => b H2 _ (s.trans s2) fun y ys H3 e2 n2 k2 v2 w2 s3 => by
    refine .inr (.inr (.inl ⟨x, y, xs, ys, rfl, rfl, s3 _ _ e1, e2, sz1 (by rw [k1.length, k2.length]; exact l), fun q n => ?_⟩))
    obtain ⟨ne, nw, s4, s5, e⟩ := new_at hT hD s (s2.trans s3) n (.lst (xs ++ ys))
    refine k q (xs ++ ys) _ upd_same ne (Are.same s5 (Are.append (Are.same (hide_mono s3) k1) k2)) (fun v hv => ?_) nw s4
    rcases List.mem_append.mp hv with h | h
    · exact v1 v h
    · exact v2 v h
end
theorem seq_asg {te : TE} {g : TG} {b : TS} {D : Ends} {σ : L2.St} {H : Hp} (h : te σ H fun x H1 => g x σ H1 fun σ2 H2 => b D σ2 H2) : tSeq (tAsg te g) b D σ H := h
/-- k times wrapped -/
structure DeepD (k : Nat) (d : PyData) : Prop where
  ok : okD 0 d = true
  w : d.weight ≤ 1 + k
  dp : d.depth ≤ 1 + k
theorem DeepD.lst {k : Nat} {d : PyData} (h : DeepD k d) : DeepD (k + 1) (.list [d]) := by
  refine ⟨?_, ?_, ?_⟩
  · have := h.ok
    simp only [okD, okAll, this, Bool.and_true, Bool.true_and]
    refine decide_eq_true ?_
    have : nonI [d] ≤ 1 := List.countP_le_length
    omega
  · have := h.w
    simp only [PyData.weight, PyData.weightAll]
    omega
  · have := h.dp
    simp only [PyData.depth, PyData.depthAll]
    omega
theorem DeepD.tup {k : Nat} {d : PyData} (h : DeepD k d) : DeepD (k + 1) (.tuple [d]) := by
  refine ⟨?_, ?_, ?_⟩
  · have := h.ok
    simp only [okD, okAll, this, Bool.and_true, Bool.true_and]
    refine decide_eq_true ?_
    have : nonI [d] ≤ 1 := List.countP_le_length
    omega
  · have := h.w
    simp only [PyData.weight, PyData.weightAll]
    omega
  · have := h.dp
    simp only [PyData.depth, PyData.depthAll]
    omega
theorem DeepD.fine {d : PyData} {k : Nat} (hk : k ≤ 8) (h : DeepD k d) : Fine 0 d := ⟨h.ok, Nat.le_trans h.w (Nat.le_trans (Nat.add_le_add_left hk 1) (by decide)), Nat.le_trans h.dp (Nat.le_trans (Nat.add_le_add_left hk 1) (by decide))⟩
/-- any value, mostly none of what is asked for -/
def spOdd : Sp := fun vs H Q _ => ∃ (p : Addr) (S : Addr → Bool), vs = [.ref p] ∧ Bag H p ∧ S p = true ∧ Trk S H ∧ ∀ (v : V) (d : PyData) (H' : Hp), Is (hide S H') v d → NewV H v → Fine 0 d → Ext p H H' → Q v H'
section
variable {P : Program} {w : World} {K : PySem.W.Frag} {mg : Str → Option Value} {base : Heap}
end

mutual
theorem okD_mono {n : Nat} : ∀ d : PyData, okD n d = true → okD (n + 1) d = true
  | .none, _ => rfl
  | .bool _, _ => rfl
  | .int i, h => by
    simp only [okD, decide_eq_true_eq] at h ⊢
    omega
  | .str x, h => by
    simp only [okD, Bool.and_eq_true, decide_eq_true_eq] at h ⊢
    exact ⟨by omega, h.2⟩
  | .list ds, h => by
    simp only [okD, Bool.and_eq_true, decide_eq_true_eq] at h ⊢
    exact ⟨okAll_mono ds h.1, by omega⟩
  | .tuple ds, h => by
    simp only [okD, Bool.and_eq_true, decide_eq_true_eq] at h ⊢
    exact ⟨okAll_mono ds h.1, by omega⟩
  | .dict kvs, h => by
    simp only [okD, Bool.and_eq_true, decide_eq_true_eq] at h ⊢
    exact ⟨by omega, okKv_mono kvs h.2⟩
theorem okAll_mono {n : Nat} : ∀ ds : List PyData, okAll n ds = true → okAll (n + 1) ds = true
  | [], _ => rfl
  | d :: ds, h => by
    simp only [okAll, Bool.and_eq_true] at h ⊢
    exact ⟨okD_mono d h.1, okAll_mono ds h.2⟩
theorem okKv_mono {n : Nat} : ∀ kvs : List (PyData × PyData), okKv n kvs = true → okKv (n + 1) kvs = true
  | [], _ => rfl
  | (k, d) :: r, h => by
    simp only [okKv, Bool.and_eq_true] at h ⊢
    exact ⟨⟨okD_mono k h.1.1, okD_mono d h.1.2⟩, okKv_mono r h.2⟩
end
theorem okD_more {n m : Nat} (h : n ≤ m) {d : PyData} (k : okD n d = true) : okD m d = true := by
  induction h with
  | refl => exact k
  | step _ ih => exact okD_mono d ih
theorem okAll_iff {n : Nat} : ∀ {ds : List PyData}, okAll n ds = true ↔ ∀ d ∈ ds, okD n d = true
  | [] => by simp [okAll]
  | d :: ds => by
    rw [okAll, Bool.and_eq_true, okAll_iff, List.forall_mem_cons]
theorem wt_app : ∀ a b : List PyData, PyData.weightAll (a ++ b) = PyData.weightAll a + PyData.weightAll b
  | [], b => by simp [PyData.weightAll]
  | x :: a, b => by
    simp only [List.cons_append, PyData.weightAll, wt_app a b]
    omega
theorem dp_app : ∀ a b : List PyData, PyData.depthAll (a ++ b) = max (PyData.depthAll a) (PyData.depthAll b)
  | [], b => by simp [PyData.depthAll]
  | x :: a, b => by
    simp only [List.cons_append, PyData.depthAll, dp_app a b]
    omega
theorem nonI_app (a b : List PyData) : nonI (a ++ b) = nonI a + nonI b := List.countP_append
theorem nonI_cons (d : PyData) (b : List PyData) : nonI (d :: b) ≤ nonI b + 1 ∧ nonI b ≤ nonI (d :: b) := by
  unfold nonI
  rw [List.countP_cons]
  split <;> omega
theorem cut_eq {ds : List PyData} {k : Nat} {e : PyData} (h : ds[k]? = some e) : ds = ds.take k ++ e :: ds.drop (k + 1) := by
  obtain ⟨h1, h2⟩ := List.getElem?_eq_some_iff.mp h
  rw [← h2, ← List.drop_eq_getElem_cons h1, List.take_append_drop]
/-- what is known of a list that is cut at one of its places -/
structure Cut (n : Nat) (ds : List PyData) (a b : List PyData) (e : PyData) : Prop where
  ea : ∀ d ∈ a, okD n d = true
  eb : ∀ d ∈ b, okD n d = true
  ee : okD n e = true
  nn : nonI a + nonI b ≤ nonI ds
  ww : PyData.weightAll ds = PyData.weightAll a + PyData.weightAll b + e.weight + 1
  da : PyData.depthAll a ≤ PyData.depthAll ds
  db : PyData.depthAll b ≤ PyData.depthAll ds
  de : e.depth ≤ PyData.depthAll ds
theorem cut_of {n : Nat} {ds : List PyData} {k : Nat} {e : PyData} (h : ds[k]? = some e) (ok : ∀ d ∈ ds, okD n d = true) : Cut n ds (ds.take k) (ds.drop (k + 1)) e := by
  have eq := cut_eq h
  have c1 := nonI_cons e (ds.drop (k + 1))
  have w := congrArg PyData.weightAll eq
  have dd := congrArg PyData.depthAll eq
  have nn := congrArg nonI eq
  rw [wt_app, PyData.weightAll] at w
  rw [dp_app, PyData.depthAll] at dd
  rw [nonI_app] at nn
  refine ⟨fun d hd => ok d (List.mem_of_mem_take hd), fun d hd => ok d (List.mem_of_mem_drop hd), ok e (List.mem_of_getElem? h), by omega, by omega, by omega, by omega, by omega⟩
/-- such a list with something in the place's stead -/
theorem Cut.fill {n m : Nat} {ds a b : List PyData} {e : PyData} (c : Cut n ds a b e) (l : n ≤ m) (mid : List PyData) (hm : ∀ d ∈ mid, okD m d = true) (ln : mid.length ≤ 2) :
    okAll m (a ++ (mid ++ b)) = true ∧ nonI (a ++ (mid ++ b)) ≤ nonI ds + mid.length ∧ PyData.weightAll (a ++ (mid ++ b)) + e.weight + 1 = PyData.weightAll ds + PyData.weightAll mid ∧
      PyData.depthAll (a ++ (mid ++ b)) ≤ max (PyData.depthAll ds) (PyData.depthAll mid) := by
  have l1 : nonI mid ≤ mid.length := List.countP_le_length
  refine ⟨okAll_iff.mpr fun d hd => ?_, ?_, ?_, ?_⟩
  · rcases List.mem_append.mp hd with h | h
    · exact okD_more l (c.ea d h)
    · rcases List.mem_append.mp h with h | h
      · exact hm d h
      · exact okD_more l (c.eb d h)
  · rw [nonI_app, nonI_app]
    have := c.nn
    omega
  · rw [wt_app, wt_app]
    have := c.ww
    omega
  · rw [dp_app, dp_app]
    have := c.da
    have := c.db
    omega
/-! ### texts -/
theorem ok_str {n : Nat} {x : Str} : okD n (.str x) = true ↔ x.length ≤ 50 + n ∧ okT x := by
  simp only [okD, Bool.and_eq_true, decide_eq_true_eq, List.all_eq_true]
  exact Iff.rfl
theorem len_app (x y : Str) : (x ++ y).length = x.length + y.length := by
  show (x.cps ++ y.cps).size = _
  rw [Array.size_append]
  rfl
theorem okT_app {x y : Str} (h : okT x) (k : okT y) : okT (x ++ y) := fun c hc => by
  have e : (x ++ y).cps = x.cps ++ y.cps := rfl
  rw [e, Array.toList_append] at hc
  rcases List.mem_append.mp hc with z | z
  · exact h c z
  · exact k c z
theorem okT_cut {x : Str} {lo hi : Option Int} (h : okT x) : okT (cutS x lo hi) := fun c hc => by
  have e : (cutS x lo hi).cps.toList = _ := rfl
  rw [e] at hc
  exact h c (List.mem_of_mem_drop (List.mem_of_mem_take (by simpa [cutS] using hc)))
theorem len_cut (x : Str) (lo hi : Option Int) : (cutS x lo hi).length ≤ x.length := by
  show (cutS x lo hi).cps.size ≤ x.cps.size
  have : (cutS x lo hi).cps.toList.length ≤ x.cps.toList.length := by
    unfold cutS
    simp only [List.toList_toArray]
    refine Nat.le_trans (List.length_take_le' _ _) ?_
    rw [List.length_drop]
    omega
  simpa using this
theorem up_list : ∀ cs : List Nat, (∀ c ∈ cs, c < 128) → (Txt.upper ⟨cs.toArray⟩).cps.toList.length = cs.length ∧ okT (Txt.upper ⟨cs.toArray⟩)
  | [], _ => by
    have e : Txt.upper ⟨([] : List Nat).toArray⟩ = ⟨#[]⟩ := by decide +kernel
    rw [e]
    exact ⟨rfl, fun c hc => by simp at hc⟩
  | c :: cs, h => by
    obtain ⟨i1, i2⟩ := up_list cs fun d hd => h d (List.mem_cons_of_mem _ hd)
    have hc := h c List.mem_cons_self
    have e0 : (⟨(c :: cs).toArray⟩ : Str) = ⟨#[c]⟩ ++ ⟨cs.toArray⟩ := by
      show _ = (⟨#[c] ++ cs.toArray⟩ : Str)
      congr 1
      simp
    rw [e0, PySem.W.KOpn.upper_app, PySem.W.KOpn.upper_one hc]
    constructor
    · show ((#[_] : Array Nat) ++ (Txt.upper ⟨cs.toArray⟩).cps).toList.length = _
      rw [Array.toList_append, List.length_append, i1]
      simp
      omega
    · refine okT_app (fun d hd => ?_) i2
      rw [List.mem_singleton.mp (show d ∈ [_] from hd)]
      split <;> omega
theorem up_ok {x : Str} (h : okT x) : (Txt.upper x).length = x.length ∧ okT (Txt.upper x) := by
  obtain ⟨a, b⟩ := up_list x.cps.toList h
  have e : (⟨x.cps.toList.toArray⟩ : Str) = x := by
    cases x
    simp
  rw [e] at a b
  refine ⟨?_, b⟩
  show (Txt.upper x).cps.size = x.cps.size
  simpa using a
theorem int_text {i : Int} (h : i.natAbs < 10 ^ 40) : (Str.ofString (toString i)).length ≤ 41 ∧ okT (Str.ofString (toString i)) := by
  constructor
  · rw [PySem.ofString_length]
    exact int_text_length_le10 (by decide) h
  · intro c hc
    rw [Str.ofString_eq_toList] at hc
    have hc' : c ∈ (toString i : String).toList.map Char.toNat := by simpa using hc
    obtain ⟨ch, h1, rfl⟩ := List.mem_map.mp hc'
    have dig : ∀ (m : Nat) (ch : Char), ch ∈ (Nat.repr m).toList → ch.toNat < 128 := fun m ch hch => by
      have h2 : ch ∈ Nat.toDigits 10 m := by simpa [Nat.repr] using hch
      have h3 := Nat.isDigit_of_mem_toDigits (b := 10) (by decide) (by decide) h2
      simp only [Char.isDigit, Bool.and_eq_true, decide_eq_true_eq] at h3
      have h4 : ch.val ≤ 57 := h3.2
      have h5 : ch.toNat ≤ 57 := h4
      omega
    cases i with
    | ofNat m => exact dig m ch h1
    | negSucc m =>
      have e : (toString (Int.negSucc m) : String).toList = '-' :: (Nat.repr (m + 1)).toList := by
        show ("-" ++ Nat.repr (m + 1) : String).toList = _
        rw [String.toList_append]
        rfl
      rw [e] at h1
      rcases List.mem_cons.mp h1 with z | z
      · rw [z]
        decide
      · exact dig _ ch z

mutual
theorem ok_shows {n : Nat} (hn : n ≤ 5) : ∀ d : PyData, okD n d = true → d.showable = true ∧ d.leavesShort 45 = true
  | .none, _ => ⟨rfl, rfl⟩
  | .bool _, _ => ⟨rfl, rfl⟩
  | .int i, h => by
    have il : i.natAbs ≤ 10 ^ 39 + n := by simpa [okD] using h
    have ib : i.natAbs < 10 ^ 40 := Nat.lt_of_le_of_lt il (Nat.lt_of_le_of_lt (Nat.add_le_add_left hn _) (by decide))
    constructor
    · simp only [PyData.showable, decide_eq_true_eq]
      by_cases z : i.natAbs = 0
      · rw [z]; decide
      · exact (Nat.log2_lt z).mpr (Nat.lt_of_lt_of_le ib (by decide))
    · simp only [PyData.leavesShort, decide_eq_true_eq, PyData.shown_int]
      have := (int_text ib).1
      exact Nat.le_trans this (by decide)
  | .str x, h => by
    obtain ⟨_, xo⟩ := ok_str.mp h
    refine ⟨rfl, ?_⟩
    simp only [PyData.leavesShort, List.all_eq_true, decide_eq_true_eq]
    intro c hc
    exact Nat.lt_trans (xo c hc) (by decide)
  | .list ds, h => by
    have h' : okAll n ds = true ∧ nonI ds ≤ 40 + n := by simpa [okD] using h
    obtain ⟨a, b⟩ := okAll_shows hn ds h'.1
    exact ⟨by simpa only [PyData.showable] using a, by simpa only [PyData.leavesShort] using b⟩
  | .tuple ds, h => by
    have h' : okAll n ds = true ∧ nonI ds ≤ 40 + n := by simpa [okD] using h
    obtain ⟨a, b⟩ := okAll_shows hn ds h'.1
    exact ⟨by simpa only [PyData.showable] using a, by simpa only [PyData.leavesShort] using b⟩
  | .dict kvs, h => by
    have h' : kvs.length ≤ 12 + n ∧ okKv n kvs = true := by simpa [okD] using h
    obtain ⟨a, b⟩ := okKv_shows hn kvs h'.2
    exact ⟨by simpa only [PyData.showable] using a, by simpa only [PyData.leavesShort] using b⟩
theorem okAll_shows {n : Nat} (hn : n ≤ 5) : ∀ ds : List PyData, okAll n ds = true → PyData.showableAll ds = true ∧ PyData.leavesShortAll 45 ds = true
  | [], _ => ⟨rfl, rfl⟩
  | d :: ds, h => by
    have h' : okD n d = true ∧ okAll n ds = true := by simpa [okAll] using h
    obtain ⟨a1, b1⟩ := ok_shows hn d h'.1
    obtain ⟨a2, b2⟩ := okAll_shows hn ds h'.2
    exact ⟨by simp only [PyData.showableAll, a1, a2, Bool.and_true], by simp only [PyData.leavesShortAll, b1, b2, Bool.and_true]⟩
theorem okKv_shows {n : Nat} (hn : n ≤ 5) : ∀ kvs : List (PyData × PyData), okKv n kvs = true → PyData.showableKv kvs = true ∧ PyData.leavesShortKv 45 kvs = true
  | [], _ => ⟨rfl, rfl⟩
  | (k, d) :: r, h => by
    have h' : (okD n k = true ∧ okD n d = true) ∧ okKv n r = true := by simpa [okKv] using h
    obtain ⟨a0, b0⟩ := ok_shows hn k h'.1.1
    obtain ⟨a1, b1⟩ := ok_shows hn d h'.1.2
    obtain ⟨a2, b2⟩ := okKv_shows hn r h'.2
    exact ⟨by simp only [PyData.showableKv, a0, a1, a2, Bool.and_true], by simp only [PyData.leavesShortKv, b0, b1, b2, Bool.and_true]⟩
end
theorem shown_ok {n : Nat} (hn : n ≤ 5) {d : PyData} (h : okD n d = true) (w : d.weight ≤ 300000) : d.shown.length ≤ sizeLine := by
  have := PyData.shown_le 45 (by decide) d (ok_shows hn d h).2
  rw [sizeLine_eq]
  omega
theorem all_nonI {q : PyData → Bool} (hq : ∀ d, q d = true → isI d = false) {ds : List PyData} (h : ds.all q = true) : nonI ds = ds.length := by
  unfold nonI
  rw [List.countP_eq_length]
  intro d hd
  rw [hq d (List.all_eq_true.mp h d hd)]
  rfl
theorem few_of {n : Nat} (hn : n ≤ 5) {d : PyData} (h : okD n d = true) : Few d := by
  refine ⟨fun ds e hall => ?_, fun ds es e e1 hall => ?_⟩
  · subst e
    have h' : okAll n ds = true ∧ nonI ds ≤ 40 + n := by simpa [okD] using h
    have := all_nonI (fun d hd => by
      obtain ⟨x, rfl⟩ := name_text hd
      rfl) hall
    omega
  · subst e
    have h' : okAll n ds = true ∧ nonI ds ≤ 40 + n := by simpa [okD] using h
    have l1 : 1 < ds.length := by
      refine Classical.byContradiction fun z => ?_
      have : at' ds 1 = .none := by
        unfold at'
        rw [List.getD_eq_getElem?_getD, List.getElem?_eq_none (by omega)]
        rfl
      rw [this] at e1
      cases e1
    have h2 := okAll_iff.mp h'.1 _ (mem_at l1)
    rw [e1] at h2
    have h3 : okAll n es = true ∧ nonI es ≤ 40 + n := by simpa [okD] using h2
    have := all_nonI (fun d hd => by
      obtain ⟨x, b, rfl⟩ := pair_is hd
      rfl) hall
    omega
/-- lists of truths -/
theorem are_bools {H : Hp} : ∀ bs : List Bool, Are H (bs.map V.bl) (bs.map .bool)
  | [] => .nil
  | b :: bs => .cons (.bl b) (are_bools bs)
theorem eq_bools {K : PySem.W.Frag} {H : Hp} {n : Nat} : ∀ bs : List Bool, Paired (EqV K H (n + 1)) (bs.map V.bl) (bs.map V.bl)
  | [] => .nil
  | b :: bs => .cons (.inl ⟨rfl, rfl⟩) (eq_bools bs)

end Gn
set_option Elab.async false
set_option linter.all false
set_option maxRecDepth 100000
set_option maxHeartbeats 4000000
/-! ## zip and enumerate over lists and tuples, whichever -/
namespace Gn
open PySem PySem.Spec PyProof.Rows L2 Quiet

/-- a list (true), a tuple (false): how it stands, its iterator, its values -/
def ObB (b : Bool) (h : Heap) (a : Addr) (items : Array Value) : Prop := if b = true then h.IsList a items else h.IsTuple a items
def ItB (b : Bool) (h : Heap) (it a : Addr) (i : Nat) : Prop := if b = true then h.IsListIter it a i else h.IsTupleIter it a i
def SqB (b : Bool) (K : PySem.W.Frag) (H : Hp) (a : Addr) (xs : List V) : Prop := if b = true then SqL K H a xs else SqT K H a xs
def objB (b : Bool) (a : Addr) : Obj := { cls := .type (if b = true then "list_iterator" else "tuple_iterator"), data := .fields #[.ref a, .int 0 0] }
theorem sq_b {K : PySem.W.Frag} {H : Hp} {a : Addr} {xs : List V} (h : Sq K H a xs) : ∃ b, SqB b K H a xs := h.elim (fun h => ⟨true, h⟩) fun h => ⟨false, h⟩
theorem SqB.keep {b : Bool} {K : PySem.W.Frag} {H H' : Hp} {a : Addr} {xs : List V} (h : SqB b K H a xs) (k : ∀ o, H a = some o → H' a = some o) : SqB b K H' a xs := by
  cases b
  · exact sqT_keep h k
  · exact sqL_keep h k
theorem draws_b {prog : Program} {w : World} {A : Around} (b : Bool) (hh : A.handled = none) (it a : Addr) (hne : a ≠ it) (items : Array Value) :
    Draws prog w A it [it, a] items.size (fun i v => items[i]? = some v) (fun i h => ItB b h it a i ∧ ObB b h a items) := by
  cases b
  · exact Draws.tuple hh it a hne items
  · exact Draws.list hh it a hne items
theorem begins_b (b : Bool) (a : Addr) (items : Array Value) : Begins (.ref a) (objB b a) fun h => ObB b h a items := by
  cases b
  · exact begins_tuple a items
  · exact begins_list a items
theorem itB_new {b : Bool} {h : Heap} {it a : Addr} (e : h.get? it = some (objB b a)) : ItB b h it a 0 := by
  cases b
  · exact ⟨_, e, rfl, rfl⟩
  · exact ⟨_, e, rfl, rfl⟩
theorem itB_obj {b : Bool} {h : Heap} {it a : Addr} {i : Nat} (t : ItB b h it a i) : ∃ o, h.get? it = some o ∧ ∀ v, o.data ≠ .cell v := by
  cases b
  · obtain ⟨o, e, _, d⟩ := (show h.IsTupleIter it a i from t)
    exact ⟨o, e, fun v q => by rw [d] at q; cases q⟩
  · obtain ⟨o, e, _, d⟩ := (show h.IsListIter it a i from t)
    exact ⟨o, e, fun v q => by rw [d] at q; cases q⟩
theorem itB_at {b : Bool} {h h' : Heap} {it a : Addr} {i : Nat} (t : ItB b h it a i) (k : ∀ o, h.get? it = some o → h'.get? it = some o) : ItB b h' it a i := by
  cases b
  · exact (show h.IsTupleIter it a i from t).at k
  · exact (show h.IsListIter it a i from t).at k
section
variable {X : Cx} {pins : List (Addr × Obj)} {σ : L2.St} {H : Hp} {s : Shared} {b : Bool} {a : Addr} {xs ys : List V}
theorem SqB.vals (I : Inv X pins σ H s) (h : SqB b X.K H a xs) : ∃ its : List Value, Vals xs its ∧ ObB b s.heap a its.toArray ∧ a < s.heap.objs.size := by
  cases b
  · obtain ⟨its, rv, p, _⟩ := I.tuple (show SqT X.K H a xs from h)
    obtain ⟨o, ho, _⟩ := id p
    exact ⟨its, rv, (show s.heap.IsTuple a its.toArray from p), Heap.lt_size ho⟩
  · obtain ⟨its, rv, p, _⟩ := I.list (show SqL X.K H a xs from h)
    exact ⟨its, rv, p.isList, p.lt⟩
theorem SqB.inj (I : Inv X pins σ H s) (h : SqB b X.K H a xs) (h' : SqB b X.K H a ys) : xs = ys := by
  cases b
  · exact I.tuple_inj h h'
  · exact I.list_inj h h'
end
/-- zip of two -/
def ItZ (b1 b2 : Bool) (K : PySem.W.Frag) (a c : Addr) : It :=
  ⟨fun i H => ∃ (xs ys : List V), SqB b1 K H a xs ∧ SqB b2 K H c ys ∧ i < xs.length ∧ i < ys.length,
    fun i H v H' => ∃ T x y, v = .ref T ∧ H T = none ∧ H' = upd H T (.tup [x, y]) ∧ (∀ xs, SqB b1 K H a xs → xs[i]? = some x) ∧ ∀ ys, SqB b2 K H c ys → ys[i]? = some y,
    fun i H => ∃ xs ys : List V, SqB b1 K H a xs ∧ SqB b2 K H c ys ∧ i = min xs.length ys.length⟩
theorem turn_zipB {P : Program} {w : World} {K : PySem.W.Frag} {elts : List Expr} {kk : Nat} {tpos : Pos} (b1 b2 : Bool) {a c z TI TO i1 i2 : Addr} (D : ZipSep2 z TI TO i1 i2 [i1, a] [i2, c]) (na : a ≠ i1) (nc : c ≠ i2) :
    Turn P w K (.Tuple elts kk tpos) (ItZ b1 b2 K a c) [z, TI, TO, i1, i2] z (fun i h => IsZip h z TI TO .none ∧ IsTupOf2 h TI (.ref i1) (.ref i2) ∧ (∃ x y, IsTupOf2 h TO x y) ∧ ItB b1 h i1 a i ∧ ItB b2 h i2 c i) where
  mem := by simp
  obj := fun i h st q hq => by
    obtain ⟨hz, hTI, ⟨x, y, hTO⟩, h1, h2⟩ := st
    have e' : q = z ∨ q = TI ∨ q = TO ∨ q = i1 ∨ q = i2 := by simpa using hq
    rcases e' with e | e | e | e | e
    · exact e ▸ ⟨_, hz, fun v q => nomatch q⟩
    · exact e ▸ ⟨_, hTI, fun v q => nomatch q⟩
    · exact e ▸ ⟨_, hTO, fun v q => nomatch q⟩
    · exact e ▸ itB_obj h1
    · exact e ▸ itB_obj h2
  keep := fun i h h' st k => by
    obtain ⟨hz, hTI, ⟨x, y, hTO⟩, h1, h2⟩ := st
    exact ⟨k _ (by simp) _ hz, k _ (by simp) _ hTI, ⟨x, y, k _ (by simp) _ hTO⟩, itB_at h1 (k i1 (by simp)), itB_at h2 (k i2 (by simp))⟩
  item := by
    intro X hP hw hK hc i pins s σ H E I hf st hg
    subst hP hw hK
    obtain ⟨hz, hTI, ⟨x0, y0, hTO⟩, h1, h2⟩ := st
    obtain ⟨xs, ys, hx, hy, l1, l2⟩ := hg
    obtain ⟨us, rv, p1, _⟩ := hx.vals I
    obtain ⟨ws, rw', p2, _⟩ := hy.vals I
    have el1 := rv.length
    have el2 := rw'.length
    obtain ⟨u1, hu1, ru1⟩ := rv.get (List.getElem?_eq_getElem l1)
    obtain ⟨u2, hu2, ru2⟩ := rw'.get (List.getElem?_eq_getElem l2)
    have hzl : z < s.heap.objs.size := Heap.lt_size hz
    have hc0 : X.A.in1.handled = none := I.ok.hd hc
    refine wpAny_pyNext_zipD2_item D (draws_b b1 hc0 i1 a na us.toArray) (draws_b b2 hc0 i2 c nc ws.toArray) hz hTI hTO ⟨h1, p1⟩ ⟨h2, p2⟩ (by simp; omega) (by simp; omega) fun x1 x2 h' tk e1 e2 z' TO' s1' s2' hT hsz hk => ?_
    have q1 : us[i]? = some x1 := by simpa using e1
    have q2 : ws[i]? = some x2 := by simpa using e2
    rw [hu1] at q1
    rw [hu2] at q2
    obtain rfl : u1 = x1 := Option.some.inj q1
    obtain rfl : u2 = x2 := Option.some.inj q2
    refine ⟨_, rfl, wpAny_letOwnedTupleGo_zip (s := { s with heap := h', toks := tk }) z' fun h'' z'' sb => ?_⟩
    have hT2 : h''.get? s.heap.objs.size = some { cls := .type "tuple", data := .seq #[u1, u2] } := (sb.2 _ (Nat.ne_of_gt hzl)).trans hT
    have new : ObjOk X.prog X.w (upd H s.heap.objs.size (.tup [xs[i], ys[i]])) h'' s.heap.objs.size (.tup [xs[i], ys[i]]) :=
      ⟨by show 2 ≤ sizeLine; decide, [u1, u2], .cons ru1 (.cons ru2 .nil), ⟨_, hT2, rfl, _, rfl⟩⟩
    have out : ∀ {q}, q ∉ [z, TI, TO, i1, i2] → q ≠ z ∧ q ≠ TI ∧ q ≠ TO ∧ q ≠ i1 ∧ q ≠ i2 := fun hq => by simpa using hq
    have I1 : Inv X pins σ (upd H s.heap.objs.size (.tup [xs[i], ys[i]])) { s with heap := h'', toks := tk } :=
      I.turnedNew (t' := tk) (ch := [z, TI, TO, i1, i2]) (fun q o hb e => by
        obtain ⟨n1, _, n3, n4, n5⟩ := out hb
        exact (sb.2 q n1).trans (hk q o n1 n3 n4 n5 e)) hf (Nat.le_refl _) new
    refine ⟨.ref s.heap.objs.size, _, I1, rfl, ⟨_, xs[i], ys[i], rfl, I.hok.fresh (Nat.le_refl _), rfl, fun l hl => by rw [hl.inj I hx]; exact List.getElem?_eq_getElem l1, fun l hl => by rw [hl.inj I hy]; exact List.getElem?_eq_getElem l2⟩, ⟨z'', ?_, ⟨u1, u2, ?_⟩, ?_, ?_⟩, fun q hq => ?_⟩
    · exact (sb.2 _ D.TIz).trans (hk _ _ D.TIz D.TITO D.TIi1 D.TIi2 hTI)
    · exact (sb.2 _ D.TOz).trans TO'
    · exact itB_at s1'.1 fun o e => (sb.2 _ D.zi1.symm).trans e
    · exact itB_at s2'.1 fun o e => (sb.2 _ D.zi2.symm).trans e
    · have hlt : q < s.heap.objs.size := by
        have e' : q = z ∨ q = TI ∨ q = TO ∨ q = i1 ∨ q = i2 := by simpa using hq
        rcases e' with e | e | e | e | e
        · exact e ▸ hzl
        · exact e ▸ Heap.lt_size hTI
        · exact e ▸ Heap.lt_size hTO
        · obtain ⟨_, e1, _⟩ := itB_obj h1
          exact e ▸ Heap.lt_size e1
        · obtain ⟨_, e2, _⟩ := itB_obj h2
          exact e ▸ Heap.lt_size e2
      rw [upd_ne (Nat.ne_of_lt hlt)]
      exact (hf q hq).1
  done := by
    intro X hP hw hK hc i pins s σ H E I hf st hg
    subst hP hw hK
    obtain ⟨hz, hTI, ⟨x0, y0, hTO⟩, h1, h2⟩ := st
    obtain ⟨xs, ys, hx, hy, hi⟩ := hg
    obtain ⟨us, rv, p1, _⟩ := hx.vals I
    obtain ⟨ws, rw', p2, _⟩ := hy.vals I
    have el1 := rv.length
    have el2 := rw'.length
    have hc0 : X.A.in1.handled = none := I.ok.hd hc
    refine wpAny_pyNext_zipD2_end D (draws_b b1 hc0 i1 a na us.toArray) (draws_b b2 hc0 i2 c nc ws.toArray) hz hTI hTO ⟨h1, p1⟩ ⟨h2, p2⟩ (by simp; omega) (by simp; omega) (by simp; omega) fun h' tk hk => ?_
    refine ⟨rfl, I.turnedL (t' := tk) (ch := [z, TI, TO, i1, i2]) (fun q o hb e => ?_) hf⟩
    have n : q ≠ z ∧ q ≠ TI ∧ q ≠ TO ∧ q ≠ i1 ∧ q ≠ i2 := by simpa using hb
    exact hk q o n.1 n.2.2.1 n.2.2.2.1 n.2.2.2.2 e
  self := fun A i s Q E st h => wpAny_pyIter_zip st.1 h
/-- for x, y in zip(s, t): each a list or a tuple -/
def iZipS (K : PySem.W.Frag) (ta : TA) : TI := fun σ H R => ta σ H fun vs H1 => ∃ a c xs ys, vs = [.ref a, .ref c] ∧ Sq K H1 a xs ∧ Sq K H1 c ys ∧
  ∀ (J : It) (G : Hp → Prop), (∀ H', (∀ o, H1 a = some o → H' a = some o) → (∀ o, H1 c = some o → H' c = some o) → G H') → Walk J (min xs.length ys.length) G (YPair (fun i => xs[i]?) (fun i => ys[i]?)) → R J H1
theorem pi_zipS {X : Cx} (K : PySem.W.Frag) (hK : X.K = K) {e e2 : Expr} {ta : TA} {p pos tpos : Pos} {elts : List Expr} {kk : Nat} (hg : Gl X "zip") (hm : X.mg "zip" = none) (ha : PA X [e, e2] ta)
    (hs : starEach [e, e2] X.env = (false, eval e X.env) :: starEach [e2] X.env := by rfl) (hpl : (backTo pos (starEach [e2] X.env)).any (·.1) = false := by rfl) :
    PI X (.Tuple elts kk tpos) (.Call (.Name "zip" p) [e, e2] [] pos) (iZipS K ta) := by
  subst hK
  refine ⟨fun pins s σ H R I h => ?_⟩
  refine Call_ (ld_blt I hg hm PyProof.Rows.boot_zip (PyProof.Rows.callWith_type1 (thn (ha.run pos pins s σ H _ I h) fun us s1 ⟨vs, H1, I1, r1, q1⟩ => ?_) hs hpl))
  obtain ⟨a, c, xs, ys, ex, hx, hy, q⟩ := q1
  subst ex
  cases r1 with
  | cons r rr =>
  cases rr with
  | cons r' rr =>
  cases rr
  cases r
  cases r'
  obtain ⟨b1, hx⟩ := sq_b hx
  obtain ⟨b2, hy⟩ := sq_b hy
  obtain ⟨us, _, p1, la⟩ := hx.vals I1
  obtain ⟨ws, _, p2, lc⟩ := hy.vals I1
  refine zip_begins2 (begins_b b1 a us.toArray) (begins_b b2 c ws.toArray) p1 p2 fun h' hz hTI hTO h1 h2 hsz hk => wpAny_pyIter_zip hz ?_
  have I2 : Inv X pins σ H1 { s1 with heap := h' } := I1.kept (t' := s1.toks) hk
  have S := zip_sep2 (N := s1.heap.objs.size) (fp1 := [a]) (fp2 := [c]) (fun b hb => by rw [List.mem_singleton.mp hb]; exact la) (fun b hb => by rw [List.mem_singleton.mp hb]; exact lc)
  refine ⟨s1.heap.objs.size + 4, [s1.heap.objs.size + 4, s1.heap.objs.size + 2, s1.heap.objs.size + 3, s1.heap.objs.size, s1.heap.objs.size + 1], _, _, H1, rfl, I2, turn_zipB b1 b2 S (Nat.ne_of_lt la) (Nat.ne_of_lt (Nat.lt_succ_of_lt lc)), ⟨hz, hTI, ⟨_, _, hTO⟩, itB_new h1, itB_new h2⟩, fun q hq => ?_, ?_⟩
  · have hle : s1.heap.objs.size ≤ q := by
      have e' : q = s1.heap.objs.size + 4 ∨ q = s1.heap.objs.size + 2 ∨ q = s1.heap.objs.size + 3 ∨ q = s1.heap.objs.size ∨ q = s1.heap.objs.size + 1 := by simpa using hq
      rcases e' with e | e | e | e | e <;> (rw [e]; first | exact Nat.le_add_right _ _ | exact Nat.le_refl _)
    exact I1.fpOk hle (I1.hok.fresh hle)
  · refine q _ (fun H => SqB b1 X.K H a xs ∧ SqB b2 X.K H c ys) (fun H' k1 k2 => ⟨hx.keep k1, hy.keep k2⟩) ⟨fun i H hi g => ⟨xs, ys, g.1, g.2, by omega, by omega⟩, fun H g => ⟨xs, ys, g.1, g.2, rfl⟩, fun i H v H' hi g y => ?_⟩
    obtain ⟨T, x, y', e1, e2, e3, e4, e5⟩ := y
    exact ⟨T, x, y', e1, e2, e3, e4 xs g.1, e5 ys g.2⟩
end Gn
set_option Elab.async false
set_option linter.all false
set_option maxRecDepth 100000
set_option maxHeartbeats 4000000
namespace Gn
open PySem PySem.Spec PyProof.Rows L2 Quiet

abbrev enumO (it : Addr) : Obj := { cls := .type "enumerate", data := .fields #[.none, .bool false, .ref it, rawInt 0, .none, .none] }
theorem meets_enumB {v : Value} {o : Obj} {G : Heap → Prop} (B : Begins v o G) :
    Meets (Builtin.«enumerate.__new__» ⟨[.type "enumerate", v], []⟩) (fun _ R s => G s.heap ∧ R (.ok (.ret (.ref (s.heap.push o).objs.size))) { s with heap := (s.heap.push o).push (enumO s.heap.objs.size) }) :=
  .of_wp fun prog w A R s hh => by
    obtain ⟨hp, gs, dr, tk, os⟩ := s
    obtain ⟨hG, hR⟩ := hh
    have se := sub_enumerate
    have it0 : ∀ {A' : Around} {E' Q' : Value → Shared → Prop}, Q' (.ref hp.objs.size) ⟨hp.push o, gs, dr, tk, os⟩ → wpAny (model prog w) A' (pyIter v) Q' E' ⟨hp, gs, dr, tk, os⟩ := fun q => B.iter prog w _ _ ⟨hp, gs, dr, tk, os⟩ _ hG q
    wp_walk using it0
    refine wpAny_stack_any fun fr => wpAny_pure ?_
    split
    · next c _ _ _ _ _ =>
      cases (c == Value.type "enumerate") <;> (wp_walk using it0; exact ⟨_, rfl, hR⟩)
    · wp_walk using it0
      exact ⟨_, rfl, hR⟩
theorem enumB {prog : Program} {w : World} {A : Around} {E : Value → Shared → Prop} {s : Shared} {v : Value} {o : Obj} {G : Heap → Prop} {Q : Value → Shared → Prop} (B : Begins v o G) (hG : G s.heap)
    (k : ∀ h', IsEnum h' (s.heap.objs.size + 1) s.heap.objs.size 0 .none → h'.get? s.heap.objs.size = some o → (∀ b u, s.heap.get? b = some u → h'.get? b = some u) → Q (.ref (s.heap.objs.size + 1)) { s with heap := h' }) :
    wpAny (model prog w) A (call (.type "enumerate") [v]) Q E s := by
  refine callType_new F.called_enumerate (by decide) (F.typeCall_enumerate_1 _) (F.newCall_enumerate_1 _) (fun ob => F.args_object_init_2 ob _) F.entry_enumerate_new (meets_enumB B) ⟨hG, ?_⟩
  have sz : (s.heap.push o).objs.size = s.heap.objs.size + 1 := Heap.size_push ..
  have at1 : ((s.heap.push o).push (enumO s.heap.objs.size)).get? (s.heap.objs.size + 1) = some (enumO s.heap.objs.size) := by
    rw [← sz]
    exact Heap.get?_push_size _ rfl
  show _ ∧ _
  rw [sz]
  exact ⟨⟨_, at1, rfl⟩, k _ at1 (Heap.get?_push_of_some _ (Heap.get?_push_size _ B.free)) fun b u e => Heap.get?_push_of_some _ (Heap.get?_push_of_some _ e)⟩
/-- enumerate of one -/
def ItE (b : Bool) (K : PySem.W.Frag) (a : Addr) : It :=
  ⟨fun i H => ∃ xs : List V, SqB b K H a xs ∧ i < xs.length,
    fun i H v H' => ∃ T x, v = .ref T ∧ H T = none ∧ H' = upd H T (.tup [.int (i : Nat), x]) ∧ ∀ xs, SqB b K H a xs → xs[i]? = some x,
    fun i H => ∃ xs : List V, SqB b K H a xs ∧ i = xs.length⟩
theorem turn_enumB {P : Program} {w : World} {K : PySem.W.Frag} {elts : List Expr} {kk : Nat} {tpos : Pos} (b : Bool) {a e it : Addr} (na : a ≠ it) (ne : e ≠ it) (nea : e ≠ a) :
    Turn P w K (.Tuple elts kk tpos) (ItE b K a) [e, it] e (fun i h => (∃ old, IsEnum h e it (i : Int) old) ∧ ItB b h it a i) where
  mem := by simp
  obj := fun i h st q hq => by
    obtain ⟨⟨old, he⟩, h1⟩ := st
    have e' : q = e ∨ q = it := by simpa using hq
    rcases e' with z | z
    · exact z ▸ ⟨_, he, fun v q => nomatch q⟩
    · exact z ▸ itB_obj h1
  keep := fun i h h' st k => by
    obtain ⟨⟨old, he⟩, h1⟩ := st
    exact ⟨⟨old, k _ (by simp) _ he⟩, itB_at h1 (k it (by simp))⟩
  item := by
    intro X hP hw hK hc i pins s σ H E I hf st hg
    subst hP hw hK
    obtain ⟨⟨old, he⟩, h1⟩ := st
    obtain ⟨xs, hx, l1⟩ := hg
    obtain ⟨us, rv, p1, _⟩ := hx.vals I
    have el := rv.length
    obtain ⟨u1, hu1, ru1⟩ := rv.get (List.getElem?_eq_getElem l1)
    have hel : e < s.heap.objs.size := Heap.lt_size he
    have hc0 : X.A.in1.handled = none := I.ok.hd hc
    refine wpAny_pyNext_enum_itemD (draws_b b hc0 it a na us.toArray) he ⟨h1, p1⟩ (by simp; omega) ne (by simp [ne, nea]) fun x h' tk ex ho st' hT hsz hk => ?_
    have q1 : us[i]? = some x := by simpa using ex
    rw [hu1] at q1
    obtain rfl : u1 = x := Option.some.inj q1
    refine ⟨_, rfl, wpAny_letOwnedTupleGo_enum (s := { s with heap := h', toks := tk + 1 }) ho fun h'' he' sb => ?_⟩
    have hT2 : h''.get? s.heap.objs.size = some { cls := .type "tuple", data := .seq #[.int i tk, u1] } := (sb.2 _ (Nat.ne_of_gt hel)).trans hT
    have new : ObjOk X.prog X.w (upd H s.heap.objs.size (.tup [.int (i : Nat), xs[i]])) h'' s.heap.objs.size (.tup [.int (i : Nat), xs[i]]) :=
      ⟨by show 2 ≤ sizeLine; decide, [.int i tk, u1], .cons ⟨_, rfl⟩ (.cons ru1 .nil), ⟨_, hT2, rfl, _, rfl⟩⟩
    have I1 : Inv X pins σ (upd H s.heap.objs.size (.tup [.int (i : Nat), xs[i]])) { s with heap := h'', toks := tk + 1 } :=
      I.turnedNew (t' := tk + 1) (ch := [e, it]) (fun q o hb z => by
        have n : q ≠ e ∧ q ≠ it := by simpa using hb
        exact (sb.2 q n.1).trans (hk q o n.1 n.2 z)) hf (Nat.le_refl _) new
    refine ⟨.ref s.heap.objs.size, _, I1, rfl, ⟨_, xs[i], rfl, I.hok.fresh (Nat.le_refl _), rfl, fun l hl => by rw [hl.inj I hx]; exact List.getElem?_eq_getElem l1⟩, ⟨⟨u1, ?_⟩, itB_at st'.1 fun o z => (sb.2 _ ne.symm).trans z⟩, fun q hq => ?_⟩
    · rw [show ((i + 1 : Nat) : Int) = (i : Int) + 1 from by omega]
      exact he'
    · have hlt : q < s.heap.objs.size := by
        have e' : q = e ∨ q = it := by simpa using hq
        rcases e' with z | z
        · exact z ▸ hel
        · obtain ⟨_, z', _⟩ := itB_obj h1
          exact z ▸ Heap.lt_size z'
      rw [upd_ne (Nat.ne_of_lt hlt)]
      exact (hf q hq).1
  done := by
    intro X hP hw hK hc i pins s σ H E I hf st hg
    subst hP hw hK
    obtain ⟨⟨old, he⟩, h1⟩ := st
    obtain ⟨xs, hx, hi⟩ := hg
    obtain ⟨us, rv, p1, _⟩ := hx.vals I
    have el := rv.length
    have hc0 : X.A.in1.handled = none := I.ok.hd hc
    have ei : i = us.toArray.size := by simp; omega
    refine wpAny_pyNext_enum_endD (draws_b b hc0 it a na us.toArray) he (ei ▸ ⟨h1, p1⟩) fun h' hk => ⟨rfl, ?_⟩
    obtain ⟨f0, f1, f2, f3, f4, f5⟩ := hf it (by simp)
    exact I.turned (t' := s.toks) (fun q o hb z => hk q o hb z) f0 f1 f3 f4 f5
  self := fun A i s Q E st h => by
    obtain ⟨⟨_, he⟩, _⟩ := st
    exact wpAny_pyIter_enum he h
/-- for i, x in enumerate(s): a list or a tuple -/
def iEnumS (K : PySem.W.Frag) (ta : TA) : TI := fun σ H R => ta σ H fun vs H1 => ∃ a xs, vs = [.ref a] ∧ Sq K H1 a xs ∧
  ∀ (J : It) (G : Hp → Prop), (∀ H', (∀ o, H1 a = some o → H' a = some o) → G H') → Walk J xs.length G (YPair (fun i => some (.int (i : Nat))) (fun i => xs[i]?)) → R J H1
theorem pi_enumS {X : Cx} (K : PySem.W.Frag) (hK : X.K = K) {e : Expr} {ta : TA} {p pos tpos : Pos} {elts : List Expr} {kk : Nat} (hg : Gl X "enumerate") (hm : X.mg "enumerate" = none) (ha : PA X [e] ta) (hs : starEach [e] X.env = [(false, eval e X.env)] := by rfl) :
    PI X (.Tuple elts kk tpos) (.Call (.Name "enumerate" p) [e] [] pos) (iEnumS K ta) := by
  subst hK
  refine ⟨fun pins s σ H R I h => ?_⟩
  refine Call_ (ld_blt I hg hm boot_enumerate (PyProof.Rows.callWith_type1 (thn (ha.run pos pins s σ H _ I h) fun us s1 ⟨vs, H1, I1, r1, q1⟩ => ?_) hs rfl))
  obtain ⟨a, xs, ex, hx, q⟩ := q1
  subst ex
  cases r1 with
  | cons r rr =>
  cases rr
  cases r
  obtain ⟨b, hx⟩ := sq_b hx
  obtain ⟨us, _, p1, la⟩ := hx.vals I1
  refine enumB (begins_b b a us.toArray) p1 fun h' he h1 hk => wpAny_pyIter_enum he ?_
  have I2 : Inv X pins σ H1 { s1 with heap := h' } := I1.kept (t' := s1.toks) hk
  refine ⟨s1.heap.objs.size + 1, [s1.heap.objs.size + 1, s1.heap.objs.size], _, _, H1, rfl, I2, turn_enumB b (Nat.ne_of_lt la) (Nat.succ_ne_self _) (Nat.ne_of_gt (Nat.lt_succ_of_lt la)), ⟨⟨.none, he⟩, itB_new h1⟩, fun c hc => ?_, ?_⟩
  · have hle : s1.heap.objs.size ≤ c := by
      have e' : c = s1.heap.objs.size + 1 ∨ c = s1.heap.objs.size := by simpa using hc
      rcases e' with z | z <;> (rw [z]; first | exact Nat.le_add_right _ _ | exact Nat.le_refl _)
    exact I1.fpOk hle (I1.hok.fresh hle)
  · refine q _ (fun H => SqB b X.K H a xs) (fun H' k1 => hx.keep k1) ⟨fun i H hi g => ⟨xs, g, hi⟩, fun H g => ⟨xs, g, rfl⟩, fun i H v H' hi g y => ?_⟩
    obtain ⟨T, x, e1, e2, e3, e4⟩ := y
    exact ⟨T, .int (i : Nat), x, e1, e2, e3, rfl, e4 xs g⟩
end Gn
set_option Elab.async false
set_option linter.all false
set_option maxRecDepth 100000
set_option maxHeartbeats 2000000
namespace K14
open PySem PySem.Spec L2 Quiet
def top (i : Nat) : Stmt := PySem.Challenge.pw_fourfaces_k14_rows_put_otherwise.main.body.getD i (.Pass ⟨0, 0, 0, 0⟩)
abbrev s_NoRow___init__ : Stmt := inClass (top 2) 0
abbrev n_NoRow___init__ : List Str := ["self", "path"]
theorem sc_NoRow___init__ : FnScope n_NoRow___init__ ["self", "path"] (defScope s_NoRow___init__) := ⟨rfl, rfl, rfl, by decide +kernel, rfl, by decide +kernel, by decide +kernel⟩
abbrev s_is_integer : Stmt := top 4
abbrev n_is_integer : List Str := ["thing"]
theorem sc_is_integer : FnScope n_is_integer ["thing"] (defScope s_is_integer) := ⟨rfl, rfl, rfl, by decide +kernel, rfl, by decide +kernel, by decide +kernel⟩
abbrev s_bodies : Stmt := top 6
abbrev n_bodies : List Str := ["row", "outcome", "rows", "errors"]
theorem sc_bodies : FnScope n_bodies ["row"] (defScope s_bodies) := ⟨rfl, rfl, rfl, by decide +kernel, rfl, by decide +kernel, by decide +kernel⟩
abbrev s_with_bodies : Stmt := top 7
abbrev n_with_bodies : List Str := ["row", "some", "catches", "catch", "rows", "case"]
theorem sc_with_bodies : FnScope n_with_bodies ["row", "some"] (defScope s_with_bodies) := ⟨rfl, rfl, rfl, by decide +kernel, rfl, by decide +kernel, by decide +kernel⟩
abbrev s_is_path : Stmt := top 8
abbrev n_is_path : List Str := ["thing", "part"]
theorem sc_is_path : FnScope n_is_path ["thing"] (defScope s_is_path) := ⟨rfl, rfl, rfl, by decide +kernel, rfl, by decide +kernel, by decide +kernel⟩
abbrev s_body_at : Stmt := top 9
abbrev n_body_at : List Str := ["rows", "path", "at", "inner"]
theorem sc_body_at : FnScope n_body_at ["rows", "path"] (defScope s_body_at) := ⟨rfl, rfl, rfl, by decide +kernel, rfl, by decide +kernel, by decide +kernel⟩
abbrev s_row_at : Stmt := top 10
abbrev n_row_at : List Str := ["rows", "path", "body"]
theorem sc_row_at : FnScope n_row_at ["rows", "path"] (defScope s_row_at) := ⟨rfl, rfl, rfl, by decide +kernel, rfl, by decide +kernel, by decide +kernel⟩
abbrev s_spliced : Stmt := top 11
abbrev n_spliced : List Str := ["rows", "path", "many", "some", "index", "inner"]
theorem sc_spliced : FnScope n_spliced ["rows", "path", "many", "some"] (defScope s_spliced) := ⟨rfl, rfl, rfl, by decide +kernel, rfl, by decide +kernel, by decide +kernel⟩
abbrev s_put : Stmt := top 12
abbrev n_put : List Str := ["rows", "path", "row", "body"]
theorem sc_put : FnScope n_put ["rows", "path", "row"] (defScope s_put) := ⟨rfl, rfl, rfl, by decide +kernel, rfl, by decide +kernel, by decide +kernel⟩
abbrev s_out : Stmt := top 13
abbrev n_out : List Str := ["rows", "path"]
theorem sc_out : FnScope n_out ["rows", "path"] (defScope s_out) := ⟨rfl, rfl, rfl, by decide +kernel, rfl, by decide +kernel, by decide +kernel⟩
abbrev s_changed : Stmt := top 14
abbrev n_changed : List Str := ["rows", "path", "some"]
theorem sc_changed : FnScope n_changed ["rows", "path", "some"] (defScope s_changed) := ⟨rfl, rfl, rfl, by decide +kernel, rfl, by decide +kernel, by decide +kernel⟩
abbrev s__law_bag : Stmt := top 16
abbrev n__law_bag : List Str := ["script", "cell"]
theorem sc__law_bag : FnScope n__law_bag ["script"] (defScope s__law_bag) := ⟨rfl, rfl, rfl, by decide +kernel, rfl, by decide +kernel, by decide +kernel⟩
abbrev s__law_take : Stmt := top 17
abbrev n__law_take : List Str := ["bag", "many", "cell", "mixed", "value", "begin", "second"]
theorem sc__law_take : FnScope n__law_take ["bag", "many"] (defScope s__law_take) := ⟨rfl, rfl, rfl, by decide +kernel, rfl, by decide +kernel, by decide +kernel⟩
abbrev s__law_alike : Stmt := top 18
abbrev n__law_alike : List Str := ["found", "due"]
theorem sc__law_alike : FnScope n__law_alike ["found", "due"] (defScope s__law_alike) := ⟨rfl, rfl, rfl, by decide +kernel, rfl, by decide +kernel, by decide +kernel⟩
abbrev s__law_one : Stmt := top 19
abbrev n__law_one : List Str := ["bag", "things"]
theorem sc__law_one : FnScope n__law_one ["bag", "things"] (defScope s__law_one) := ⟨rfl, rfl, rfl, by decide +kernel, rfl, by decide +kernel, by decide +kernel⟩
abbrev s__law_mixed : Stmt := top 20
abbrev n__law_mixed : List Str := ["bag", "things", "found", "thing"]
theorem sc__law_mixed : FnScope n__law_mixed ["bag", "things"] (defScope s__law_mixed) := ⟨rfl, rfl, rfl, by decide +kernel, rfl, by decide +kernel, by decide +kernel⟩
abbrev s__law_names : Stmt := top 21
abbrev n__law_names : List Str := ["bag", "many", "menu", "way", "turn", "letters", "stem", "k"]
theorem sc__law_names : FnScope n__law_names ["bag", "many"] (defScope s__law_names) := ⟨rfl, rfl, rfl, by decide +kernel, rfl, by decide +kernel, by decide +kernel⟩
abbrev s__law_is_whole : Stmt := top 22
abbrev n__law_is_whole : List Str := ["thing"]
theorem sc__law_is_whole : FnScope n__law_is_whole ["thing"] (defScope s__law_is_whole) := ⟨rfl, rfl, rfl, by decide +kernel, rfl, by decide +kernel, by decide +kernel⟩
abbrev s__law_odd : Stmt := top 23
abbrev n__law_odd : List Str := ["bag", "deep", "k", "some"]
theorem sc__law_odd : FnScope n__law_odd ["bag"] (defScope s__law_odd) := ⟨rfl, rfl, rfl, by decide +kernel, rfl, by decide +kernel, by decide +kernel⟩
abbrev s__law_bodies : Stmt := top 24
abbrev n__law_bodies : List Str := ["row", "outcome", "some", "errors"]
theorem sc__law_bodies : FnScope n__law_bodies ["row"] (defScope s__law_bodies) := ⟨rfl, rfl, rfl, by decide +kernel, rfl, by decide +kernel, by decide +kernel⟩
abbrev s__law_size : Stmt := top 25
abbrev n__law_size : List Str := ["rows", "many", "row", "some"]
theorem sc__law_size : FnScope n__law_size ["rows"] (defScope s__law_size) := ⟨rfl, rfl, rfl, by decide +kernel, rfl, by decide +kernel, by decide +kernel⟩
abbrev s__law_list_at : Stmt := top 26
abbrev n__law_list_at : List Str := ["model", "name", "where", "rows", "k"]
theorem sc__law_list_at : FnScope n__law_list_at ["model", "name", "where"] (defScope s__law_list_at) := ⟨rfl, rfl, rfl, by decide +kernel, rfl, by decide +kernel, by decide +kernel⟩
abbrev s__law_row_at : Stmt := top 27
abbrev n__law_row_at : List Str := ["model", "name", "path"]
theorem sc__law_row_at : FnScope n__law_row_at ["model", "name", "path"] (defScope s__law_row_at) := ⟨rfl, rfl, rfl, by decide +kernel, rfl, by decide +kernel, by decide +kernel⟩
abbrev s__law_paths : Stmt := top 28
abbrev n__law_paths : List Str := ["rows", "found", "at", "row", "body", "some", "path"]
theorem sc__law_paths : FnScope n__law_paths ["rows"] (defScope s__law_paths) := ⟨rfl, rfl, rfl, by decide +kernel, rfl, by decide +kernel, by decide +kernel⟩
abbrev s__law_leaf : Stmt := top 29
abbrev n__law_leaf : List Str := ["bag", "kit", "around", "way", "loops", "word", "label"]
theorem sc__law_leaf : FnScope n__law_leaf ["bag", "kit", "around"] (defScope s__law_leaf) := ⟨rfl, rfl, rfl, by decide +kernel, rfl, by decide +kernel, by decide +kernel⟩
abbrev s__law_try : Stmt := top 30
abbrev n__law_try : List Str := ["bag", "kit", "room", "deep", "around", "few", "rows", "catches", "k", "errors", "left", "error", "some"]
theorem sc__law_try : FnScope n__law_try ["bag", "kit", "room", "deep", "around"] (defScope s__law_try) := ⟨rfl, rfl, rfl, by decide +kernel, rfl, by decide +kernel, by decide +kernel⟩
abbrev s__law_row : Stmt := top 31
abbrev n__law_row : List Str := ["bag", "kit", "room", "deep", "around", "way", "half", "ask", "yes", "word", "label", "step", "outcomes", "one", "some", "cases"]
theorem sc__law_row : FnScope n__law_row ["bag", "kit", "room", "deep", "around"] (defScope s__law_row) := ⟨rfl, rfl, rfl, by decide +kernel, rfl, by decide +kernel, by decide +kernel⟩
abbrev s__law_rows : Stmt := top 32
abbrev n__law_rows : List Str := ["bag", "kit", "room", "deep", "around", "found", "left", "row"]
theorem sc__law_rows : FnScope n__law_rows ["bag", "kit", "room", "deep", "around"] (defScope s__law_rows) := ⟨rfl, rfl, rfl, by decide +kernel, rfl, by decide +kernel, by decide +kernel⟩
abbrev s__law_free_kit : Stmt := top 33
abbrev n__law_free_kit : List Str := ["bag", "names", "steps", "name", "kit"]
theorem sc__law_free_kit : FnScope n__law_free_kit ["bag"] (defScope s__law_free_kit) := ⟨rfl, rfl, rfl, by decide +kernel, rfl, by decide +kernel, by decide +kernel⟩
abbrev s__law_with : Stmt := top 34
abbrev n__law_with : List Str := ["row", "some", "case", "body"]
theorem sc__law_with : FnScope n__law_with ["row", "some"] (defScope s__law_with) := ⟨rfl, rfl, rfl, by decide +kernel, rfl, by decide +kernel, by decide +kernel⟩
abbrev s__law_edited : Stmt := top 35
abbrev n__law_edited : List Str := ["rows", "path", "many", "some", "at", "bodies_v"]
theorem sc__law_edited : FnScope n__law_edited ["rows", "path", "many", "some"] (defScope s__law_edited) := ⟨rfl, rfl, rfl, by decide +kernel, rfl, by decide +kernel, by decide +kernel⟩
abbrev s__law_is_path : Stmt := top 36
abbrev n__law_is_path : List Str := ["rows", "thing", "beyond", "k", "is_last", "bodies_v"]
theorem sc__law_is_path : FnScope n__law_is_path ["rows", "thing", "beyond"] (defScope s__law_is_path) := ⟨rfl, rfl, rfl, by decide +kernel, rfl, by decide +kernel, by decide +kernel⟩
abbrev s__law_heard : Stmt := top 37
abbrev n__law_heard : List Str := ["act", "e"]
theorem sc__law_heard : FnScope n__law_heard ["act"] (defScope s__law_heard) := ⟨rfl, rfl, rfl, by decide +kernel, rfl, by decide +kernel, by decide +kernel⟩
abbrev s__law_place : Stmt := top 38
abbrev n__law_place : List Str := ["bag", "rows", "every", "path", "way", "near"]
theorem sc__law_place : FnScope n__law_place ["bag", "rows"] (defScope s__law_place) := ⟨rfl, rfl, rfl, by decide +kernel, rfl, by decide +kernel, by decide +kernel⟩
abbrev s__law_right : Stmt := top 39
abbrev n__law_right : List Str := ["bag", "kit", "rows", "path", "dues", "kept", "again", "found", "row", "some"]
theorem sc__law_right : FnScope n__law_right ["bag", "kit", "rows", "path"] (defScope s__law_right) := ⟨rfl, rfl, rfl, by decide +kernel, rfl, by decide +kernel, by decide +kernel⟩
abbrev s_law : Stmt := top 40
abbrev n_law : List Str := ["script", "bag", "turn", "kit", "rows", "k"]
theorem sc_law : FnScope n_law ["script"] (defScope s_law) := ⟨rfl, rfl, rfl, by decide +kernel, rfl, by decide +kernel, by decide +kernel⟩
/-- where the defs stand -/
structure Ad where
  NoRow___init__ : Addr
  is_integer : Addr
  bodies : Addr
  with_bodies : Addr
  is_path : Addr
  body_at : Addr
  row_at : Addr
  spliced : Addr
  put : Addr
  out : Addr
  changed : Addr
  _law_bag : Addr
  _law_take : Addr
  _law_alike : Addr
  _law_one : Addr
  _law_mixed : Addr
  _law_names : Addr
  _law_is_whole : Addr
  _law_odd : Addr
  _law_bodies : Addr
  _law_size : Addr
  _law_list_at : Addr
  _law_row_at : Addr
  _law_paths : Addr
  _law_leaf : Addr
  _law_try : Addr
  _law_row : Addr
  _law_rows : Addr
  _law_free_kit : Addr
  _law_with : Addr
  _law_edited : Addr
  _law_is_path : Addr
  _law_heard : Addr
  _law_place : Addr
  _law_right : Addr
  law : Addr
structure Fd where
  NoRow___init__ : FuncData
  is_integer : FuncData
  bodies : FuncData
  with_bodies : FuncData
  is_path : FuncData
  body_at : FuncData
  row_at : FuncData
  spliced : FuncData
  put : FuncData
  out : FuncData
  changed : FuncData
  _law_bag : FuncData
  _law_take : FuncData
  _law_alike : FuncData
  _law_one : FuncData
  _law_mixed : FuncData
  _law_names : FuncData
  _law_is_whole : FuncData
  _law_odd : FuncData
  _law_bodies : FuncData
  _law_size : FuncData
  _law_list_at : FuncData
  _law_row_at : FuncData
  _law_paths : FuncData
  _law_leaf : FuncData
  _law_try : FuncData
  _law_row : FuncData
  _law_rows : FuncData
  _law_free_kit : FuncData
  _law_with : FuncData
  _law_edited : FuncData
  _law_is_path : FuncData
  _law_heard : FuncData
  _law_place : FuncData
  _law_right : FuncData
  law : FuncData
/-- what the top has written -/
structure Txt (K : PySem.W.Frag) (mg : Str → Option Value) (A : Ad) (D : Fd) : Prop where
  f_NoRow___init__ : Fun K "__init__" "NoRow.__init__" s_NoRow___init__ A.NoRow___init__ D.NoRow___init__
  f_is_integer : Fun K "is_integer" "is_integer" s_is_integer A.is_integer D.is_integer
  m_is_integer : mg "is_integer" = some (.ref A.is_integer)
  f_bodies : Fun K "bodies" "bodies" s_bodies A.bodies D.bodies
  m_bodies : mg "bodies" = some (.ref A.bodies)
  f_with_bodies : Fun K "with_bodies" "with_bodies" s_with_bodies A.with_bodies D.with_bodies
  m_with_bodies : mg "with_bodies" = some (.ref A.with_bodies)
  f_is_path : Fun K "is_path" "is_path" s_is_path A.is_path D.is_path
  m_is_path : mg "is_path" = some (.ref A.is_path)
  f_body_at : Fun K "body_at" "body_at" s_body_at A.body_at D.body_at
  m_body_at : mg "body_at" = some (.ref A.body_at)
  f_row_at : Fun K "row_at" "row_at" s_row_at A.row_at D.row_at
  m_row_at : mg "row_at" = some (.ref A.row_at)
  f_spliced : Fun K "spliced" "spliced" s_spliced A.spliced D.spliced
  m_spliced : mg "spliced" = some (.ref A.spliced)
  f_put : Fun K "put" "put" s_put A.put D.put
  m_put : mg "put" = some (.ref A.put)
  f_out : Fun K "out" "out" s_out A.out D.out
  m_out : mg "out" = some (.ref A.out)
  f_changed : Fun K "changed" "changed" s_changed A.changed D.changed
  m_changed : mg "changed" = some (.ref A.changed)
  f__law_bag : Fun K "_law_bag" "_law_bag" s__law_bag A._law_bag D._law_bag
  m__law_bag : mg "_law_bag" = some (.ref A._law_bag)
  f__law_take : Fun K "_law_take" "_law_take" s__law_take A._law_take D._law_take
  m__law_take : mg "_law_take" = some (.ref A._law_take)
  f__law_alike : Fun K "_law_alike" "_law_alike" s__law_alike A._law_alike D._law_alike
  m__law_alike : mg "_law_alike" = some (.ref A._law_alike)
  f__law_one : Fun K "_law_one" "_law_one" s__law_one A._law_one D._law_one
  m__law_one : mg "_law_one" = some (.ref A._law_one)
  f__law_mixed : Fun K "_law_mixed" "_law_mixed" s__law_mixed A._law_mixed D._law_mixed
  m__law_mixed : mg "_law_mixed" = some (.ref A._law_mixed)
  f__law_names : Fun K "_law_names" "_law_names" s__law_names A._law_names D._law_names
  m__law_names : mg "_law_names" = some (.ref A._law_names)
  f__law_is_whole : Fun K "_law_is_whole" "_law_is_whole" s__law_is_whole A._law_is_whole D._law_is_whole
  m__law_is_whole : mg "_law_is_whole" = some (.ref A._law_is_whole)
  f__law_odd : Fun K "_law_odd" "_law_odd" s__law_odd A._law_odd D._law_odd
  m__law_odd : mg "_law_odd" = some (.ref A._law_odd)
  f__law_bodies : Fun K "_law_bodies" "_law_bodies" s__law_bodies A._law_bodies D._law_bodies
  m__law_bodies : mg "_law_bodies" = some (.ref A._law_bodies)
  f__law_size : Fun K "_law_size" "_law_size" s__law_size A._law_size D._law_size
  m__law_size : mg "_law_size" = some (.ref A._law_size)
  f__law_list_at : Fun K "_law_list_at" "_law_list_at" s__law_list_at A._law_list_at D._law_list_at
  m__law_list_at : mg "_law_list_at" = some (.ref A._law_list_at)
  f__law_row_at : Fun K "_law_row_at" "_law_row_at" s__law_row_at A._law_row_at D._law_row_at
  m__law_row_at : mg "_law_row_at" = some (.ref A._law_row_at)
  f__law_paths : Fun K "_law_paths" "_law_paths" s__law_paths A._law_paths D._law_paths
  m__law_paths : mg "_law_paths" = some (.ref A._law_paths)
  f__law_leaf : Fun K "_law_leaf" "_law_leaf" s__law_leaf A._law_leaf D._law_leaf
  m__law_leaf : mg "_law_leaf" = some (.ref A._law_leaf)
  f__law_try : Fun K "_law_try" "_law_try" s__law_try A._law_try D._law_try
  m__law_try : mg "_law_try" = some (.ref A._law_try)
  f__law_row : Fun K "_law_row" "_law_row" s__law_row A._law_row D._law_row
  m__law_row : mg "_law_row" = some (.ref A._law_row)
  f__law_rows : Fun K "_law_rows" "_law_rows" s__law_rows A._law_rows D._law_rows
  m__law_rows : mg "_law_rows" = some (.ref A._law_rows)
  f__law_free_kit : Fun K "_law_free_kit" "_law_free_kit" s__law_free_kit A._law_free_kit D._law_free_kit
  m__law_free_kit : mg "_law_free_kit" = some (.ref A._law_free_kit)
  f__law_with : Fun K "_law_with" "_law_with" s__law_with A._law_with D._law_with
  m__law_with : mg "_law_with" = some (.ref A._law_with)
  f__law_edited : Fun K "_law_edited" "_law_edited" s__law_edited A._law_edited D._law_edited
  m__law_edited : mg "_law_edited" = some (.ref A._law_edited)
  f__law_is_path : Fun K "_law_is_path" "_law_is_path" s__law_is_path A._law_is_path D._law_is_path
  m__law_is_path : mg "_law_is_path" = some (.ref A._law_is_path)
  f__law_heard : Fun K "_law_heard" "_law_heard" s__law_heard A._law_heard D._law_heard
  m__law_heard : mg "_law_heard" = some (.ref A._law_heard)
  f__law_place : Fun K "_law_place" "_law_place" s__law_place A._law_place D._law_place
  m__law_place : mg "_law_place" = some (.ref A._law_place)
  f__law_right : Fun K "_law_right" "_law_right" s__law_right A._law_right D._law_right
  m__law_right : mg "_law_right" = some (.ref A._law_right)
  f_law : Fun K "law" "law" s_law A.law D.law
  m_law : mg "law" = some (.ref A.law)
  b_ValueError : mg "ValueError" = none
  b_abs : mg "abs" = none
  b_all : mg "all" = none
  b_bool : mg "bool" = none
  b_dict : mg "dict" = none
  b_enumerate : mg "enumerate" = none
  b_int : mg "int" = none
  b_isinstance : mg "isinstance" = none
  b_len : mg "len" = none
  b_list : mg "list" = none
  b_max : mg "max" = none
  b_min : mg "min" = none
  b_range : mg "range" = none
  b_repr : mg "repr" = none
  b_sorted : mg "sorted" = none
  b_str : mg "str" = none
  b_sum : mg "sum" = none
  b_tuple : mg "tuple" = none
  b_zip : mg "zip" = none
section
variable {K : PySem.W.Frag} {mg : Str → Option Value} {A : Ad} {D : Fd}
theorem b_NoRow___init__ (T : Txt K mg A D) : Binds K D.NoRow___init__ ["self", "path"] [] := T.f_NoRow___init__.binds fun _ _ _ _ _ _ us hl => match us, hl with | [_, _], _ => rfl
theorem b_is_integer (T : Txt K mg A D) : Binds K D.is_integer ["thing"] [] := T.f_is_integer.binds fun _ _ _ _ _ _ us hl => match us, hl with | [_], _ => rfl
theorem b_bodies (T : Txt K mg A D) : Binds K D.bodies ["row"] [] := T.f_bodies.binds fun _ _ _ _ _ _ us hl => match us, hl with | [_], _ => rfl
theorem b_with_bodies (T : Txt K mg A D) : Binds K D.with_bodies ["row", "some"] [] := T.f_with_bodies.binds fun _ _ _ _ _ _ us hl => match us, hl with | [_, _], _ => rfl
theorem b_is_path (T : Txt K mg A D) : Binds K D.is_path ["thing"] [] := T.f_is_path.binds fun _ _ _ _ _ _ us hl => match us, hl with | [_], _ => rfl
theorem b_body_at (T : Txt K mg A D) : Binds K D.body_at ["rows", "path"] [] := T.f_body_at.binds fun _ _ _ _ _ _ us hl => match us, hl with | [_, _], _ => rfl
theorem b_row_at (T : Txt K mg A D) : Binds K D.row_at ["rows", "path"] [] := T.f_row_at.binds fun _ _ _ _ _ _ us hl => match us, hl with | [_, _], _ => rfl
theorem b_spliced (T : Txt K mg A D) : Binds K D.spliced ["rows", "path", "many", "some"] [] := T.f_spliced.binds fun _ _ _ _ _ _ us hl => match us, hl with | [_, _, _, _], _ => rfl
theorem b_put (T : Txt K mg A D) : Binds K D.put ["rows", "path", "row"] [] := T.f_put.binds fun _ _ _ _ _ _ us hl => match us, hl with | [_, _, _], _ => rfl
theorem b_out (T : Txt K mg A D) : Binds K D.out ["rows", "path"] [] := T.f_out.binds fun _ _ _ _ _ _ us hl => match us, hl with | [_, _], _ => rfl
theorem b_changed (T : Txt K mg A D) : Binds K D.changed ["rows", "path", "some"] [] := T.f_changed.binds fun _ _ _ _ _ _ us hl => match us, hl with | [_, _, _], _ => rfl
theorem b__law_bag (T : Txt K mg A D) : Binds K D._law_bag ["script"] [] := T.f__law_bag.binds fun _ _ _ _ _ _ us hl => match us, hl with | [_], _ => rfl
theorem b__law_take (T : Txt K mg A D) : Binds K D._law_take ["bag", "many"] [] := T.f__law_take.binds fun _ _ _ _ _ _ us hl => match us, hl with | [_, _], _ => rfl
theorem b__law_alike (T : Txt K mg A D) : Binds K D._law_alike ["found", "due"] [] := T.f__law_alike.binds fun _ _ _ _ _ _ us hl => match us, hl with | [_, _], _ => rfl
theorem b__law_one (T : Txt K mg A D) : Binds K D._law_one ["bag", "things"] [] := T.f__law_one.binds fun _ _ _ _ _ _ us hl => match us, hl with | [_, _], _ => rfl
theorem b__law_mixed (T : Txt K mg A D) : Binds K D._law_mixed ["bag", "things"] [] := T.f__law_mixed.binds fun _ _ _ _ _ _ us hl => match us, hl with | [_, _], _ => rfl
theorem b__law_names (T : Txt K mg A D) : Binds K D._law_names ["bag", "many"] [] := T.f__law_names.binds fun _ _ _ _ _ _ us hl => match us, hl with | [_, _], _ => rfl
theorem b__law_is_whole (T : Txt K mg A D) : Binds K D._law_is_whole ["thing"] [] := T.f__law_is_whole.binds fun _ _ _ _ _ _ us hl => match us, hl with | [_], _ => rfl
theorem b__law_odd (T : Txt K mg A D) : Binds K D._law_odd ["bag"] [] := T.f__law_odd.binds fun _ _ _ _ _ _ us hl => match us, hl with | [_], _ => rfl
theorem b__law_bodies (T : Txt K mg A D) : Binds K D._law_bodies ["row"] [] := T.f__law_bodies.binds fun _ _ _ _ _ _ us hl => match us, hl with | [_], _ => rfl
theorem b__law_size (T : Txt K mg A D) : Binds K D._law_size ["rows"] [] := T.f__law_size.binds fun _ _ _ _ _ _ us hl => match us, hl with | [_], _ => rfl
theorem b__law_list_at (T : Txt K mg A D) : Binds K D._law_list_at ["model", "name", "where"] [] := T.f__law_list_at.binds fun _ _ _ _ _ _ us hl => match us, hl with | [_, _, _], _ => rfl
theorem b__law_row_at (T : Txt K mg A D) : Binds K D._law_row_at ["model", "name", "path"] [] := T.f__law_row_at.binds fun _ _ _ _ _ _ us hl => match us, hl with | [_, _, _], _ => rfl
theorem b__law_paths (T : Txt K mg A D) : Binds K D._law_paths ["rows"] [] := T.f__law_paths.binds fun _ _ _ _ _ _ us hl => match us, hl with | [_], _ => rfl
theorem b__law_leaf (T : Txt K mg A D) : Binds K D._law_leaf ["bag", "kit", "around"] [] := T.f__law_leaf.binds fun _ _ _ _ _ _ us hl => match us, hl with | [_, _, _], _ => rfl
theorem b__law_try (T : Txt K mg A D) : Binds K D._law_try ["bag", "kit", "room", "deep", "around"] [] := T.f__law_try.binds fun _ _ _ _ _ _ us hl => match us, hl with | [_, _, _, _, _], _ => rfl
theorem b__law_row (T : Txt K mg A D) : Binds K D._law_row ["bag", "kit", "room", "deep", "around"] [] := T.f__law_row.binds fun _ _ _ _ _ _ us hl => match us, hl with | [_, _, _, _, _], _ => rfl
theorem b__law_rows (T : Txt K mg A D) : Binds K D._law_rows ["bag", "kit", "room", "deep", "around"] [] := T.f__law_rows.binds fun _ _ _ _ _ _ us hl => match us, hl with | [_, _, _, _, _], _ => rfl
theorem b__law_free_kit (T : Txt K mg A D) : Binds K D._law_free_kit ["bag"] [] := T.f__law_free_kit.binds fun _ _ _ _ _ _ us hl => match us, hl with | [_], _ => rfl
theorem b__law_with (T : Txt K mg A D) : Binds K D._law_with ["row", "some"] [] := T.f__law_with.binds fun _ _ _ _ _ _ us hl => match us, hl with | [_, _], _ => rfl
theorem b__law_edited (T : Txt K mg A D) : Binds K D._law_edited ["rows", "path", "many", "some"] [] := T.f__law_edited.binds fun _ _ _ _ _ _ us hl => match us, hl with | [_, _, _, _], _ => rfl
theorem b__law_is_path (T : Txt K mg A D) : Binds K D._law_is_path ["rows", "thing", "beyond"] [] := T.f__law_is_path.binds fun _ _ _ _ _ _ us hl => match us, hl with | [_, _, _], _ => rfl
theorem b__law_heard (T : Txt K mg A D) : Binds K D._law_heard ["act"] [] := T.f__law_heard.binds fun _ _ _ _ _ _ us hl => match us, hl with | [_], _ => rfl
theorem b__law_place (T : Txt K mg A D) : Binds K D._law_place ["bag", "rows"] [] := T.f__law_place.binds fun _ _ _ _ _ _ us hl => match us, hl with | [_, _], _ => rfl
theorem b__law_right (T : Txt K mg A D) : Binds K D._law_right ["bag", "kit", "rows", "path"] [] := T.f__law_right.binds fun _ _ _ _ _ _ us hl => match us, hl with | [_, _, _, _], _ => rfl
theorem b_law (T : Txt K mg A D) : Binds K D.law ["script"] [] := T.f_law.binds fun _ _ _ _ _ _ us hl => match us, hl with | [_], _ => rfl
end
end K14
set_option Elab.async false
set_option linter.all false
set_option maxRecDepth 100000
set_option maxHeartbeats 4000000
namespace K14
open PySem PySem.Spec L2 Quiet Gn
section
variable {P : Program} {w : World} {K : PySem.W.Frag} {mg : Str → Option Value} {base : Heap} {A : Ad} {D : Fd}
theorem ok_is_integer (T : Txt K mg A D) : FnOk P w K mg base CX0 1 A.is_integer D.is_integer ["thing"] spInt := by
  refine T.f_is_integer.ok sc_is_integer (fun vs H Q E h => ?_) (fun cdv AA outer s H vs Q E hr h => ?_)
  · obtain ⟨v, d, rfl, _⟩ := h
    rfl
  · obtain ⟨v, d, rfl, hd, k⟩ := h
    refine ⟨_, (pss_one (ps_ret (pe_and (pe_callB (isiK K rfl) (by rfl) T.b_isinstance (by decide +kernel) (pa_cons (pv 0) (pa_cons (pe_bltn (v := .ty "int") (by rfl) T.b_int (by decide +kernel) rfl) pa_nil))) (pe_one (pe_not (pe_callB (isiK K rfl) (by rfl) T.b_isinstance (by decide +kernel) (pa_cons (pv 0) (pa_cons (pe_bltn (v := .ty "bool") (by rfl) T.b_bool (by decide +kernel) rfl) pa_nil)))))))), ?_⟩
    refine ⟨_, rfl, q_isi hd (k_int d) ⟨_, rfl, if_b (fun e => ?_) (fun e => ?_)⟩⟩
    · refine ⟨_, rfl, q_isi hd (k_bool d) ⟨_, rfl, ?_⟩⟩
      simpa [isInt, e] using k
    · simpa [isInt, e] using k
theorem ok__law_is_whole (T : Txt K mg A D) : FnOk P w K mg base CX0 1 A._law_is_whole D._law_is_whole ["thing"] spInt := by
  refine T.f__law_is_whole.ok sc__law_is_whole (fun vs H Q E h => ?_) (fun cdv AA outer s H vs Q E hr h => ?_)
  · obtain ⟨v, d, rfl, _⟩ := h
    rfl
  · obtain ⟨v, d, rfl, hd, k⟩ := h
    refine ⟨_, (pss_one (ps_ret (pe_and (pe_callB (isiK K rfl) (by rfl) T.b_isinstance (by decide +kernel) (pa_cons (pv 0) (pa_cons (pe_bltn (v := .ty "int") (by rfl) T.b_int (by decide +kernel) rfl) pa_nil))) (pe_one (pe_not (pe_callB (isiK K rfl) (by rfl) T.b_isinstance (by decide +kernel) (pa_cons (pv 0) (pa_cons (pe_bltn (v := .ty "bool") (by rfl) T.b_bool (by decide +kernel) rfl) pa_nil)))))))), ?_⟩
    refine ⟨_, rfl, q_isi hd (k_int d) ⟨_, rfl, if_b (fun e => ?_) (fun e => ?_)⟩⟩
    · refine ⟨_, rfl, q_isi hd (k_bool d) ⟨_, rfl, ?_⟩⟩
      simpa [isInt, e] using k
    · simpa [isInt, e] using k
theorem ok__law_take (T : Txt K mg A D) : FnOk P w K mg base CX0 1 A._law_take D._law_take ["bag", "many"] spTake := by
  refine T.f__law_take.ok sc__law_take (fun vs H Q E h => ?_) (fun cdv AA outer s H vs Q E hr h => ?_)
  · obtain ⟨p, m, rfl, _⟩ := h
    rfl
  · obtain ⟨p, m, rfl, hm0, hm1, hB, k⟩ := h
    refine ⟨_, (C8.pss_cut (ps_if (pt_cmpR (eqK K rfl (units_of hr)) (pe_ix (ixK K rfl) (pv 0) pe_int (fun _ _ => rfl)) pe_int (nomark _)) (pss_cons (ps_set (i := 2) sc__law_take.nd rfl (Or.inl rfl) (by exact pe_int))
  (C8.pss_cut (ps_if (pt_cmpR op_lt (pe_ix (ixK K rfl) (pv 0) pe_int (fun _ _ => rfl)) (pe_callB (lenK K rfl) (by rfl) T.b_len (by decide +kernel) (pa_cons (pe_ix (ixK K rfl) (pv 0) pe_int (fun _ _ => rfl)) pa_nil)) (nomark _)) (pss_one (ps_set (i := 2) sc__law_take.nd rfl (Or.inl rfl) (by exact (pe_ix (ixK K rfl) (pe_ix (ixK K rfl) (pv 0) pe_int (fun _ _ => rfl)) (pe_ix (ixK K rfl) (pv 0) pe_int (fun _ _ => rfl)) (fun _ _ => rfl))))) pss_nil)
  (pss_cons (ps_augS (pv 0) pe_int get_list pe_int ip_add set_list)
  (C8.pss_cut (ps_if (pt_cmpR op_ge (pv 2) pe_int (nomark _)) (pss_one (ps_asg (by exact (pv 2)) (pg_sub (pv 0) pe_int set_list))) pss_nil)
  (pss_cons (ps_set (i := 3) sc__law_take.nd rfl (Or.inl rfl) (by exact (pe_op (addK K rfl) (pe_op (addK K rfl) (pe_op (mulK K rfl) (pe_ix (ixK K rfl) (pv 0) pe_int (fun _ _ => rfl)) pe_int) (pe_op op_mod (pe_callTy call_int1 (by rfl) T.b_int (by decide +kernel) (pa_cons (pv 2) pa_nil)) pe_int)) (pe_op (mulK K rfl) pe_int (pe_ix (ixK K rfl) (pv 0) pe_int (fun _ _ => rfl))))))
  (pss_one (ps_asg (by exact (pe_op op_mod (pe_callTy call_int1 (by rfl) T.b_int (by decide +kernel) (pa_cons (pv 3) pa_nil)) pe_int)) (pg_sub (pv 0) pe_int set_list)))))))) pss_nil)
  (pss_cons (ps_if (pt_cmpR op_gt (pe_ix (ixK K rfl) (pv 0) pe_int (fun _ _ => rfl)) pe_int (nomark _)) (pss_cons (ps_set (i := 4) sc__law_take.nd rfl (Or.inl rfl) (by exact (pe_op op_mod (pe_callTy call_int1 (by rfl) T.b_int (by decide +kernel) (pa_cons (pe_ix (ixK K rfl) (pv 0) pe_int (fun _ _ => rfl)) pa_nil)) (pv 1))))
  (pss_cons (ps_asg (by exact (pe_op op_fdiv (pe_ix (ixK K rfl) (pv 0) pe_int (fun _ _ => rfl)) (pv 1))) (pg_sub (pv 0) pe_int set_list))
  (pss_one (ps_ret (pv 4))))) pss_nil)
  (pss_cons (ps_set (i := 5) sc__law_take.nd rfl (Or.inl rfl) (by exact (pe_op op_mod (pe_callTy call_int1 (by rfl) T.b_int (by decide +kernel) (pa_cons (pe_op (mulK K rfl) (pe_op (addK K rfl) (pe_ix (ixK K rfl) (pv 0) pe_int (fun _ _ => rfl)) pe_int) pe_int) pa_nil)) pe_int)))
  (pss_cons (ps_set (i := 6) sc__law_take.nd rfl (Or.inl rfl) (by exact (pe_op op_mod (pe_callTy call_int1 (by rfl) T.b_int (by decide +kernel) (pa_cons (pe_op (mulK K rfl) (pe_op op_mod (pe_callTy call_int1 (by rfl) T.b_int (by decide +kernel) (pa_cons (pe_op (mulK K rfl) (pv 5) (pv 5)) pa_nil)) pe_int) pe_int) pa_nil)) pe_int)))
  (pss_one (ps_ret (pe_op op_mod (pe_callTy call_int1 (by rfl) T.b_int (by decide +kernel) (pa_cons (pe_op op_fdiv (pv 6) pe_int) pa_nil)) (pv 1)))))))), ?_⟩
    obtain ⟨q, b0, b1, b2, cs, hp, hq, g0, g1, g1', g2, gl, gc⟩ := hB
    have npq : q ≠ p := fun z => by
      rw [z, hp] at hq
      have hq' := HO.lst.inj (Option.some.inj hq)
      have l1 := congrArg List.length hq'
      simp at l1
      match cs, l1, hq' with
      | [c0, c1, c2, c3], _, hq' => simp at hq'
    have hS : Sq K H p [.int b0, .int b1, .int b2, .ref q] := .inl (SqL.of hp)
    have hT : Sq K H q (cs.map V.int) := .inl (SqL.of hq)
    have leaf : ∀ (H' : Hp) (c0 c1 c2 : Int), 0 ≤ c0 → 0 ≤ c1 → c1 < 2147483647 → 0 ≤ c2 → (∀ b, b ≠ p → H' b = H b) → H' p = some (.lst [.int c0, .int c1, .int c2, .ref q]) → Ext p H H' := fun H' c0 c1 c2 z0 z1 z2 z3 hk hb =>
      ⟨⟨q, c0, c1, c2, cs, hb, by rw [hk q npq]; exact hq, z0, z1, z2, z3, gl, gc⟩, fun d0 d1 d2 q' e => ⟨c0, c1, c2, by rw [hp] at e; cases e; exact hb⟩, fun b o n e => by rw [hk b n]; exact e⟩
    have p0 : ∀ x : Int, 0 < x → 0 < x := fun _ h => h
    -- the states: the bag's three numbers may have changed
    refine ⟨fun σ H' => ∃ (c0 c1 c2 : Int) (x y : Option V), σ = [some (.ref p), some (.int m), x, y, none, none, none] ∧ 0 ≤ c0 ∧ 0 ≤ c1 ∧ c1 < 2147483647 ∧ 0 ≤ c2 ∧ (∀ b, b ≠ p → H' b = H b) ∧ H' p = some (.lst [.int c0, .int c1, .int c2, .ref q]), ?_, ?_⟩
    · refine ⟨_, rfl, q_ix (i := 0) hS rfl rfl (q_eqi ⟨_, rfl, if_b (fun e => ?_) (fun e => ?_)⟩)⟩
      · -- bag[0] == 0
        refine ⟨fun σ H' => H' = H ∧ ∃ c : Int, 0 ≤ c ∧ σ = [some (.ref p), some (.int m), some (.int c), none, none, none, none], ?_, ?_⟩
        · refine ⟨_, rfl, q_ix (i := 2) hS rfl rfl ⟨_, rfl, q_ix (i := 3) hS rfl rfl (q_lenSq hT ⟨_, _, rfl, rfl, _, rfl, if_b (fun e1 => ?_) (fun e1 => ?_)⟩)⟩⟩
          · have hi : b2.toNat < cs.length := by
              have := of_decide_eq_true e1
              simp only [List.length_map] at this
              omega
            have g3 : (cs.map V.int)[b2.toNat]? = some (.int cs[b2.toNat]) := by rw [List.getElem?_map, List.getElem?_eq_getElem hi]; rfl
            exact ⟨_, rfl, q_ix (i := 3) hS rfl rfl ⟨_, rfl, q_ix (i := 2) hS rfl rfl (q_ix (i := b2.toNat) hT (by omega) g3 ⟨rfl, _, gc _ (List.getElem_mem hi), rfl⟩)⟩⟩
          · exact ⟨rfl, 0, by decide, rfl⟩
        · rintro σ H' ⟨rfl, c, hc, rfl⟩
          refine ⟨_, rfl, p, _, 2, _, rfl, rfl, hp, by decide, by decide, rfl, _, _, rfl, rfl, p, _, 2, 2, rfl, rfl, hp, rfl, ?_⟩
          refine ⟨fun σ H2 => ∃ c0 : Int, 0 ≤ c0 ∧ σ = [some (.ref p), some (.int m), some (.int c), none, none, none, none] ∧ (∀ b, b ≠ p → H2 b = H' b) ∧ H2 p = some (.lst [.int c0, .int b1, .int (b2 + 1), .ref q]), ?_, ?_⟩
          · refine ⟨_, rfl, _, _, rfl, rfl, _, rfl, if_b (fun e1 => ?_) (fun e1 => ?_)⟩
            · refine ⟨_, rfl, _, rfl, p, _, 0, 0, rfl, rfl, upd_same, rfl, c, hc, rfl, fun b n => ?_, by rw [upd_same]; rfl⟩
              rw [upd_ne n, upd_ne n]
            · refine ⟨b0, g0, rfl, fun b n => by rw [upd_ne n], by rw [upd_same]; rfl⟩
          · rintro σ H2 ⟨c0, z0, rfl, hk, hb⟩
            have hS2 : Sq K H2 p [.int c0, .int b1, .int (b2 + 1), .ref q] := .inl (SqL.of hb)
            refine ⟨_, rfl, q_ix (i := 1) hS2 rfl rfl (.inl ⟨_, _, rfl, rfl, .inl ⟨by omega, by omega⟩, ?_⟩)⟩
            refine ⟨_, rfl, .inl ⟨_, rfl, _, _, rfl, rfl, p0 2147483647 (by decide), q_add ?_⟩⟩
            refine ⟨_, rfl, q_ix (i := 2) hS2 rfl rfl (.inl ⟨_, _, rfl, rfl, .inl ⟨by decide, by decide⟩, q_add ?_⟩)⟩
            refine ⟨_, rfl, .inl ⟨_, rfl, _, _, rfl, rfl, p0 2147483647 (by decide), ?_⟩⟩
            refine ⟨_, rfl, p, _, 1, 1, rfl, rfl, hb, rfl, ?_⟩
            refine ⟨c0, _, b2 + 1, _, _, rfl, z0, Int.emod_nonneg _ (by decide), Int.emod_lt_of_pos _ (by decide), by omega, fun b n => ?_, by rw [upd_same]; rfl⟩
            rw [upd_ne n, hk b n]
      · exact ⟨b0, b1, b2, none, none, rfl, g0, g1, g1', g2, fun _ _ => rfl, hp⟩
    · rintro σ H2 ⟨c0, c1, c2, x, y, rfl, z0, z1, z2, z3, hk, hb⟩
      have hS2 : Sq K H2 p [.int c0, .int c1, .int c2, .ref q] := .inl (SqL.of hb)
      refine ⟨_, rfl, q_ix (i := 0) hS2 rfl rfl ⟨_, _, rfl, rfl, _, rfl, if_b (fun e => ?_) (fun e => ?_)⟩⟩
      · refine ⟨_, rfl, q_ix (i := 0) hS2 rfl rfl (.inl ⟨_, rfl, _, rfl, _, _, rfl, rfl, hm0, ?_⟩)⟩
        refine ⟨_, rfl, q_ix (i := 0) hS2 rfl rfl ⟨_, rfl, _, _, rfl, rfl, ⟨hm0, hm1⟩, ?_⟩⟩
        refine ⟨_, rfl, p, _, 0, 0, rfl, rfl, hb, rfl, _, rfl, ?_⟩
        refine k _ _ (Int.emod_nonneg _ (by omega)) (Int.emod_lt_of_pos _ hm0) (leaf _ (c0 / m) c1 c2 (Int.ediv_nonneg z0 (by omega)) z1 z2 z3 (fun b n => ?_) (by rw [upd_same]; rfl))
        rw [upd_ne n, hk b n]
      · have b1e : ∀ x : Int, 0 ≤ x % 1000000007 ∧ x % 1000000007 < 1000000007 := fun x => ⟨Int.emod_nonneg _ (by decide), Int.emod_lt_of_pos _ (by decide)⟩
        have b2e : ∀ x : Int, 0 ≤ x % 998244353 ∧ x % 998244353 < 998244353 := fun x => ⟨Int.emod_nonneg _ (by decide), Int.emod_lt_of_pos _ (by decide)⟩
        refine ⟨_, rfl, q_ix (i := 1) hS2 rfl rfl (q_add (.inl ⟨_, _, rfl, rfl, .inr ⟨by decide, by decide⟩, .inl ⟨_, rfl, _, _, rfl, rfl, p0 1000000007 (by decide), ?_⟩⟩))⟩
        have r1 := b1e ((c1 + 1) * 39373)
        generalize (c1 + 1) * 39373 % 1000000007 = u at r1 ⊢
        refine ⟨_, rfl, _, rfl, .inl ⟨_, _, rfl, rfl, .inl ⟨by omega, by omega⟩, .inl ⟨_, rfl, _, _, rfl, rfl, p0 998244353 (by decide), .inl ⟨_, _, rfl, rfl, .inr ⟨by decide, by decide⟩, .inl ⟨_, rfl, _, _, rfl, rfl, p0 998244353 (by decide), ?_⟩⟩⟩⟩⟩
        refine ⟨_, rfl, _, _, rfl, rfl, ⟨by decide, by decide⟩, .inl ⟨_, rfl, _, rfl, _, _, rfl, rfl, hm0, ?_⟩⟩
        exact k _ _ (Int.emod_nonneg _ (by omega)) (Int.emod_lt_of_pos _ hm0) (leaf _ c0 c1 c2 z0 z1 z2 z3 hk hb)
theorem ok__law_bag (T : Txt K mg A D) : FnOk P w K mg base CX0 1 A._law_bag D._law_bag ["script"] (spBag K) := by
  refine T.f__law_bag.ok sc__law_bag (fun vs H Q E h => ?_) (fun cdv AA outer s H vs Q E hr h => ?_)
  · obtain ⟨a, ns, rfl, _⟩ := h
    rfl
  · obtain ⟨a, ns, rfl, hs, k⟩ := h
    refine ⟨_, (pss_one (ps_ret (pe_lst (pa_cons pe_int (pa_cons pe_int (pa_cons pe_int (pa_cons (pe_lc (own := [("cell", 1)]) rfl sc__law_bag.nd (pi_list (pe_slice (slK K rfl) (pv 0) po_none (po_some pe_int))) (blkOk_by (own := [("cell", 1)]) (N := n__law_bag) (sc := defScope s__law_bag) (by decide +kernel)) (fun _ _ _ _ _ => (pg_name (i := 1) sc__law_bag.nd rfl (Or.inl rfl))) (fun _ _ _ _ _ => pts_nil) (fun _ _ _ _ _ => (pe_callB call_abs (by rfl) T.b_abs (by decide +kernel) (pa_cons (pv 1) pa_nil)))) pa_nil))))))), ?_⟩
    refine ⟨_, rfl, _, rfl, .inl ⟨a, _, rfl, hs, fun p1 hp1 => ?_⟩⟩
    obtain ⟨ms, em, lm⟩ : ∃ ms : List Int, cutV (ns.map V.int) none (some 63) = ms.map V.int ∧ ms.length ≤ 63 := by
      refine ⟨(ns.drop (HT.sIx (ns.map V.int).length 0 none)).take (HT.sIx (ns.map V.int).length (ns.map V.int).length (some 63) - HT.sIx (ns.map V.int).length 0 none), ?_, ?_⟩
      · unfold cutV
        rw [← List.map_drop, ← List.map_take]
      · refine Nat.le_trans (List.length_take_le _ _) ?_
        show HT.sIx (ns.map V.int).length (ns.map V.int).length (some 63) - 0 ≤ 63
        unfold HT.sIx
        simp
        omega
    rw [em]
    refine ⟨p1, rfl, ⟨_, SqL.of upd_same⟩, fun Dd hDd => ?_⟩
    refine comp_map (G := fun H => SqL K H p1 (ms.map V.int)) (Y := YAt (ms.map V.int)) ms (fun c => V.int (if c < 0 then -c else c)) (by have := walk_list (K := K) (a := p1) (xs := ms.map V.int); rwa [List.length_map] at this) hDd (sz2 (by omega)) (fun H' s' => SqL.of (s' _ _ upd_same)) ?_ ?_
    · rintro i c y H1 H2 R hi s1 ⟨rfl, hx⟩ hR
      have ey : y = .int c := by
        rw [List.getElem?_map, hi] at hx
        exact (Option.some.inj hx).symm
      subst ey
      exact ⟨rfl, _, rfl, c, rfl, hR _ (Same.refl _)⟩
    · intro H1 s1 hl
      refine ⟨by show 4 ≤ sizeLine; decide, fun p hp => ?_⟩
      have nDp : Dd ≠ p := ne_of_none hl hp
      refine k p _ ⟨Dd, 0, 1234567891, 0, ms.map fun c => if c < 0 then -c else c, upd_same, ?_, by decide, by decide, by decide, by decide, by rw [List.length_map]; exact lm, ?_⟩
      · rw [upd_ne nDp, hl, List.map_map]
        rfl
      · intro c hc
        obtain ⟨z, _, rfl⟩ := List.mem_map.mp hc
        split <;> omega
theorem ok__law_one (T : Txt K mg A D) : FnOk P w K mg base CX0 2 A._law_one D._law_one ["bag", "things"] (spOne K) := by
  refine T.f__law_one.ok sc__law_one (fun vs H Q E h => ?_) (fun cdv AA outer s H vs Q E hr h => ?_)
  · obtain ⟨p, t, rfl, _⟩ := h
    rfl
  · obtain ⟨p, t, rfl, hB, hc⟩ := h
    refine ⟨_, (pss_one (ps_ret (pe_ix (ixK K rfl) (pv 1) (pe_call (ok__law_take T) (hr.mono (by decide)) rfl T.m__law_take T.f__law_take.kp (b__law_take T) .nil pass0 (pa_cons (pv 0) (pa_cons (pe_callB (lenK K rfl) (by rfl) T.b_len (by decide +kernel) (pa_cons (pv 1) pa_nil)) pa_nil))) (fun _ _ => rfl)))), ?_⟩
    rcases hc with ⟨a, xs, rfl, nap, hs, l0, l1, k⟩ | ⟨z, rfl, l0, l1, k⟩
    · refine ⟨_, rfl, _, rfl, _, rfl, q_lenSq hs ⟨p, _, rfl, by omega, by omega, hB, fun v H' v0 v1 x => ?_⟩⟩
      have hi : v.toNat < xs.length := by omega
      have g := List.getElem?_eq_getElem hi
      exact q_ix (i := v.toNat) (hs.ext x nap) (by omega) g (k v.toNat _ H' g x)
    · refine ⟨_, rfl, _, rfl, _, rfl, q_len (sz1 l1) ⟨p, _, rfl, by omega, by omega, hB, fun v H' v0 v1 x => ?_⟩⟩
      have hz : z.cps.toList.length = z.length := by simp [Str.length]
      have hi : v.toNat < z.cps.toList.length := by omega
      have g := List.getElem?_eq_getElem hi
      refine .inr (.inr ⟨z, v, z.cps.toList[v.toNat], rfl, rfl, sz1 l1, ?_, k _ H' (List.getElem_mem hi) x⟩)
      have ev : ((v.toNat : Nat) : Int) = v := by omega
      have := atI_nat g
      rwa [ev] at this
theorem ok__law_mixed (T : Txt K mg A D) : FnOk P w K mg base CX0 2 A._law_mixed D._law_mixed ["bag", "things"] (spMixed K) := by
  refine T.f__law_mixed.ok sc__law_mixed (fun vs H Q E h => ?_) (fun cdv AA outer s H vs Q E hr h => ?_)
  · obtain ⟨p, a, xs, rfl, _⟩ := h
    rfl
  · obtain ⟨p, a, xs, rfl, hB, nap, hs, l1, k⟩ := h
    refine ⟨_, (pss_cons (ps_set (i := 2) sc__law_mixed.nd rfl (Or.inl rfl) (by exact (pe_lst pa_nil)))
  (pss_cons (ps_for PassesOwn.never rfl (pi_list (pv 1)) (pg_name (i := 3) sc__law_mixed.nd rfl (Or.inl rfl))
 (pss_one (ps_expr (pe_bm PySem.F.plainAttrs_list PySem.F.slot_list_insert PySem.F.type_list_insert mt_insert (pv 2) (pa_cons (pe_call (ok__law_take T) (hr.mono (by decide)) rfl T.m__law_take T.f__law_take.kp (b__law_take T) .nil pass0 (pa_cons (pv 0) (pa_cons (pe_op (addK K rfl) (pe_callB (lenK K rfl) (by rfl) T.b_len (by decide +kernel) (pa_cons (pv 2) pa_nil)) pe_int) pa_nil))) (pa_cons (pv 3) pa_nil))))))
  (pss_one (ps_ret (pv 2))))), ?_⟩
    refine ⟨Nat.zero_le _, fun q hq => ?_⟩
    have nqp := hB.ne hq
    have s0 : Same H (upd H q (.lst [])) := same_upd hq
    refine ⟨_, rfl, a, rfl, ⟨_, s0.seq hs⟩, for_list (K := K) (a := a) (xs := xs) (fun i σ H' => ∃ (ys : List V) (t : Option V), σ = [some (.ref p), some (.ref a), some (.ref q), t] ∧ ys.Perm (xs.take i) ∧ H' q = some (.lst ys) ∧ Ext p H H')
      ⟨[], none, rfl, .nil, upd_same, .same hB s0⟩ (fun i σ H' _ ⟨_, _, _, _, _, x⟩ => ?_) ?_ ?_⟩
    · have := Sq.ext x nap (.inl hs)
      rcases this with h | h
      · exact h
      · rcases hs with (h1 | ⟨o, h1⟩) | h1
        · exact .inl (.inl (x.keep _ _ nap h1))
        · exact .inl (.inr ⟨o, x.keep _ _ nap h1⟩)
        · exact .inr h1
    · rintro i y σ H' hi ⟨ys, t, rfl, hp, hq', x⟩
      have hly : ys.length ≤ 1000 := by
        rw [hp.length_eq]
        exact Nat.le_trans (List.length_take_le' _ _) l1
      refine ⟨_, rfl, .inl ⟨rfl, _, SqL.of hq'⟩, _, rfl, _, rfl, q_lenSq (.inl (SqL.of hq')) (q_add ⟨p, _, rfl, by omega, by omega, x.bag, fun v H2 v0 v1 x2 => ?_⟩)⟩
      refine ⟨_, rfl, q, ys, v, y, rfl, rfl, x2.keep _ _ nqp hq', sz2 (by omega), v0, by omega, ?_⟩
      refine ⟨_, _, rfl, ?_, upd_same, ?_⟩
      · rw [take_one hi, List.append_assoc]
        have p1 : (ys.take v.toNat ++ ([y] ++ ys.drop v.toNat)).Perm (y :: (ys.take v.toNat ++ ys.drop v.toNat)) := by
          show (ys.take v.toNat ++ (y :: ys.drop v.toNat)).Perm _
          exact List.perm_middle
        rw [List.take_append_drop] at p1
        refine p1.trans ((List.Perm.cons y hp).trans ?_)
        exact (List.perm_append_singleton y (xs.take i)).symm
      · exact Ext.over hB (x.trans x2) hq
    · rintro σ H' ⟨ys, t, rfl, hp, hq', x⟩
      rw [List.take_length] at hp
      exact ⟨_, rfl, k q ys H' hp hq' nqp x⟩
theorem ok__law_names (T : Txt K mg A D) : FnOk P w K mg base CX0 2 A._law_names D._law_names ["bag", "many"] spNames := by
  refine T.f__law_names.ok sc__law_names (fun vs H Q E h => ?_) (fun cdv AA outer s H vs Q E hr h => ?_)
  · obtain ⟨p, m, rfl, _⟩ := h
    rfl
  · obtain ⟨p, m, rfl, hm0, hm8, hB, k⟩ := h
    refine ⟨_, (pss_cons (ps_set (i := 2) sc__law_names.nd rfl (Or.inl rfl) (by exact (pe_split pe_str pe_str)))
  (pss_cons (ps_asg (by exact (pe_tup (pa_cons (pe_call (ok__law_take T) (hr.mono (by decide)) rfl T.m__law_take T.f__law_take.kp (b__law_take T) .nil pass0 (pa_cons (pv 0) (pa_cons pe_int pa_nil))) (pa_cons (pe_call (ok__law_take T) (hr.mono (by decide)) rfl T.m__law_take T.f__law_take.kp (b__law_take T) .nil pass0 (pa_cons (pv 0) (pa_cons pe_int pa_nil))) pa_nil)))) (pg_tupK (n := 2) K rfl rfl (pgs_cons (pg_name (i := 3) sc__law_names.nd rfl (Or.inl rfl)) (pgs_cons (pg_name (i := 4) sc__law_names.nd rfl (Or.inr rfl)) pgs_nil))))
  (pss_cons (ps_if (pt_cmpR (eqK K rfl (units_of hr)) (pv 3) pe_int (nomark _)) (pss_one (ps_ret (pe_callTy (tupleK K rfl) (by rfl) T.b_tuple (by decide +kernel) (pa_cons (pe_callB (sortK K rfl) (by rfl) T.b_sorted (by decide +kernel) (pa_cons (pe_slice (slK K rfl) (pe_op (addK K rfl) (pe_slice (slK K rfl) (pv 2) (po_some (pv 4)) po_none) (pe_slice (slK K rfl) (pv 2) po_none (po_some (pv 4)))) po_none (po_some (pv 1))) pa_nil)) pa_nil)))) pss_nil)
  (pss_cons (ps_if (pt_cmpR (eqK K rfl (units_of hr)) (pv 3) pe_int (nomark _)) (pss_one (ps_ret (pe_callTy (tupleK K rfl) (by rfl) T.b_tuple (by decide +kernel) (pa_cons (pe_lc (own := [("k", 7)]) rfl sc__law_names.nd (pi_range1 rfl T.b_range (pa_cons (pv 1) pa_nil)) (blkOk_by (own := [("k", 7)]) (N := n__law_names) (sc := defScope s__law_names) (by decide +kernel)) (fun _ _ _ _ _ => (pg_name (i := 7) sc__law_names.nd rfl (Or.inl rfl))) (fun _ _ _ _ _ => pts_nil) (fun _ _ _ _ _ => (pe_slice (slK K rfl) pe_str po_none (po_some (pe_op (addK K rfl) (pv 7) pe_int))))) pa_nil)))) pss_nil)
  (pss_cons (ps_set (i := 5) sc__law_names.nd rfl (Or.inr rfl) (by exact pe_str))
  (pss_cons (ps_set (i := 6) sc__law_names.nd rfl (Or.inr rfl) (by exact (pe_ix (ixK K rfl) (pe_lst (pa_cons pe_str (pa_cons pe_str (pa_cons (pe_ix (ixK K rfl) (pv 5) (pv 4) (fun _ _ => rfl)) (pa_cons pe_str pa_nil))))) (pe_op op_sub (pv 3) pe_int) (fun _ _ => rfl))))
  (pss_one (ps_ret (pe_callTy (tupleK K rfl) (by rfl) T.b_tuple (by decide +kernel) (pa_cons (pe_callB (sortK K rfl) (by rfl) T.b_sorted (by decide +kernel) (pa_cons (pe_lc (own := [("k", 7)]) rfl sc__law_names.nd (pi_range1 rfl T.b_range (pa_cons (pv 1) pa_nil)) (blkOk_by (own := [("k", 7)]) (N := n__law_names) (sc := defScope s__law_names) (by decide +kernel)) (fun _ _ _ _ _ => (pg_name (i := 7) sc__law_names.nd rfl (Or.inl rfl))) (fun _ _ _ _ _ => pts_nil) (fun _ _ _ _ _ => (pe_op (addK K rfl) (pv 6) (pe_ix (ixK K rfl) (pv 5) (pe_op op_mod (pe_callTy call_int1 (by rfl) T.b_int (by decide +kernel) (pa_cons (pe_op (addK K rfl) (pv 4) (pe_op (mulK K rfl) pe_int (pv 7))) pa_nil)) pe_int) (fun _ _ => rfl))))) pa_nil)) pa_nil)))))))))), ?_⟩
    refine ⟨⟨_, rfl⟩, _, _, rfl, rfl, by decide +kernel, by rw [sizeLine_eq]; decide +kernel, fun pm hpm => ?_⟩
    have s0 : Same H (upd H pm (.lst (List.map V.str (Txt.split (Str.ofString "do of case end if else loop block leave again mark yes no at try on") (Str.ofString " "))))) := same_upd hpm
    have m0 : upd H pm (.lst (List.map V.str (Txt.split (Str.ofString "do of case end if else loop block leave again mark yes no at try on") (Str.ofString " ")))) pm = some (.lst (menu.map V.str)) := by
      rw [upd_same, menu_split]
    have x0 : Ext p H (upd H pm (.lst (List.map V.str (Txt.split (Str.ofString "do of case end if else loop block leave again mark yes no at try on") (Str.ofString " "))))) := .same hB s0
    have npm : pm ≠ p := hB.ne hpm
    generalize upd H pm (.lst (List.map V.str (Txt.split (Str.ofString "do of case end if else loop block leave again mark yes no at try on") (Str.ofString " ")))) = H1 at s0 m0 x0 ⊢
    refine ⟨_, rfl, p, 5, rfl, by decide, by decide, x0.bag, fun v H2 v0 v1 x1 => ⟨_, rfl, p, 16, rfl, by decide, by decide, x1.bag, fun t H3 t0 t1 x2 => ⟨by show 2 ≤ sizeLine; decide, fun pt hpt => ?_⟩⟩⟩
    have x3 : Ext p H (upd H3 pt (.tup [.int v, .int t])) := ((x0.trans x1).trans x2).then (same_upd hpt)
    have m3 : upd H3 pt (.tup [.int v, .int t]) pm = some (.lst (menu.map V.str)) := same_upd hpt _ _ (x2.keep _ _ npm (x1.keep _ _ npm m0))
    refine ⟨pt, _, rfl, .inl (.inl upd_same), rfl, _, _, rfl, _, _, rfl, rfl, ?_⟩
    generalize upd H3 pt (.tup [.int v, .int t]) = H4 at x3 m3 ⊢
    have done : ∀ (H5 : Hp) (l : Addr) (xs : List Str), Same H4 H5 → H5 l = none → (xs.length : Int) = m → (∀ x ∈ xs, Nm x) → Q (.ref l) (upd H5 l (.tup (xs.map V.str))) := fun H5 l xs s5 hl e1 e2 => by
      have x5 := x3.then s5
      exact k l xs _ e1 e2 upd_same (x5.bag.ne hl) (x5.then (same_upd hl))
    refine ⟨_, rfl, q_eqi ⟨_, rfl, if_b (fun e => ?_) (fun e => ?_)⟩⟩
    · -- words of texts
      refine ⟨_, rfl, _, rfl, _, rfl, .inl ⟨pm, _, rfl, SqL.of m3, fun p1 h1 => ?_⟩⟩
      rw [cutV_map]
      refine ⟨_, rfl, _, rfl, _, rfl, .inl ⟨pm, _, rfl, SqL.of (same_upd h1 _ _ m3), fun p2 h2 => ?_⟩⟩
      rw [cutV_map]
      refine .inr (.inr (.inl ⟨p1, p2, _, _, rfl, rfl, same_upd h2 _ _ upd_same, upd_same, ?_, fun p3 h3 => ?_⟩))
      · rw [List.length_map, List.length_map]
        exact sz1 (Nat.le_trans (Nat.add_le_add (cutL_len menu _ _) (cutL_len menu _ _)) (by decide))
      · rw [← List.map_append]
        refine ⟨_, rfl, _, rfl, .inl ⟨p3, _, rfl, SqL.of upd_same, fun p4 h4 => ?_⟩⟩
        rw [cutV_map]
        have le : ∀ (xs : List Str) (lo hi : Option Int), (cutL xs lo hi).length ≤ xs.length := cutL_len
        have lenA : (cutL menu (some t) none ++ cutL menu none (some t)).length = 16 := by
          rw [List.length_append, cutL_from menu t0, cutL_to menu t0]
          show 16 - min t.toNat 16 + min t.toNat 16 = 16
          omega
        have lenC : ((cutL (cutL menu (some t) none ++ cutL menu none (some t)) none (some m)).length : Int) = m := by
          rw [cutL_to _ hm0, lenA]
          omega
        refine ⟨p4, cutL (cutL menu (some t) none ++ cutL menu none (some t)) none (some m), rfl, SqL.of upd_same, by omega, fun ys p5 pe so h5 => ⟨p5, _, rfl, .inl ⟨SqL.of upd_same, fun l hl => done _ l ys ?_ hl (by rw [pe.length_eq]; exact lenC) (fun x hx => ?_)⟩⟩⟩
        · exact ((((same_upd h1).trans (same_upd h2)).trans (same_upd h3)).trans (same_upd h4)).trans (same_upd h5)
        · have h := cutL_mem (pe.mem_iff.mp hx)
          rcases List.mem_append.mp h with h | h
          · exact menu_nm x (cutL_mem h)
          · exact menu_nm x (cutL_mem h)
    · refine ⟨_, rfl, q_eqi ⟨_, rfl, if_b (fun e1 => ?_) (fun e1 => ?_)⟩⟩
      · -- ones that begin one another
        refine ⟨_, rfl, m, rfl, by omega, by omega, fun D1 hD => ?_⟩
        have wk : Walk (Itr 0 m.toNat) (List.range m.toNat).length (fun _ => True) (YFn fun i => V.int (0 + (i : Int))) := by
          rw [List.length_range]
          exact walk_range
        refine comp_map (Y := YFn fun i => V.int (0 + (i : Int))) (List.range m.toNat) (fun i => V.str (cutS (Str.ofString "aaaaaaaa") none (some (0 + (i : Int) + 1)))) wk hD (by rw [List.length_range]; exact sz2 (by omega)) (fun _ _ => trivial) ?_ ?_
        · rintro i c y H5 H6 R hi s1 ⟨rfl, rfl⟩ hR
          obtain ⟨rfl, _⟩ := range_get hi
          exact ⟨rfl, _, rfl, q_add ⟨_, rfl, .inr (.inr ⟨_, rfl, sz1 (by decide +kernel), hR _ (Same.refl _)⟩)⟩⟩
        · intro H5 s5 hl
          have em : (List.range m.toNat).map (fun i : Nat => V.str (cutS (Str.ofString "aaaaaaaa") none (some (0 + (i : Int) + 1)))) = ((List.range m.toNat).map fun i : Nat => cutS (Str.ofString "aaaaaaaa") none (some (0 + (i : Int) + 1))).map V.str := by rw [List.map_map]; rfl
          rw [em] at hl
          refine ⟨D1, _, rfl, .inl ⟨SqL.of hl, fun l hl' => done _ l _ s5 hl' (by rw [List.length_map, List.length_range]; omega) (fun x hx => ?_)⟩⟩
          obtain ⟨i, hi, rfl⟩ := List.mem_map.mp hx
          have hi' := List.mem_range.mp hi
          exact aaa_nm i (by omega)
      · -- single letters, behind a stem
        have hvv : v = 2 ∨ v = 3 ∨ v = 4 := by
          have a1 := of_decide_eq_false e
          have a2 := of_decide_eq_false e1
          omega
        have lt0 : t.toNat < abc.cps.toList.length := by
          rw [abc_len]
          omega
        obtain ⟨stem, hst, sl, sa⟩ : ∃ stem : Str, [V.str "", V.str "", V.str ⟨#[abc.cps.toList[t.toNat]]⟩, V.str "zzzzzzz"][(v - 1).toNat]? = some (.str stem) ∧ stem.length ≤ 7 ∧ ∀ c ∈ stem.cps.toList, c < 128 := by
          rcases hvv with rfl | rfl | rfl
          · exact ⟨_, rfl, by decide, by decide⟩
          · exact ⟨_, rfl, by show 1 ≤ 7; decide, fun c hc => by
              rw [List.mem_singleton.mp hc]
              exact abc_lo _ (List.getElem_mem lt0)⟩
          · exact ⟨_, rfl, by decide +kernel, by decide +kernel⟩
        refine ⟨_, rfl, _, rfl, .inr (.inr ⟨abc, t, abc.cps.toList[t.toNat], rfl, rfl, sz1 (by rw [abc_len']; decide), ?_, ?_⟩)⟩
        · have := atI_nat (List.getElem?_eq_getElem lt0)
          rwa [show ((t.toNat : Nat) : Int) = t from by omega] at this
        refine ⟨by show 4 ≤ sizeLine; decide, fun ps hps => ⟨_, rfl, _, _, rfl, rfl, q_ix (i := (v - 1).toNat) (.inl (SqL.of upd_same)) (by omega) hst ?_⟩⟩
        have s6 : Same H4 (upd H4 ps (.lst [V.str "", V.str "", V.str ⟨#[abc.cps.toList[t.toNat]]⟩, V.str "zzzzzzz"])) := same_upd hps
        generalize upd H4 ps (.lst [V.str "", V.str "", V.str ⟨#[abc.cps.toList[t.toNat]]⟩, V.str "zzzzzzz"]) = H5 at s6 ⊢
        refine ⟨_, rfl, m, rfl, by omega, by omega, fun D1 hD => ?_⟩
        have wk : Walk (Itr 0 m.toNat) (List.range m.toNat).length (fun _ => True) (YFn fun i => V.int (0 + (i : Int))) := by
          rw [List.length_range]
          exact walk_range
        refine comp_map (Y := YFn fun i => V.int (0 + (i : Int))) (List.range m.toNat) (fun i => V.str (stem ++ ⟨#[letter (t + 3 * (0 + (i : Int)))]⟩)) wk hD (by rw [List.length_range]; exact sz2 (by omega)) (fun _ _ => trivial) ?_ ?_
        · rintro i c y H6 H7 R hi s1 ⟨rfl, rfl⟩ hR
          obtain ⟨rfl, _⟩ := range_get hi
          refine ⟨rfl, _, rfl, _, rfl, _, rfl, _, rfl, .inl ⟨_, _, rfl, rfl, .inl ⟨by decide, by decide⟩, q_add (.inl ⟨_, rfl, _, _, rfl, rfl, p0' 26 (by decide), .inr (.inr ⟨abc, _, letter (t + 3 * (0 + (c : Int))), rfl, rfl, sz1 (by rw [abc_len']; decide), letter_at _, .inr (.inl ⟨_, _, rfl, rfl, sz1 (Nat.le_trans (Nat.add_le_add_right sl _) (by show 7 + 1 ≤ 1000000; decide)), hR _ (Same.refl _)⟩)⟩)⟩)⟩⟩
        · intro H6 s7 hl
          have em : (List.range m.toNat).map (fun i : Nat => V.str (stem ++ ⟨#[letter (t + 3 * (0 + (i : Int)))]⟩)) = ((List.range m.toNat).map fun i : Nat => stem ++ (⟨#[letter (t + 3 * (0 + (i : Int)))]⟩ : Str)).map V.str := by rw [List.map_map]; rfl
          rw [em] at hl
          refine ⟨D1, _, rfl, SqL.of hl, by rw [List.length_map, List.length_range]; omega, fun ys p5 pe so h5 => ⟨p5, _, rfl, .inl ⟨SqL.of upd_same, fun l hl' => done _ l ys ((s6.trans s7).trans (same_upd h5)) hl' (by rw [pe.length_eq, List.length_map, List.length_range]; omega) (fun x hx => ?_)⟩⟩⟩
          obtain ⟨i, hi, rfl⟩ := List.mem_map.mp (pe.mem_iff.mp hx)
          exact nm_behind sl sa (letter_lo _)
end
end K14
set_option Elab.async false
set_option linter.all false
set_option maxRecDepth 100000
set_option maxHeartbeats 4000000
namespace K14
open PySem PySem.Spec L2 Quiet Gn

def odd1 : List PyData := [.none, .bool true, .bool false, .int 0, .int 1, .int (-1), .int (10 ^ (39 : Int).toNat), .str "", .str "a", .str "A", .str "ninesigns", .str "a b", .str "a\n", .list [], .tuple [], .dict [], .list [.str "a"], .tuple [.str "a"]]
def odd2 : List PyData := [.tuple [.str "b", .str "a"], .tuple [.str "a", .str "a"], .tuple [.str "a", .int 1], .tuple [.tuple [.str "a"]], .dict [(.str "a", .str "b")], .dict [(.str "a", .tuple [])], .list [.tuple [.str "a"], .tuple []], .list (List.replicate 900 (.int 0))]
def odd3 : List PyData := [.tuple [.bool true], .tuple [.bool false, .bool true], .tuple [.int 1], .tuple [.int 0, .int 1], .list [.bool true], .tuple [.tuple [.bool true], .list []], .tuple [.tuple [], .list []], .tuple [.tuple [], .tuple []], .list [.tuple [.tuple [], .list []]]]
def odd4 : List PyData := [.tuple [.str "on"], .tuple [.str "end"], .tuple [.str "leave", .str "a"], .tuple [.str "raise", .str "a"], .tuple [.str "stop", .str "a"], .tuple [.str "out", .tuple [.str "end"]], .tuple [.str "round"]]
def odd5 : List PyData := [.tuple [.str "do", .str "a"], .tuple [.str "do", .str "a", .tuple []], .tuple [.str "mark", .str "a"], .tuple [.str "mark", .str "a", .int 0], .tuple [.str "if", .str "a", .tuple [], .tuple []]]
def odd6 : List PyData := [.tuple [.str "ask", .str "a", .int 0, .int 0], .tuple [.str "loop", .str "a", .tuple []], .tuple [.str "try", .tuple [], .tuple [], .tuple []], .tuple [.str "call", .str "a"]]
def odd7 : List PyData := [.tuple [.str "never", .tuple [.tuple [.str "a", .bool true]]], .tuple [.str "never"], .str "on"]
section
variable {P : Program} {w : World} {K : PySem.W.Frag} {mg : Str → Option Value} {base : Heap} {A : Ad} {D : Fd}
theorem ok__law_odd (T : Txt K mg A D) : FnOk P w K mg base CX0 3 A._law_odd D._law_odd ["bag"] spOdd := by
  refine T.f__law_odd.ok sc__law_odd (fun vs H Q E h => ?_) (fun cdv AA outer s H vs Q E hr h => ?_)
  · obtain ⟨p, S, rfl, _⟩ := h
    rfl
  · obtain ⟨p, S, rfl, hB, hp, hT, k⟩ := h
    refine ⟨_, (pss_cons (ps_set (i := 1) sc__law_odd.nd rfl (Or.inl rfl) (by exact (pe_call (ok__law_one T) (hr.mono (by decide)) rfl T.m__law_one T.f__law_one.kp (b__law_one T) .nil pass0 (pa_cons (pv 0) (pa_cons (pe_lst (pa_cons (pe_lst pa_nil) (pa_cons (pe_tup pa_nil) (pa_cons pe_str (pa_cons pe_dnewK pa_nil))))) pa_nil)))))
  (pss_cons (ps_for PassesOwn.never rfl (pi_range1 rfl T.b_range (pa_cons pe_int pa_nil)) (pg_name (i := 2) sc__law_odd.nd rfl (Or.inl rfl))
 (pss_one (ps_set (i := 1) sc__law_odd.nd rfl (Or.inl rfl) (by exact (pe_ifExp (pt_cmpR (eqK K rfl (units_of hr)) (pe_call (ok__law_take T) (hr.mono (by decide)) rfl T.m__law_take T.f__law_take.kp (b__law_take T) .nil pass0 (pa_cons (pv 0) (pa_cons pe_int pa_nil))) pe_int (nomark _)) (pe_lst (pa_cons (pv 1) pa_nil)) (pe_tup (pa_cons (pv 1) pa_nil)))))))
  (pss_cons (ps_set (i := 3) sc__law_odd.nd rfl (Or.inl rfl) (by exact (pe_lst (pa_cons pe_non (pa_cons pe_bl (pa_cons pe_bl (pa_cons pe_int (pa_cons pe_int (pa_cons (pe_un un_neg pe_int) (pa_cons (pe_op op_pow pe_int pe_int) (pa_cons pe_str (pa_cons pe_str (pa_cons pe_str (pa_cons pe_str (pa_cons pe_str (pa_cons pe_str (pa_cons (pe_lst pa_nil) (pa_cons (pe_tup pa_nil) (pa_cons pe_dnewK (pa_cons (pe_lst (pa_cons pe_str pa_nil)) (pa_cons (pe_tup (pa_cons pe_str pa_nil)) pa_nil)))))))))))))))))))))
  (pss_cons (ps_set (i := 3) sc__law_odd.nd rfl (Or.inl rfl) (by exact (pe_op (addK K rfl) (pv 3) (pe_lst (pa_cons (pe_tup (pa_cons pe_str (pa_cons pe_str pa_nil))) (pa_cons (pe_tup (pa_cons pe_str (pa_cons pe_str pa_nil))) (pa_cons (pe_tup (pa_cons pe_str (pa_cons pe_int pa_nil))) (pa_cons (pe_tup (pa_cons (pe_tup (pa_cons pe_str pa_nil)) pa_nil)) (pa_cons (pe_disp (pps_cons pe_str pe_str pps_nil) (by rfl) (by rfl) (fun z => by cases z) (by decide)) (pa_cons (pe_disp (pps_cons pe_str (pe_tup pa_nil) pps_nil) (by rfl) (by rfl) (fun z => by cases z) (by decide)) (pa_cons (pe_lst (pa_cons (pe_tup (pa_cons pe_str pa_nil)) (pa_cons (pe_tup pa_nil) pa_nil))) (pa_cons (pe_op (mulK K rfl) (pe_lst (pa_cons pe_int pa_nil)) pe_int) (pa_cons (pv 1) pa_nil)))))))))))))
  (pss_cons (ps_set (i := 3) sc__law_odd.nd rfl (Or.inl rfl) (by exact (pe_op (addK K rfl) (pv 3) (pe_lst (pa_cons (pe_tup (pa_cons pe_bl pa_nil)) (pa_cons (pe_tup (pa_cons pe_bl (pa_cons pe_bl pa_nil))) (pa_cons (pe_tup (pa_cons pe_int pa_nil)) (pa_cons (pe_tup (pa_cons pe_int (pa_cons pe_int pa_nil))) (pa_cons (pe_lst (pa_cons pe_bl pa_nil)) (pa_cons (pe_tup (pa_cons (pe_tup (pa_cons pe_bl pa_nil)) (pa_cons (pe_lst pa_nil) pa_nil))) (pa_cons (pe_tup (pa_cons (pe_tup pa_nil) (pa_cons (pe_lst pa_nil) pa_nil))) (pa_cons (pe_tup (pa_cons (pe_tup pa_nil) (pa_cons (pe_tup pa_nil) pa_nil))) (pa_cons (pe_lst (pa_cons (pe_tup (pa_cons (pe_tup pa_nil) (pa_cons (pe_lst pa_nil) pa_nil))) pa_nil)) pa_nil)))))))))))))
  (pss_cons (ps_set (i := 3) sc__law_odd.nd rfl (Or.inl rfl) (by exact (pe_op (addK K rfl) (pv 3) (pe_lst (pa_cons (pe_tup (pa_cons pe_str pa_nil)) (pa_cons (pe_tup (pa_cons pe_str pa_nil)) (pa_cons (pe_tup (pa_cons pe_str (pa_cons pe_str pa_nil))) (pa_cons (pe_tup (pa_cons pe_str (pa_cons pe_str pa_nil))) (pa_cons (pe_tup (pa_cons pe_str (pa_cons pe_str pa_nil))) (pa_cons (pe_tup (pa_cons pe_str (pa_cons (pe_tup (pa_cons pe_str pa_nil)) pa_nil))) (pa_cons (pe_tup (pa_cons pe_str pa_nil)) pa_nil)))))))))))
  (pss_cons (ps_set (i := 3) sc__law_odd.nd rfl (Or.inl rfl) (by exact (pe_op (addK K rfl) (pv 3) (pe_lst (pa_cons (pe_tup (pa_cons pe_str (pa_cons pe_str pa_nil))) (pa_cons (pe_tup (pa_cons pe_str (pa_cons pe_str (pa_cons (pe_tup pa_nil) pa_nil)))) (pa_cons (pe_tup (pa_cons pe_str (pa_cons pe_str pa_nil))) (pa_cons (pe_tup (pa_cons pe_str (pa_cons pe_str (pa_cons pe_int pa_nil)))) (pa_cons (pe_tup (pa_cons pe_str (pa_cons pe_str (pa_cons (pe_tup pa_nil) (pa_cons (pe_tup pa_nil) pa_nil))))) pa_nil)))))))))
  (pss_cons (ps_set (i := 3) sc__law_odd.nd rfl (Or.inl rfl) (by exact (pe_op (addK K rfl) (pv 3) (pe_lst (pa_cons (pe_tup (pa_cons pe_str (pa_cons pe_str (pa_cons pe_int (pa_cons pe_int pa_nil))))) (pa_cons (pe_tup (pa_cons pe_str (pa_cons pe_str (pa_cons (pe_tup pa_nil) pa_nil)))) (pa_cons (pe_tup (pa_cons pe_str (pa_cons (pe_tup pa_nil) (pa_cons (pe_tup pa_nil) (pa_cons (pe_tup pa_nil) pa_nil))))) (pa_cons (pe_tup (pa_cons pe_str (pa_cons pe_str pa_nil))) pa_nil))))))))
  (pss_cons (ps_set (i := 3) sc__law_odd.nd rfl (Or.inl rfl) (by exact (pe_op (addK K rfl) (pv 3) (pe_lst (pa_cons (pe_tup (pa_cons pe_str (pa_cons (pe_tup (pa_cons (pe_tup (pa_cons pe_str (pa_cons pe_bl pa_nil))) pa_nil)) pa_nil))) (pa_cons (pe_tup (pa_cons pe_str pa_nil)) (pa_cons pe_str pa_nil)))))))
  (pss_one (ps_ret (pe_call (ok__law_one T) (hr.mono (by decide)) rfl T.m__law_one T.f__law_one.kp (b__law_one T) .nil pass0 (pa_cons (pv 0) (pa_cons (pv 3) pa_nil)))))))))))))), ?_⟩
    have hD := Dom.refl H
    refine ⟨_, rfl, gl_lst (S := S) (G := H) (H1 := H) (ds := [.list [], .tuple [], .str "a", .dict []]) hT hD (by (repeat (first | exact g_non | exact g_bl | exact g_int | exact g_str | exact g_nil | exact g_neg | refine g_cons ?_ ?_ | refine g_tup (by assumption) (by assumption) ?_ ?_ | refine g_lst (by assumption) (by assumption) ?_ ?_ | exact g_dnew (by assumption) (by assumption) | exact g_d1 (by assumption) (by assumption) | exact g_d2 (by assumption) (by assumption) | exact g_pow ⟨by decide, by decide, by decide⟩ | exact g_rep (by assumption) (by assumption) rfl (by decide) (by decide) | exact g_var rfl (by assumption) (by assumption) | (show _ ≤ 1000000; decide)))) (by decide) H _ (Same.refl H) fun a xs H2 e1 n1 k1 v1 w1 s2 => ?_⟩
    refine ⟨p, .ref a, rfl, hB.same s2, .inl ⟨a, xs, rfl, ne_p hp n1, .inl (SqL.of e1), by rw [k1.length]; decide, by rw [k1.length]; decide, fun i v H3 hi x => ?_⟩⟩
    obtain ⟨d, ed, hv⟩ := k1.at' hi
    have nv : NewV H v := v1 v (List.mem_of_getElem? hi)
    have hv3 : Is (hide S H3) v d := Is.same (hide_ext hp x) hv
    have x3 : Ext p H H3 := (Ext.same hB s2).trans x
    have dd : DeepD 0 d := by
      have hm := List.mem_of_getElem? ed
      rcases List.mem_cons.mp hm with e | hm
      · rw [e]; exact ⟨by decide +kernel, by decide, by decide⟩
      rcases List.mem_cons.mp hm with e | hm
      · rw [e]; exact ⟨by decide +kernel, by decide, by decide⟩
      rcases List.mem_cons.mp hm with e | hm
      · rw [e]; exact ⟨by decide +kernel, by decide, by decide⟩
      · rw [List.mem_singleton.mp hm]; exact ⟨by decide +kernel, by decide, by decide⟩
    clear hv ed hi k1 v1 w1 n1 e1 s2 x
    refine ⟨5, rfl, by decide, by decide, for_range (fun i σ H' => ∃ (v : V) (d : PyData) (t : Option V), σ = [some (.ref p), some v, t, none] ∧ Is (hide S H') v d ∧ NewV H v ∧ DeepD i d ∧ Ext p H H') ⟨v, d, none, rfl, hv3, nv, dd, x3⟩ ?_ ?_⟩
    · rintro i σ H4 hi ⟨v, d, t, rfl, hv, nv, dd, x4⟩
      have ndom : Dom H H4 := Dom.ext x4
      refine ⟨_, rfl, p, 2, rfl, by decide, by decide, x4.bag, fun z H5 z0 z1 x5 => q_eqi ⟨_, rfl, if_b (fun e => ?_) (fun e => ?_)⟩⟩
      · refine ⟨_, rfl, by show 1 ≤ sizeLine; decide, fun q hq => ?_⟩
        have ne := (hT.ext (x4.trans x5)).no hq
        have x45 := x4.trans x5
        have s6 : Same H5 (upd H5 q (.lst [v])) := same_upd hq
        exact ⟨.ref q, .list [d], _, rfl, .lst (by rw [hide_ne ne]; exact upd_same) (.cons (Is.same (hide_mono s6) (Is.same (hide_ext hp x5) hv)) .nil), fun b e => by cases e; exact Dom.ext x45 q hq, dd.lst, x45.then s6⟩
      · refine ⟨_, rfl, by show 1 ≤ sizeLine; decide, fun q hq => ?_⟩
        have ne := (hT.ext (x4.trans x5)).no hq
        have x45 := x4.trans x5
        have s6 : Same H5 (upd H5 q (.tup [v])) := same_upd hq
        exact ⟨.ref q, .tuple [d], _, rfl, .tup (by rw [hide_ne ne]; exact upd_same) (.cons (Is.same (hide_mono s6) (Is.same (hide_ext hp x5) hv)) .nil), fun b e => by cases e; exact Dom.ext x45 q hq, dd.tup, x45.then s6⟩
    · rintro σ H4 ⟨v, d, t, rfl, hv, nv, dd, x4⟩
      have go : ∀ {ds : List PyData} {a : Addr} {xs : List V} {H5 : Hp}, True := fun {_ _ _ _} => trivial
      have hT4 := hT.ext x4
      have hD4 : Dom H H4 := Dom.ext x4
      try dsimp only
      refine seq_asg ?_
      refine gl_lst (S := S) (G := H) (H1 := H4) (ds := odd1) hT4 hD4 (by unfold odd1; (repeat (first | exact g_non | exact g_bl | exact g_int | exact g_str | exact g_nil | exact g_neg | refine g_cons ?_ ?_ | refine g_tup (by assumption) (by assumption) ?_ ?_ | refine g_lst (by assumption) (by assumption) ?_ ?_ | exact g_dnew (by assumption) (by assumption) | exact g_d1 (by assumption) (by assumption) | exact g_d2 (by assumption) (by assumption) | exact g_pow ⟨by decide, by decide, by decide⟩ | exact g_rep (by assumption) (by assumption) rfl (by decide) (by decide) | exact g_var rfl (by assumption) (by assumption) | (show _ ≤ 1000000; decide)))) (by decide) H4 _ (Same.refl H4) fun a xs H5 e1 n1 k1 v1 w1 s5 => ?_
      have x5 := x4.then s5
      have hv5 := Is.same (hide_mono s5) hv
      clear hT4 hD4
      have hT5 := hT.ext x5
      have hD5 : Dom H H5 := Dom.ext x5
      try dsimp only
      refine seq_asg ?_
      refine gl_cat (S := S) (G := H) (H1 := H5) (ds := odd1) (es := odd2 ++ [d]) hT5 hD5 (gl_var rfl e1 n1 k1 v1 w1) (gl_lst hT5 hD5 (by unfold odd2; simp only [List.cons_append, List.nil_append]; (repeat (first | exact g_non | exact g_bl | exact g_int | exact g_str | exact g_nil | exact g_neg | refine g_cons ?_ ?_ | refine g_tup (by assumption) (by assumption) ?_ ?_ | refine g_lst (by assumption) (by assumption) ?_ ?_ | exact g_dnew (by assumption) (by assumption) | exact g_d1 (by assumption) (by assumption) | exact g_d2 (by assumption) (by assumption) | exact g_pow ⟨by decide, by decide, by decide⟩ | exact g_rep (by assumption) (by assumption) rfl (by decide) (by decide) | exact g_var rfl (by assumption) (by assumption) | (show _ ≤ 1000000; decide)))) (by rw [List.length_append]; show _ + 1 ≤ _; decide)) (by rw [List.length_append]; show _ + (_ + 1) ≤ _; decide) H5 _ (Same.refl H5) fun a2 xs2 H6 e2 n2 k2 v2 w2 s6 => ?_
      have x6 := x5.then s6
      clear hv hv5 hT5 hD5 e1 n1 k1 v1 w1
      have hT6 := hT.ext x6
      have hD6 : Dom H H6 := Dom.ext x6
      try dsimp only
      refine seq_asg ?_
      refine gl_cat (S := S) (G := H) (H1 := H6) (es := odd3) hT6 hD6 (gl_var rfl e2 n2 k2 v2 w2) (gl_lst hT6 hD6 (by unfold odd3; (repeat (first | exact g_non | exact g_bl | exact g_int | exact g_str | exact g_nil | exact g_neg | refine g_cons ?_ ?_ | refine g_tup (by assumption) (by assumption) ?_ ?_ | refine g_lst (by assumption) (by assumption) ?_ ?_ | exact g_dnew (by assumption) (by assumption) | exact g_d1 (by assumption) (by assumption) | exact g_d2 (by assumption) (by assumption) | exact g_pow ⟨by decide, by decide, by decide⟩ | exact g_rep (by assumption) (by assumption) rfl (by decide) (by decide) | exact g_var rfl (by assumption) (by assumption) | (show _ ≤ 1000000; decide)))) (by decide)) (by simp only [List.length_append, List.length_cons, List.length_nil]; decide) H6 _ (Same.refl H6) fun a3 xs3 H7 e3 n3 k3 v3 w3 s7 => ?_
      have x7 := x6.then s7
      clear hT6 hD6 e2 n2 k2 v2 w2
      have hT7 := hT.ext x7
      have hD7 : Dom H H7 := Dom.ext x7
      try dsimp only
      refine seq_asg ?_
      refine gl_cat (S := S) (G := H) (H1 := H7) (es := odd4) hT7 hD7 (gl_var rfl e3 n3 k3 v3 w3) (gl_lst hT7 hD7 (by unfold odd4; (repeat (first | exact g_non | exact g_bl | exact g_int | exact g_str | exact g_nil | exact g_neg | refine g_cons ?_ ?_ | refine g_tup (by assumption) (by assumption) ?_ ?_ | refine g_lst (by assumption) (by assumption) ?_ ?_ | exact g_dnew (by assumption) (by assumption) | exact g_d1 (by assumption) (by assumption) | exact g_d2 (by assumption) (by assumption) | exact g_pow ⟨by decide, by decide, by decide⟩ | exact g_rep (by assumption) (by assumption) rfl (by decide) (by decide) | exact g_var rfl (by assumption) (by assumption) | (show _ ≤ 1000000; decide)))) (by decide)) (by simp only [List.length_append, List.length_cons, List.length_nil]; decide) H7 _ (Same.refl H7) fun a4 xs4 H8 e4 n4 k4 v4 w4 s8 => ?_
      have x8 := x7.then s8
      clear hT7 hD7 e3 n3 k3 v3 w3
      have hT8 := hT.ext x8
      have hD8 : Dom H H8 := Dom.ext x8
      try dsimp only
      refine seq_asg ?_
      refine gl_cat (S := S) (G := H) (H1 := H8) (es := odd5) hT8 hD8 (gl_var rfl e4 n4 k4 v4 w4) (gl_lst hT8 hD8 (by unfold odd5; (repeat (first | exact g_non | exact g_bl | exact g_int | exact g_str | exact g_nil | exact g_neg | refine g_cons ?_ ?_ | refine g_tup (by assumption) (by assumption) ?_ ?_ | refine g_lst (by assumption) (by assumption) ?_ ?_ | exact g_dnew (by assumption) (by assumption) | exact g_d1 (by assumption) (by assumption) | exact g_d2 (by assumption) (by assumption) | exact g_pow ⟨by decide, by decide, by decide⟩ | exact g_rep (by assumption) (by assumption) rfl (by decide) (by decide) | exact g_var rfl (by assumption) (by assumption) | (show _ ≤ 1000000; decide)))) (by decide)) (by simp only [List.length_append, List.length_cons, List.length_nil]; decide) H8 _ (Same.refl H8) fun a5 xs5 H9 e5 n5 k5 v5 w5 s9 => ?_
      have x9 := x8.then s9
      clear hT8 hD8 e4 n4 k4 v4 w4
      have hT9 := hT.ext x9
      have hD9 : Dom H H9 := Dom.ext x9
      try dsimp only
      refine seq_asg ?_
      refine gl_cat (S := S) (G := H) (H1 := H9) (es := odd6) hT9 hD9 (gl_var rfl e5 n5 k5 v5 w5) (gl_lst hT9 hD9 (by unfold odd6; (repeat (first | exact g_non | exact g_bl | exact g_int | exact g_str | exact g_nil | exact g_neg | refine g_cons ?_ ?_ | refine g_tup (by assumption) (by assumption) ?_ ?_ | refine g_lst (by assumption) (by assumption) ?_ ?_ | exact g_dnew (by assumption) (by assumption) | exact g_d1 (by assumption) (by assumption) | exact g_d2 (by assumption) (by assumption) | exact g_pow ⟨by decide, by decide, by decide⟩ | exact g_rep (by assumption) (by assumption) rfl (by decide) (by decide) | exact g_var rfl (by assumption) (by assumption) | (show _ ≤ 1000000; decide)))) (by decide)) (by simp only [List.length_append, List.length_cons, List.length_nil]; decide) H9 _ (Same.refl H9) fun a6 xs6 H10 e6 n6 k6 v6 w6 s10 => ?_
      have x10 := x9.then s10
      clear hT9 hD9 e5 n5 k5 v5 w5
      have hT10 := hT.ext x10
      have hD10 : Dom H H10 := Dom.ext x10
      try dsimp only
      refine seq_asg ?_
      refine gl_cat (S := S) (G := H) (H1 := H10) (es := odd7) hT10 hD10 (gl_var rfl e6 n6 k6 v6 w6) (gl_lst hT10 hD10 (by unfold odd7; (repeat (first | exact g_non | exact g_bl | exact g_int | exact g_str | exact g_nil | exact g_neg | refine g_cons ?_ ?_ | refine g_tup (by assumption) (by assumption) ?_ ?_ | refine g_lst (by assumption) (by assumption) ?_ ?_ | exact g_dnew (by assumption) (by assumption) | exact g_d1 (by assumption) (by assumption) | exact g_d2 (by assumption) (by assumption) | exact g_pow ⟨by decide, by decide, by decide⟩ | exact g_rep (by assumption) (by assumption) rfl (by decide) (by decide) | exact g_var rfl (by assumption) (by assumption) | (show _ ≤ 1000000; decide)))) (by decide)) (by simp only [List.length_append, List.length_cons, List.length_nil]; decide) H10 _ (Same.refl H10) fun a7 xs7 H11 e7 n7 k7 v7 w7 s11 => ?_
      have x11 := x10.then s11
      clear hT10 hD10 e6 n6 k6 v6 w6
      have lx : xs7.length = odd1.length + (odd2.length + 1) + odd3.length + odd4.length + odd5.length + odd6.length + odd7.length := by
        rw [k7.length]
        simp only [List.length_append, List.length_cons, List.length_nil]
      refine ⟨_, rfl, _, rfl, p, .ref a7, rfl, x11.bag, .inl ⟨a7, xs7, rfl, ne_p hp n7, .inl (SqL.of e7), by rw [lx]; decide, by rw [lx]; decide, fun i v H12 hi x => ?_⟩⟩
      obtain ⟨d1, ed, hv⟩ := k7.at' hi
      have nv : NewV H v := v7 v (List.mem_of_getElem? hi)
      refine k v d1 H12 (Is.same (hide_ext hp x) hv) nv ?_ (x11.trans x)
      have hm := List.mem_of_getElem? ed
      have all : ∀ {l : List PyData}, l.all fineB = true → ∀ e ∈ l, Fine 0 e := fun {l} h e he => fine_of (List.all_eq_true.mp h e he)
      rcases List.mem_append.mp hm with hm | hm
      · rcases List.mem_append.mp hm with hm | hm
        · rcases List.mem_append.mp hm with hm | hm
          · rcases List.mem_append.mp hm with hm | hm
            · rcases List.mem_append.mp hm with hm | hm
              · rcases List.mem_append.mp hm with hm | hm
                · exact all (l := odd1) (by decide +kernel) d1 hm
                · rcases List.mem_append.mp hm with hm | hm
                  · exact all (l := odd2) (by decide +kernel) d1 hm
                  · rw [List.mem_singleton.mp hm]
                    exact dd.fine (by decide)
              · exact all (l := odd3) (by decide +kernel) d1 hm
            · exact all (l := odd4) (by decide +kernel) d1 hm
          · exact all (l := odd5) (by decide +kernel) d1 hm
        · exact all (l := odd6) (by decide +kernel) d1 hm
      · exact all (l := odd7) (by decide +kernel) d1 hm
end
end K14
set_option Elab.async false
set_option linter.all false
set_option maxRecDepth 100000
set_option maxHeartbeats 4000000
/-! ## Rows, as data -/
namespace Rw
open PySem PySem.Spec L2 Quiet Gn

def leafK : List Str := ["leave", "again", "raise", "call", "stop", "mark"]
def doC (c : Str × List PyData) : PyData := .tuple [.str c.1, .tuple c.2]
def trC (c : List Str × List PyData) : PyData := .tuple [.tuple (c.1.map .str), .tuple c.2]
inductive RowOk : PyData → Prop
  | leaf {k x : Str} (hk : k ∈ leafK) (hx : Nm x) : RowOk (.tuple [.str k, .str x])
  | doo {s : Str} (hs : Nm s) {cs : List (Str × List PyData)} (hn : ∀ c ∈ cs, Nm c.1) (h : ∀ c ∈ cs, ∀ r ∈ c.2, RowOk r) : RowOk (.tuple [.str "do", .str s, .tuple (cs.map doC)])
  | iff {a : Str} (ha : Nm a) {y n : List PyData} (hy : ∀ r ∈ y, RowOk r) (hn : ∀ r ∈ n, RowOk r) : RowOk (.tuple [.str "if", .str a, .tuple y, .tuple n])
  | loop {k l : Str} (hk : k ∈ ([Str.ofString "loop", Str.ofString "block"] : List Str)) (hl : Nm l) {b : List PyData} (hb : ∀ r ∈ b, RowOk r) : RowOk (.tuple [.str k, .str l, .tuple b])
  | trr {b e : List PyData} (hb : ∀ r ∈ b, RowOk r) {cs : List (List Str × List PyData)} (hn : ∀ c ∈ cs, c.1.length ≤ 8 ∧ ∀ x ∈ c.1, Nm x) (h : ∀ c ∈ cs, ∀ r ∈ c.2, RowOk r) (he : ∀ r ∈ e, RowOk r) : RowOk (.tuple [.str "try", .tuple b, .tuple (cs.map trC), .tuple e])
def tupD : PyData → List PyData | .tuple ds => ds | _ => []
def nth (d : PyData) (i : Nat) : PyData := (tupD d).getD i .none
def secD (d : PyData) : List PyData := tupD (nth d 1)
def tag (d : PyData) : Str := textOf (nth d 0)
def bodiesD (d : PyData) : List (List PyData) :=
  if tag d = "do" then (tupD (nth d 2)).map secD else if tag d = "if" then [tupD (nth d 2), tupD (nth d 3)] else
  if tag d ∈ ([Str.ofString "loop", Str.ofString "block"] : List Str) then [tupD (nth d 2)] else
  if tag d = "try" then tupD (nth d 1) :: ((tupD (nth d 2)).map secD ++ [tupD (nth d 3)]) else []
def withC (d : PyData) (ss : List (List PyData)) : List PyData := List.zipWith (fun c s => PyData.tuple [nth c 0, .tuple s]) (tupD (nth d 2)) ss
def withD (d : PyData) (ss : List (List PyData)) : PyData :=
  if tag d = "do" then .tuple [.str "do", nth d 1, .tuple (withC d ss)] else if tag d = "if" then .tuple [.str "if", nth d 1, .tuple (ss.getD 0 []), .tuple (ss.getD 1 [])] else
  if tag d ∈ ([Str.ofString "loop", Str.ofString "block"] : List Str) then .tuple [nth d 0, nth d 1, .tuple (ss.getD 0 [])] else
  if tag d = "try" then .tuple [.str "try", .tuple (ss.getD 0 []), .tuple (withC d ((ss.drop 1).dropLast)), .tuple (ss.getD (ss.length - 1) [])] else d
theorem leaf_no {k : Str} (h : k ∈ leafK) : k ≠ "do" ∧ k ≠ "if" ∧ k ∉ ([Str.ofString "loop", Str.ofString "block"] : List Str) ∧ k ≠ "try" := by
  have : leafK.all (fun k => decide (k ≠ "do") && (decide (k ≠ "if") && (decide (k ∉ ([Str.ofString "loop", Str.ofString "block"] : List Str)) && decide (k ≠ "try")))) = true := by decide +kernel
  have := List.all_eq_true.mp this k h
  simp only [Bool.and_eq_true, decide_eq_true_eq] at this
  exact ⟨this.1, this.2.1, this.2.2.1, this.2.2.2⟩
theorem loop_no {k : Str} (h : k ∈ ([Str.ofString "loop", Str.ofString "block"] : List Str)) : k ≠ "do" ∧ k ≠ "if" := by
  have : ([Str.ofString "loop", Str.ofString "block"] : List Str).all (fun k => decide (k ≠ "do") && decide (k ≠ "if")) = true := by decide +kernel
  have := List.all_eq_true.mp this k h
  simpa [Bool.and_eq_true, decide_eq_true_eq] using this
theorem tag_str {k : Str} {r : List PyData} : tag (.tuple (.str k :: r)) = k := rfl
theorem b_leaf {k x : Str} (h : k ∈ leafK) : bodiesD (.tuple [.str k, .str x]) = [] := by
  obtain ⟨h1, h2, h3, h4⟩ := leaf_no h
  unfold bodiesD
  rw [tag_str, if_neg h1, if_neg h2, if_neg h3, if_neg h4]
theorem b_do {s : Str} {cs : List (Str × List PyData)} : bodiesD (.tuple [.str "do", .str s, .tuple (cs.map doC)]) = cs.map (·.2) := by
  unfold bodiesD
  rw [tag_str, if_pos rfl]
  show (cs.map doC).map secD = _
  rw [List.map_map]
  rfl
theorem b_if {a : Str} {y n : List PyData} : bodiesD (.tuple [.str "if", .str a, .tuple y, .tuple n]) = [y, n] := by
  unfold bodiesD
  rw [tag_str, if_neg (by decide +kernel), if_pos rfl]
  rfl
theorem b_loop {k l : Str} {b : List PyData} (h : k ∈ ([Str.ofString "loop", Str.ofString "block"] : List Str)) : bodiesD (.tuple [.str k, .str l, .tuple b]) = [b] := by
  obtain ⟨h1, h2⟩ := loop_no h
  unfold bodiesD
  rw [tag_str, if_neg h1, if_neg h2, if_pos h]
  rfl
theorem b_try {b e : List PyData} {cs : List (List Str × List PyData)} : bodiesD (.tuple [.str "try", .tuple b, .tuple (cs.map trC), .tuple e]) = b :: (cs.map (·.2) ++ [e]) := by
  unfold bodiesD
  rw [tag_str, if_neg (by decide +kernel), if_neg (by decide +kernel), if_neg (by decide +kernel), if_pos rfl]
  show b :: ((cs.map trC).map secD ++ [e]) = _
  rw [List.map_map]
  rfl
/-- the bodies of a row are rows -/
theorem RowOk.body {d : PyData} (h : RowOk d) : ∀ b ∈ bodiesD d, ∀ r ∈ b, RowOk r := by
  intro b hb r hr
  cases h with
  | leaf hk hx =>
    rw [b_leaf hk] at hb
    cases hb
  | doo hs hn h =>
    rw [b_do] at hb
    obtain ⟨c, hc, rfl⟩ := List.mem_map.mp hb
    exact h c hc r hr
  | iff ha hy hn =>
    rw [b_if] at hb
    rcases List.mem_cons.mp hb with rfl | hb
    · exact hy r hr
    · rw [List.mem_singleton.mp hb] at hr
      exact hn r hr
  | loop hk hl hb' =>
    rw [b_loop hk] at hb
    rw [List.mem_singleton.mp hb] at hr
    exact hb' r hr
  | trr hb' hn h he =>
    rw [b_try] at hb
    rcases List.mem_cons.mp hb with rfl | hb
    · exact hb' r hr
    · rcases List.mem_append.mp hb with hb | hb
      · obtain ⟨c, hc, rfl⟩ := List.mem_map.mp hb
        exact h c hc r hr
      · rw [List.mem_singleton.mp hb] at hr
        exact he r hr

/-! ### laid out -/
/-- pairs laid out: their second places -/
theorem seconds {H : Hp} : ∀ {vs : List V} {ds : List PyData}, Are H vs ds → (∀ d ∈ ds, ∃ o rs, d = .tuple [o, .tuple rs]) →
    ∃ bs : List V, PySem.Paired (fun v b => ∃ a o, v = .ref a ∧ H a = some (.tup [o, b])) vs bs ∧ Are H bs (ds.map fun d => .tuple (secD d))
  | _, [], h, _ => by
    cases h
    exact ⟨[], .nil, .nil⟩
  | _, d :: ds, h, k => by
    cases h with
    | cons h1 h2 =>
    obtain ⟨bs, p, q⟩ := seconds h2 fun d hd => k d (List.mem_cons_of_mem _ hd)
    obtain ⟨o, rs, rfl⟩ := k d List.mem_cons_self
    cases h1 with
    | tup e t =>
    cases t with
    | cons t1 t2 =>
    cases t2 with
    | cons t2 t3 =>
    cases t3
    exact ⟨_ :: bs, .cons ⟨_, _, rfl, e⟩ p, .cons t2 q⟩
def spBodies : Sp := fun vs H Q _ => ∃ (v : V) (d : PyData), vs = [v] ∧ Is H v d ∧ RowOk d ∧ Small d ∧ ∀ (r : Addr) (bs : List V) (H' : Hp), Same H H' → H r = none → H' r = some (.lst bs) → Are H' bs ((bodiesD d).map .tuple) → Q (.ref r) H'
end Rw
set_option Elab.async false
set_option linter.all false
set_option maxRecDepth 100000
set_option maxHeartbeats 4000000
namespace K14
open PySem PySem.Spec L2 Quiet Gn Rw

theorem paired_get {α β : Type} {F : α → β → Prop} : ∀ {xs : List α} {ys : List β}, PySem.Paired F xs ys → ∀ {i : Nat} {x : α} {y : β}, xs[i]? = some x → ys[i]? = some y → F x y
  | _, _, .nil, _, _, _, h, _ => by simp at h
  | _, _, .cons h t, 0, _, _, hx, hy => by
    cases hx
    cases hy
    exact h
  | _, _, .cons h t, i + 1, _, _, hx, hy => paired_get t (by simpa using hx) (by simpa using hy)
section
variable {P : Program} {w : World} {K : PySem.W.Frag} {mg : Str → Option Value} {base : Heap} {A : Ad} {D : Fd}
theorem ok_bodies (T : Txt K mg A D) : FnOk P w K mg base CX0 1 A.bodies D.bodies ["row"] spBodies := by
  refine T.f_bodies.ok sc_bodies (fun vs H Q E h => ?_) (fun cdv AA outer s H vs Q E hr h => ?_)
  · obtain ⟨v, d, rfl, _⟩ := h
    rfl
  · obtain ⟨v, d, rfl, hd, ro, hz, k⟩ := h
    refine ⟨_, (pss_cons (ps_if (pt_cmpR (eqK K rfl (units_of hr)) (pe_ix (ixK K rfl) (pv 0) pe_int (fun _ _ => rfl)) pe_str (nomark _)) (pss_one (ps_ret (pe_lc (own := [("outcome", 1), ("rows", 2)]) rfl sc_bodies.nd (pi_sq K rfl (pe_ix (ixK K rfl) (pv 0) pe_int (fun _ _ => rfl))) (blkOk_by (own := [("outcome", 1), ("rows", 2)]) (N := n_bodies) (sc := defScope s_bodies) (by decide +kernel)) (fun _ _ _ _ _ => (pg_tupK (n := 2) K rfl rfl (pgs_cons (pg_name (i := 1) sc_bodies.nd rfl (Or.inl rfl)) (pgs_cons (pg_name (i := 2) sc_bodies.nd rfl (Or.inl rfl)) pgs_nil)))) (fun _ _ _ _ _ => pts_nil) (fun _ _ _ _ _ => (pv 2))))) pss_nil)
  (pss_cons (ps_if (pt_cmpR (eqK K rfl (units_of hr)) (pe_ix (ixK K rfl) (pv 0) pe_int (fun _ _ => rfl)) pe_str (nomark _)) (pss_one (ps_ret (pe_lst (pa_cons (pe_ix (ixK K rfl) (pv 0) pe_int (fun _ _ => rfl)) (pa_cons (pe_ix (ixK K rfl) (pv 0) pe_int (fun _ _ => rfl)) pa_nil))))) pss_nil)
  (pss_cons (ps_if (pt_cmpR (inK K rfl) (pe_ix (ixK K rfl) (pv 0) pe_int (fun _ _ => rfl)) (pe_tup (pa_cons pe_str (pa_cons pe_str pa_nil))) (by rfl)) (pss_one (ps_ret (pe_lst (pa_cons (pe_ix (ixK K rfl) (pv 0) pe_int (fun _ _ => rfl)) pa_nil)))) pss_nil)
  (pss_cons (ps_if (pt_cmpR (eqK K rfl (units_of hr)) (pe_ix (ixK K rfl) (pv 0) pe_int (fun _ _ => rfl)) pe_str (nomark _)) (pss_one (ps_ret (pe_op (addK K rfl) (pe_op (addK K rfl) (pe_lst (pa_cons (pe_ix (ixK K rfl) (pv 0) pe_int (fun _ _ => rfl)) pa_nil)) (pe_lc (own := [("errors", 3), ("rows", 2)]) rfl sc_bodies.nd (pi_sq K rfl (pe_ix (ixK K rfl) (pv 0) pe_int (fun _ _ => rfl))) (blkOk_by (own := [("errors", 3), ("rows", 2)]) (N := n_bodies) (sc := defScope s_bodies) (by decide +kernel)) (fun _ _ _ _ _ => (pg_tupK (n := 2) K rfl rfl (pgs_cons (pg_name (i := 3) sc_bodies.nd rfl (Or.inl rfl)) (pgs_cons (pg_name (i := 2) sc_bodies.nd rfl (Or.inl rfl)) pgs_nil)))) (fun _ _ _ _ _ => pts_nil) (fun _ _ _ _ _ => (pv 2)))) (pe_lst (pa_cons (pe_ix (ixK K rfl) (pv 0) pe_int (fun _ _ => rfl)) pa_nil))))) pss_nil)
  (pss_one (ps_ret (pe_lst pa_nil))))))), ?_⟩
    cases ro with
    | @leaf kk x hk hx =>
      obtain ⟨n1, n2, n3, n4⟩ := leaf_no hk
      rw [b_leaf hk] at k
      cases hd with
      | @tup a xs _ ha t =>
      cases t with
      | cons t1 t2 =>
      cases t1
      refine ⟨_, rfl, q_ix (i := 0) (.inr (SqT.of ha)) rfl rfl (q_eqs ⟨_, rfl, ?_⟩)⟩
      rw [decide_eq_false n1]
      refine iteF ⟨_, rfl, q_ix (i := 0) (.inr (SqT.of ha)) rfl rfl (q_eqs ⟨_, rfl, ?_⟩)⟩
      rw [decide_eq_false n2]
      refine iteF ⟨_, rfl, q_ix (i := 0) (.inr (SqT.of ha)) rfl rfl ⟨by show 2 ≤ sizeLine; decide, fun q hq => q_inTexts (ks := [Str.ofString "loop", Str.ofString "block"]) (.inr (SqT.of upd_same)) ⟨_, rfl, ?_⟩⟩⟩
      rw [decide_eq_false n3]
      have s1 := same_upd (o := .tup [V.str (Str.ofString "loop"), V.str (Str.ofString "block")]) hq
      refine iteF ⟨_, rfl, q_ix (i := 0) (.inr (SqT.of (s1 _ _ ha))) rfl rfl (q_eqs ⟨_, rfl, ?_⟩)⟩
      rw [decide_eq_false n4]
      refine iteF ⟨Nat.zero_le _, fun r hr' => k r [] _ (s1.trans (same_upd hr')) (Same.none s1 hr') upd_same .nil⟩
    | @doo s hs cs hn h =>
      rw [b_do] at k
      cases hd with
      | @tup a xs _ ha t =>
      cases t with
      | cons t1 t =>
      cases t with
      | cons t2 t =>
      cases t with
      | cons t3 t4 =>
      cases t1
      cases t2
      cases t4
      cases t3 with
      | @tup c vs _ hc u =>
      refine ⟨_, rfl, q_ix (i := 0) (.inr (SqT.of ha)) rfl rfl (q_eqs ⟨_, rfl, ?_⟩)⟩
      rw [decide_eq_true rfl]
      refine iteT ⟨_, rfl, q_ix (i := 2) (.inr (SqT.of ha)) rfl rfl ⟨c, vs, rfl, .inr (SqT.of hc), fun J G hG wk Dd hDd => ?_⟩⟩
      obtain ⟨bs, pr, q⟩ := seconds u fun d hd => by
        obtain ⟨c', _, rfl⟩ := List.mem_map.mp hd
        exact ⟨_, _, rfl⟩
      have lb : vs.length = bs.length := PySem.Paired.length pr
      have lz : vs.length ≤ 1000000 := by
        have h1 := u.length
        have hz' : PyData.weightAll [.str "do", .str s, .tuple (cs.map doC)] ≤ 1000000 := by simpa [Small, PyData.weight] using hz
        have := len_weight (cs.map doC)
        simp only [PyData.weightAll, PyData.weight] at hz'
        omega
      refine comp_map (G := G) (Y := YAt vs) bs id (by rw [← lb]; exact wk) hDd (sz2 (by omega)) (fun H' s' => hG H' fun o e => s' _ _ e) ?_ ?_
      · rintro i b x H1 H2 R hi s1 ⟨rfl, hx⟩ hR
        obtain ⟨a', o, rfl, e⟩ := paired_get pr hx hi
        exact ⟨a', _, rfl, SqT.of (s1 _ _ e), rfl, _, _, rfl, _, _, rfl, rfl, rfl, _, rfl, hR _ (Same.refl _)⟩
      · intro H1 s1 hl
        rw [List.map_id] at hl
        refine k Dd bs H1 s1 hDd hl ?_
        have : (cs.map doC).map (fun d => PyData.tuple (secD d)) = (cs.map (·.2)).map PyData.tuple := by
          rw [List.map_map, List.map_map]
          rfl
        rw [this] at q
        exact Are.same s1 q
    | @iff a0 ha0 y n hy hn =>
      rw [b_if] at k
      cases hd with
      | @tup a xs _ ha t =>
      cases t with
      | cons t1 t =>
      cases t with
      | cons t2 t =>
      cases t with
      | cons t3 t =>
      cases t with
      | cons t4 t5 =>
      cases t1
      cases t2
      cases t5
      refine ⟨_, rfl, q_ix (i := 0) (.inr (SqT.of ha)) rfl rfl (q_eqs ⟨_, rfl, ?_⟩)⟩
      rw [decide_eq_false (by decide +kernel)]
      refine iteF ⟨_, rfl, q_ix (i := 0) (.inr (SqT.of ha)) rfl rfl (q_eqs ⟨_, rfl, ?_⟩)⟩
      rw [decide_eq_true rfl]
      refine iteT ⟨_, rfl, q_ix (i := 2) (.inr (SqT.of ha)) rfl rfl ⟨_, rfl, q_ix (i := 3) (.inr (SqT.of ha)) rfl rfl ⟨by show 2 ≤ sizeLine; decide, fun r hr' => ?_⟩⟩⟩
      exact k r _ _ (same_upd hr') hr' upd_same (.cons (Is.same (same_upd hr') t3) (.cons (Is.same (same_upd hr') t4) .nil))
    | @loop kk l hk hl b hb =>
      obtain ⟨n1, n2⟩ := loop_no hk
      rw [b_loop hk] at k
      cases hd with
      | @tup a xs _ ha t =>
      cases t with
      | cons t1 t =>
      cases t with
      | cons t2 t =>
      cases t with
      | cons t3 t4 =>
      cases t1
      cases t2
      cases t4
      refine ⟨_, rfl, q_ix (i := 0) (.inr (SqT.of ha)) rfl rfl (q_eqs ⟨_, rfl, ?_⟩)⟩
      rw [decide_eq_false n1]
      refine iteF ⟨_, rfl, q_ix (i := 0) (.inr (SqT.of ha)) rfl rfl (q_eqs ⟨_, rfl, ?_⟩)⟩
      rw [decide_eq_false n2]
      refine iteF ⟨_, rfl, q_ix (i := 0) (.inr (SqT.of ha)) rfl rfl ⟨by show 2 ≤ sizeLine; decide, fun q hq => q_inTexts (ks := [Str.ofString "loop", Str.ofString "block"]) (.inr (SqT.of upd_same)) ⟨_, rfl, ?_⟩⟩⟩
      rw [decide_eq_true hk]
      have s1 := same_upd (o := .tup [V.str (Str.ofString "loop"), V.str (Str.ofString "block")]) hq
      refine iteT ⟨_, rfl, q_ix (i := 2) (.inr (SqT.of (s1 _ _ ha))) rfl rfl ⟨by show 1 ≤ sizeLine; decide, fun r hr' => ?_⟩⟩
      exact k r _ _ (s1.trans (same_upd hr')) (Same.none s1 hr') upd_same (.cons (Is.same (s1.trans (same_upd hr')) t3) .nil)
    | @trr b e hb cs hn h he =>
      rw [b_try] at k
      cases hd with
      | @tup a xs _ ha t =>
      cases t with
      | cons t1 t =>
      cases t with
      | @cons v2 _ _ _ t2 t =>
      cases t with
      | cons t3 t =>
      cases t with
      | @cons v4 _ _ _ t4 t5 =>
      cases t1
      cases t5
      cases t3 with
      | @tup c vs _ hc u =>
      refine ⟨_, rfl, q_ix (i := 0) (.inr (SqT.of ha)) rfl rfl (q_eqs ⟨_, rfl, ?_⟩)⟩
      rw [decide_eq_false (by decide +kernel)]
      refine iteF ⟨_, rfl, q_ix (i := 0) (.inr (SqT.of ha)) rfl rfl (q_eqs ⟨_, rfl, ?_⟩)⟩
      rw [decide_eq_false (by decide +kernel)]
      refine iteF ⟨_, rfl, q_ix (i := 0) (.inr (SqT.of ha)) rfl rfl ⟨by show 2 ≤ sizeLine; decide, fun q hq => q_inTexts (ks := [Str.ofString "loop", Str.ofString "block"]) (.inr (SqT.of upd_same)) ⟨_, rfl, ?_⟩⟩⟩
      rw [decide_eq_false (by decide +kernel)]
      have s1 := same_upd (o := .tup [V.str (Str.ofString "loop"), V.str (Str.ofString "block")]) hq
      generalize upd H q (.tup [V.str (Str.ofString "loop"), V.str (Str.ofString "block")]) = H1 at s1 ⊢
      have ha := s1 _ _ ha
      have hc := s1 _ _ hc
      have t2 := Is.same s1 t2
      have t4 := Is.same s1 t4
      have u := Are.same s1 u
      refine iteF ⟨_, rfl, q_ix (i := 0) (.inr (SqT.of ha)) rfl rfl (q_eqs ⟨_, rfl, ?_⟩)⟩
      rw [decide_eq_true rfl]
      refine iteT ⟨_, rfl, q_ix (i := 1) (.inr (SqT.of ha)) rfl rfl ⟨by show 1 ≤ sizeLine; decide, fun l1 h1 => ?_⟩⟩
      have s2 := same_upd (o := .lst [v2]) h1
      refine ⟨_, rfl, q_ix (i := 2) (.inr (SqT.of (s2 _ _ ha))) rfl rfl ⟨c, vs, rfl, .inr (SqT.of (s2 _ _ hc)), fun J G hG wk Dd hDd => ?_⟩⟩
      obtain ⟨bs, pr, qq⟩ := seconds u fun d hd => by
        obtain ⟨c', _, rfl⟩ := List.mem_map.mp hd
        exact ⟨_, _, rfl⟩
      have lb : vs.length = bs.length := PySem.Paired.length pr
      have lz : vs.length + 4 ≤ 1000000 := by
        have h1 := u.length
        have hz' : PyData.weightAll [.str "try", .tuple b, .tuple (cs.map trC), .tuple e] ≤ 1000000 := by simpa [Small, PyData.weight] using hz
        have := len_weight (cs.map trC)
        simp only [PyData.weightAll, PyData.weight] at hz'
        omega
      refine comp_map (G := G) (Y := YAt vs) bs id (by rw [← lb]; exact wk) hDd (sz2 (by omega)) (fun H' s' => hG H' fun o e => s' _ _ e) ?_ ?_
      · rintro i b x H1 H2 R hi s3 ⟨rfl, hx⟩ hR
        obtain ⟨a', o, rfl, e⟩ := paired_get pr hx hi
        exact ⟨a', _, rfl, SqT.of (s3 _ _ (s2 _ _ e)), rfl, _, _, rfl, _, _, rfl, rfl, rfl, _, rfl, hR _ (Same.refl _)⟩
      · intro H2 s3 hl
        rw [List.map_id] at hl
        refine q_catL (s3 _ _ upd_same) hl (sz1 (by show 1 + bs.length ≤ 1000000; omega)) fun l2 h2 => ?_
        have s4 := s3.trans (same_upd (o := .lst ([v2] ++ bs)) h2)
        have s24 := s2.trans s4
        refine ⟨_, rfl, q_ix (i := 3) (.inr (SqT.of (s24 _ _ ha))) rfl rfl ⟨by show 1 ≤ sizeLine; decide, fun l3 h3 => ?_⟩⟩
        have s5 := same_upd (o := .lst [v4]) h3
        refine q_catL (s5 _ _ upd_same) upd_same (sz1 (by rw [List.length_append]; show 1 + bs.length + 1 ≤ 1000000; omega)) fun r hr' => ?_
        have s6 := (s24.trans s5).trans (same_upd (o := .lst (([v2] ++ bs) ++ [v4])) hr')
        refine k r _ _ (s1.trans s6) (Same.none ((s1.trans s24).trans s5) hr') upd_same ?_
        have em : (cs.map trC).map (fun d => PyData.tuple (secD d)) = (cs.map (·.2)).map PyData.tuple := by
          rw [List.map_map, List.map_map]
          rfl
        rw [em] at qq
        rw [List.map_cons, List.map_append]
        exact Are.append (.cons (Is.same s6 t2) (Are.same s6 qq)) (.cons (Is.same s6 t4) .nil)
theorem ok__law_bodies (T : Txt K mg A D) : FnOk P w K mg base CX0 1 A._law_bodies D._law_bodies ["row"] spBodies := by
  refine T.f__law_bodies.ok sc__law_bodies (fun vs H Q E h => ?_) (fun cdv AA outer s H vs Q E hr h => ?_)
  · obtain ⟨v, d, rfl, _⟩ := h
    rfl
  · obtain ⟨v, d, rfl, hd, ro, hz, k⟩ := h
    refine ⟨_, (pss_cons (ps_if (pt_cmpR (eqK K rfl (units_of hr)) (pe_ix (ixK K rfl) (pv 0) pe_int (fun _ _ => rfl)) pe_str (nomark _)) (pss_one (ps_ret (pe_lc (own := [("outcome", 1), ("some", 2)]) rfl sc__law_bodies.nd (pi_sq K rfl (pe_ix (ixK K rfl) (pv 0) pe_int (fun _ _ => rfl))) (blkOk_by (own := [("outcome", 1), ("some", 2)]) (N := n__law_bodies) (sc := defScope s__law_bodies) (by decide +kernel)) (fun _ _ _ _ _ => (pg_tupK (n := 2) K rfl rfl (pgs_cons (pg_name (i := 1) sc__law_bodies.nd rfl (Or.inl rfl)) (pgs_cons (pg_name (i := 2) sc__law_bodies.nd rfl (Or.inl rfl)) pgs_nil)))) (fun _ _ _ _ _ => pts_nil) (fun _ _ _ _ _ => (pv 2))))) pss_nil)
  (pss_cons (ps_if (pt_cmpR (eqK K rfl (units_of hr)) (pe_ix (ixK K rfl) (pv 0) pe_int (fun _ _ => rfl)) pe_str (nomark _)) (pss_one (ps_ret (pe_lst (pa_cons (pe_ix (ixK K rfl) (pv 0) pe_int (fun _ _ => rfl)) (pa_cons (pe_ix (ixK K rfl) (pv 0) pe_int (fun _ _ => rfl)) pa_nil))))) pss_nil)
  (pss_cons (ps_if (pt_cmpR (inK K rfl) (pe_ix (ixK K rfl) (pv 0) pe_int (fun _ _ => rfl)) (pe_tup (pa_cons pe_str (pa_cons pe_str pa_nil))) (by rfl)) (pss_one (ps_ret (pe_lst (pa_cons (pe_ix (ixK K rfl) (pv 0) pe_int (fun _ _ => rfl)) pa_nil)))) pss_nil)
  (pss_cons (ps_if (pt_cmpR (eqK K rfl (units_of hr)) (pe_ix (ixK K rfl) (pv 0) pe_int (fun _ _ => rfl)) pe_str (nomark _)) (pss_one (ps_ret (pe_op (addK K rfl) (pe_op (addK K rfl) (pe_lst (pa_cons (pe_ix (ixK K rfl) (pv 0) pe_int (fun _ _ => rfl)) pa_nil)) (pe_lc (own := [("errors", 3), ("some", 2)]) rfl sc__law_bodies.nd (pi_sq K rfl (pe_ix (ixK K rfl) (pv 0) pe_int (fun _ _ => rfl))) (blkOk_by (own := [("errors", 3), ("some", 2)]) (N := n__law_bodies) (sc := defScope s__law_bodies) (by decide +kernel)) (fun _ _ _ _ _ => (pg_tupK (n := 2) K rfl rfl (pgs_cons (pg_name (i := 3) sc__law_bodies.nd rfl (Or.inl rfl)) (pgs_cons (pg_name (i := 2) sc__law_bodies.nd rfl (Or.inl rfl)) pgs_nil)))) (fun _ _ _ _ _ => pts_nil) (fun _ _ _ _ _ => (pv 2)))) (pe_lst (pa_cons (pe_ix (ixK K rfl) (pv 0) pe_int (fun _ _ => rfl)) pa_nil))))) pss_nil)
  (pss_one (ps_ret (pe_lst pa_nil))))))), ?_⟩
    cases ro with
    | @leaf kk x hk hx =>
      obtain ⟨n1, n2, n3, n4⟩ := leaf_no hk
      rw [b_leaf hk] at k
      cases hd with
      | @tup a xs _ ha t =>
      cases t with
      | cons t1 t2 =>
      cases t1
      refine ⟨_, rfl, q_ix (i := 0) (.inr (SqT.of ha)) rfl rfl (q_eqs ⟨_, rfl, ?_⟩)⟩
      rw [decide_eq_false n1]
      refine iteF ⟨_, rfl, q_ix (i := 0) (.inr (SqT.of ha)) rfl rfl (q_eqs ⟨_, rfl, ?_⟩)⟩
      rw [decide_eq_false n2]
      refine iteF ⟨_, rfl, q_ix (i := 0) (.inr (SqT.of ha)) rfl rfl ⟨by show 2 ≤ sizeLine; decide, fun q hq => q_inTexts (ks := [Str.ofString "loop", Str.ofString "block"]) (.inr (SqT.of upd_same)) ⟨_, rfl, ?_⟩⟩⟩
      rw [decide_eq_false n3]
      have s1 := same_upd (o := .tup [V.str (Str.ofString "loop"), V.str (Str.ofString "block")]) hq
      refine iteF ⟨_, rfl, q_ix (i := 0) (.inr (SqT.of (s1 _ _ ha))) rfl rfl (q_eqs ⟨_, rfl, ?_⟩)⟩
      rw [decide_eq_false n4]
      refine iteF ⟨Nat.zero_le _, fun r hr' => k r [] _ (s1.trans (same_upd hr')) (Same.none s1 hr') upd_same .nil⟩
    | @doo s hs cs hn h =>
      rw [b_do] at k
      cases hd with
      | @tup a xs _ ha t =>
      cases t with
      | cons t1 t =>
      cases t with
      | cons t2 t =>
      cases t with
      | cons t3 t4 =>
      cases t1
      cases t2
      cases t4
      cases t3 with
      | @tup c vs _ hc u =>
      refine ⟨_, rfl, q_ix (i := 0) (.inr (SqT.of ha)) rfl rfl (q_eqs ⟨_, rfl, ?_⟩)⟩
      rw [decide_eq_true rfl]
      refine iteT ⟨_, rfl, q_ix (i := 2) (.inr (SqT.of ha)) rfl rfl ⟨c, vs, rfl, .inr (SqT.of hc), fun J G hG wk Dd hDd => ?_⟩⟩
      obtain ⟨bs, pr, q⟩ := seconds u fun d hd => by
        obtain ⟨c', _, rfl⟩ := List.mem_map.mp hd
        exact ⟨_, _, rfl⟩
      have lb : vs.length = bs.length := PySem.Paired.length pr
      have lz : vs.length ≤ 1000000 := by
        have h1 := u.length
        have hz' : PyData.weightAll [.str "do", .str s, .tuple (cs.map doC)] ≤ 1000000 := by simpa [Small, PyData.weight] using hz
        have := len_weight (cs.map doC)
        simp only [PyData.weightAll, PyData.weight] at hz'
        omega
      refine comp_map (G := G) (Y := YAt vs) bs id (by rw [← lb]; exact wk) hDd (sz2 (by omega)) (fun H' s' => hG H' fun o e => s' _ _ e) ?_ ?_
      · rintro i b x H1 H2 R hi s1 ⟨rfl, hx⟩ hR
        obtain ⟨a', o, rfl, e⟩ := paired_get pr hx hi
        exact ⟨a', _, rfl, SqT.of (s1 _ _ e), rfl, _, _, rfl, _, _, rfl, rfl, rfl, _, rfl, hR _ (Same.refl _)⟩
      · intro H1 s1 hl
        rw [List.map_id] at hl
        refine k Dd bs H1 s1 hDd hl ?_
        have : (cs.map doC).map (fun d => PyData.tuple (secD d)) = (cs.map (·.2)).map PyData.tuple := by
          rw [List.map_map, List.map_map]
          rfl
        rw [this] at q
        exact Are.same s1 q
    | @iff a0 ha0 y n hy hn =>
      rw [b_if] at k
      cases hd with
      | @tup a xs _ ha t =>
      cases t with
      | cons t1 t =>
      cases t with
      | cons t2 t =>
      cases t with
      | cons t3 t =>
      cases t with
      | cons t4 t5 =>
      cases t1
      cases t2
      cases t5
      refine ⟨_, rfl, q_ix (i := 0) (.inr (SqT.of ha)) rfl rfl (q_eqs ⟨_, rfl, ?_⟩)⟩
      rw [decide_eq_false (by decide +kernel)]
      refine iteF ⟨_, rfl, q_ix (i := 0) (.inr (SqT.of ha)) rfl rfl (q_eqs ⟨_, rfl, ?_⟩)⟩
      rw [decide_eq_true rfl]
      refine iteT ⟨_, rfl, q_ix (i := 2) (.inr (SqT.of ha)) rfl rfl ⟨_, rfl, q_ix (i := 3) (.inr (SqT.of ha)) rfl rfl ⟨by show 2 ≤ sizeLine; decide, fun r hr' => ?_⟩⟩⟩
      exact k r _ _ (same_upd hr') hr' upd_same (.cons (Is.same (same_upd hr') t3) (.cons (Is.same (same_upd hr') t4) .nil))
    | @loop kk l hk hl b hb =>
      obtain ⟨n1, n2⟩ := loop_no hk
      rw [b_loop hk] at k
      cases hd with
      | @tup a xs _ ha t =>
      cases t with
      | cons t1 t =>
      cases t with
      | cons t2 t =>
      cases t with
      | cons t3 t4 =>
      cases t1
      cases t2
      cases t4
      refine ⟨_, rfl, q_ix (i := 0) (.inr (SqT.of ha)) rfl rfl (q_eqs ⟨_, rfl, ?_⟩)⟩
      rw [decide_eq_false n1]
      refine iteF ⟨_, rfl, q_ix (i := 0) (.inr (SqT.of ha)) rfl rfl (q_eqs ⟨_, rfl, ?_⟩)⟩
      rw [decide_eq_false n2]
      refine iteF ⟨_, rfl, q_ix (i := 0) (.inr (SqT.of ha)) rfl rfl ⟨by show 2 ≤ sizeLine; decide, fun q hq => q_inTexts (ks := [Str.ofString "loop", Str.ofString "block"]) (.inr (SqT.of upd_same)) ⟨_, rfl, ?_⟩⟩⟩
      rw [decide_eq_true hk]
      have s1 := same_upd (o := .tup [V.str (Str.ofString "loop"), V.str (Str.ofString "block")]) hq
      refine iteT ⟨_, rfl, q_ix (i := 2) (.inr (SqT.of (s1 _ _ ha))) rfl rfl ⟨by show 1 ≤ sizeLine; decide, fun r hr' => ?_⟩⟩
      exact k r _ _ (s1.trans (same_upd hr')) (Same.none s1 hr') upd_same (.cons (Is.same (s1.trans (same_upd hr')) t3) .nil)
    | @trr b e hb cs hn h he =>
      rw [b_try] at k
      cases hd with
      | @tup a xs _ ha t =>
      cases t with
      | cons t1 t =>
      cases t with
      | @cons v2 _ _ _ t2 t =>
      cases t with
      | cons t3 t =>
      cases t with
      | @cons v4 _ _ _ t4 t5 =>
      cases t1
      cases t5
      cases t3 with
      | @tup c vs _ hc u =>
      refine ⟨_, rfl, q_ix (i := 0) (.inr (SqT.of ha)) rfl rfl (q_eqs ⟨_, rfl, ?_⟩)⟩
      rw [decide_eq_false (by decide +kernel)]
      refine iteF ⟨_, rfl, q_ix (i := 0) (.inr (SqT.of ha)) rfl rfl (q_eqs ⟨_, rfl, ?_⟩)⟩
      rw [decide_eq_false (by decide +kernel)]
      refine iteF ⟨_, rfl, q_ix (i := 0) (.inr (SqT.of ha)) rfl rfl ⟨by show 2 ≤ sizeLine; decide, fun q hq => q_inTexts (ks := [Str.ofString "loop", Str.ofString "block"]) (.inr (SqT.of upd_same)) ⟨_, rfl, ?_⟩⟩⟩
      rw [decide_eq_false (by decide +kernel)]
      have s1 := same_upd (o := .tup [V.str (Str.ofString "loop"), V.str (Str.ofString "block")]) hq
      generalize upd H q (.tup [V.str (Str.ofString "loop"), V.str (Str.ofString "block")]) = H1 at s1 ⊢
      have ha := s1 _ _ ha
      have hc := s1 _ _ hc
      have t2 := Is.same s1 t2
      have t4 := Is.same s1 t4
      have u := Are.same s1 u
      refine iteF ⟨_, rfl, q_ix (i := 0) (.inr (SqT.of ha)) rfl rfl (q_eqs ⟨_, rfl, ?_⟩)⟩
      rw [decide_eq_true rfl]
      refine iteT ⟨_, rfl, q_ix (i := 1) (.inr (SqT.of ha)) rfl rfl ⟨by show 1 ≤ sizeLine; decide, fun l1 h1 => ?_⟩⟩
      have s2 := same_upd (o := .lst [v2]) h1
      refine ⟨_, rfl, q_ix (i := 2) (.inr (SqT.of (s2 _ _ ha))) rfl rfl ⟨c, vs, rfl, .inr (SqT.of (s2 _ _ hc)), fun J G hG wk Dd hDd => ?_⟩⟩
      obtain ⟨bs, pr, qq⟩ := seconds u fun d hd => by
        obtain ⟨c', _, rfl⟩ := List.mem_map.mp hd
        exact ⟨_, _, rfl⟩
      have lb : vs.length = bs.length := PySem.Paired.length pr
      have lz : vs.length + 4 ≤ 1000000 := by
        have h1 := u.length
        have hz' : PyData.weightAll [.str "try", .tuple b, .tuple (cs.map trC), .tuple e] ≤ 1000000 := by simpa [Small, PyData.weight] using hz
        have := len_weight (cs.map trC)
        simp only [PyData.weightAll, PyData.weight] at hz'
        omega
      refine comp_map (G := G) (Y := YAt vs) bs id (by rw [← lb]; exact wk) hDd (sz2 (by omega)) (fun H' s' => hG H' fun o e => s' _ _ e) ?_ ?_
      · rintro i b x H1 H2 R hi s3 ⟨rfl, hx⟩ hR
        obtain ⟨a', o, rfl, e⟩ := paired_get pr hx hi
        exact ⟨a', _, rfl, SqT.of (s3 _ _ (s2 _ _ e)), rfl, _, _, rfl, _, _, rfl, rfl, rfl, _, rfl, hR _ (Same.refl _)⟩
      · intro H2 s3 hl
        rw [List.map_id] at hl
        refine q_catL (s3 _ _ upd_same) hl (sz1 (by show 1 + bs.length ≤ 1000000; omega)) fun l2 h2 => ?_
        have s4 := s3.trans (same_upd (o := .lst ([v2] ++ bs)) h2)
        have s24 := s2.trans s4
        refine ⟨_, rfl, q_ix (i := 3) (.inr (SqT.of (s24 _ _ ha))) rfl rfl ⟨by show 1 ≤ sizeLine; decide, fun l3 h3 => ?_⟩⟩
        have s5 := same_upd (o := .lst [v4]) h3
        refine q_catL (s5 _ _ upd_same) upd_same (sz1 (by rw [List.length_append]; show 1 + bs.length + 1 ≤ 1000000; omega)) fun r hr' => ?_
        have s6 := (s24.trans s5).trans (same_upd (o := .lst (([v2] ++ bs) ++ [v4])) hr')
        refine k r _ _ (s1.trans s6) (Same.none ((s1.trans s24).trans s5) hr') upd_same ?_
        have em : (cs.map trC).map (fun d => PyData.tuple (secD d)) = (cs.map (·.2)).map PyData.tuple := by
          rw [List.map_map, List.map_map]
          rfl
        rw [em] at qq
        rw [List.map_cons, List.map_append]
        exact Are.append (.cons (Is.same s6 t2) (Are.same s6 qq)) (.cons (Is.same s6 t4) .nil)
end
end K14
set_option Elab.async false
set_option linter.all false
set_option maxRecDepth 100000
set_option maxHeartbeats 4000000
namespace K14
open PySem PySem.Spec L2 Quiet Gn Rw

/-- a row with other bodies in the places of its own -/
def spWith : Sp := fun vs H Q _ => ∃ (v : V) (d : PyData) (b : Addr) (bs : List V) (ss : List (List PyData)), vs = [v, .ref b] ∧ Is H v d ∧ RowOk d ∧ Small d ∧ H b = some (.lst bs) ∧ Are H bs (ss.map .tuple) ∧ ss.length = (bodiesD d).length ∧
  ∀ (v' : V) (H' : Hp), Same H H' → Is H' v' (withD d ss) → Q v' H'
theorem w_do {s : Str} {cs : List (Str × List PyData)} {ss : List (List PyData)} : withD (.tuple [.str "do", .str s, .tuple (cs.map doC)]) ss = .tuple [.str "do", .str s, .tuple (List.zipWith (fun c s => PyData.tuple [nth c 0, .tuple s]) (cs.map doC) ss)] := by
  unfold withD
  rw [tag_str, if_pos rfl]
  rfl
theorem w_if {a : Str} {y n : List PyData} {ss : List (List PyData)} : withD (.tuple [.str "if", .str a, .tuple y, .tuple n]) ss = .tuple [.str "if", .str a, .tuple (ss.getD 0 []), .tuple (ss.getD 1 [])] := by
  unfold withD
  rw [tag_str, if_neg (by decide +kernel), if_pos rfl]
  rfl
theorem w_loop {k l : Str} {b : List PyData} {ss : List (List PyData)} (h : k ∈ ([Str.ofString "loop", Str.ofString "block"] : List Str)) : withD (.tuple [.str k, .str l, .tuple b]) ss = .tuple [.str k, .str l, .tuple (ss.getD 0 [])] := by
  obtain ⟨h1, h2⟩ := loop_no h
  unfold withD
  rw [tag_str, if_neg h1, if_neg h2, if_pos h]
  rfl
theorem w_leaf {k x : Str} {ss : List (List PyData)} (h : k ∈ leafK) : withD (.tuple [.str k, .str x]) ss = .tuple [.str k, .str x] := by
  obtain ⟨h1, h2, h3, h4⟩ := leaf_no h
  unfold withD
  rw [tag_str, if_neg h1, if_neg h2, if_neg h3, if_neg h4]
theorem w_try {b e : List PyData} {cs : List (List Str × List PyData)} {ss : List (List PyData)} : withD (.tuple [.str "try", .tuple b, .tuple (cs.map trC), .tuple e]) ss =
    .tuple [.str "try", .tuple (ss.getD 0 []), .tuple (List.zipWith (fun c s => PyData.tuple [nth c 0, .tuple s]) (cs.map trC) ((ss.drop 1).dropLast)), .tuple (ss.getD (ss.length - 1) [])] := by
  unfold withD
  rw [tag_str, if_neg (by decide +kernel), if_neg (by decide +kernel), if_neg (by decide +kernel), if_pos rfl]
  rfl
/-- without one place -/
abbrev but (D : Addr) : Addr → Bool := fun b => b == D
theorem but_upd {D : Addr} {H : Hp} {o : HO} : hide (but D) (upd H D o) = hide (but D) H := by
  funext b
  unfold hide
  by_cases h : b = D
  · simp [h]
  · simp [h, upd_ne h]
theorem same_but {D : Addr} {H H' : Hp} (n : H D = none) (s : Same H H') : Same H (hide (but D) H') := fun b o e => by
  have nb : b ≠ D := fun z => by rw [z, n] at e; cases e
  rw [hide_ne (by simp [nb])]
  exact s b o e
theorem Are.at2 {H : Hp} {vs : List V} {ds : List PyData} {i : Nat} {v : V} {d : PyData} (h : Are H vs ds) (e : vs[i]? = some v) (e2 : ds[i]? = some d) : Is H v d := by
  obtain ⟨d', e3, q⟩ := h.at' e
  rw [e2] at e3
  cases e3
  exact q
/-- the turns of [(case[0], rows) for case, rows in zip(cases, some)] -/
def ZipPv (H1 : Hp) (D : Addr) (l : List PyData) (i : Nat) (H' : Hp) : Prop := ∃ acc, H' D = some (.lst acc) ∧ Are (hide (but D) H') acc (l.take i) ∧ Same H1 H'
def pair2 (c : PyData) (s : List PyData) : PyData := .tuple [nth c 0, .tuple s]
theorem zip_step {H1 H : Hp} {D T : Addr} {xs ys : List V} {cds : List PyData} {ss : List (List PyData)} {i : Nat} {x y : V} (n : H1 D = none) (hx : Are H1 xs cds) (hy : Are H1 ys (ss.map .tuple)) (hc : ∀ d ∈ cds, ∃ o rs, d = .tuple [o, .tuple rs])
    (ex : xs[i]? = some x) (ey : ys[i]? = some y) (P : ZipPv H1 D (List.zipWith pair2 cds ss) i H) (hT : H T = none) :
    ∃ ci o b, x = .ref ci ∧ H1 ci = some (.tup [o, b]) ∧ ∀ q, (upd H T (.tup [x, y])) q = none → ∃ acc, upd (upd H T (.tup [x, y])) q (.tup [o, y]) D = some (.lst acc) ∧
      ZipPv H1 D (List.zipWith pair2 cds ss) (i + 1) (upd (upd (upd H T (.tup [x, y])) q (.tup [o, y])) D (.lst (acc ++ [.ref q]))) ∧ acc.length = (List.take i (List.zipWith pair2 cds ss)).length := by
  obtain ⟨acc, hD, hA, s1⟩ := P
  obtain ⟨d, ed, hd⟩ := hx.at' ex
  obtain ⟨e, ee, he⟩ := hy.at' ey
  obtain ⟨oD, rs, rfl⟩ := hc d (List.mem_of_getElem? ed)
  rw [List.getElem?_map] at ee
  cases hs : ss[i]? with
  | none => rw [hs] at ee; cases ee
  | some s0 =>
  rw [hs] at ee
  cases ee
  cases hd with
  | @tup ci ws _ hci t =>
  cases t with
  | @cons o _ _ _ t1 t =>
  cases t with
  | @cons b _ _ _ t2 t =>
  cases t
  refine ⟨ci, o, b, rfl, hci, fun q hq => ⟨acc, ?_, ⟨acc ++ [.ref q], upd_same, ?_, ?_⟩, hA.length⟩⟩
  · exact same_upd hq _ _ (same_upd hT _ _ hD)
  · have nqD : q ≠ D := fun z => by rw [z, same_upd hT _ _ hD] at hq; cases hq
    have nTD : T ≠ D := fun z => by rw [z, hD] at hT; cases hT
    rw [but_upd]
    have s2 : Same H (upd (upd H T (.tup [.ref ci, y])) q (.tup [o, y])) := (same_upd hT).trans (same_upd hq)
    have g : (List.zipWith pair2 cds ss)[i]? = some (pair2 (.tuple [oD, .tuple rs]) s0) := by
      rw [List.getElem?_zipWith, ed, hs]
    rw [take_one g]
    have sH : Same H1 (hide (but D) (upd (upd H T (.tup [.ref ci, y])) q (.tup [o, y]))) := same_but n (s1.trans s2)
    refine Are.append (Are.same (hide_mono s2) hA) (.cons (.tup (by rw [hide_ne (by simp [nqD])]; exact upd_same) ?_) .nil)
    exact .cons (Is.same sH t1) (.cons (Is.same sH he) .nil)
  · intro b' o' eb
    rw [upd_ne (ne_of_none eb n)]
    exact same_upd hq _ _ (same_upd hT _ _ (s1 _ _ eb))
theorem cut_in {α : Type} (f : α → V) : True := trivial
theorem cutV_in (bs : List V) : cutV bs (some 1) (some (-1)) = (bs.drop 1).dropLast := by
  have e1 : HT.sIx bs.length 0 (some 1) = min 1 bs.length := HT.sIx_nat bs.length 0 1
  have e2 : HT.sIx bs.length bs.length (some (-1)) = bs.length - 1 := by
    unfold HT.sIx
    simp only [show ((-1 : Int) < 0) from by decide, if_true]
    omega
  unfold cutV
  rw [e1, e2, List.dropLast_eq_take, List.length_drop]
  rcases Nat.lt_or_ge bs.length 1 with h | h
  · have : bs = [] := List.eq_nil_of_length_eq_zero (by omega)
    subst this
    rfl
  · rw [show min 1 bs.length = 1 by omega]
theorem are_in {H : Hp} {bs : List V} {ss : List (List PyData)} (h : Are H bs (ss.map .tuple)) : Are H ((bs.drop 1).dropLast) (((ss.drop 1).dropLast).map .tuple) := by
  have := Are.take (bs.length - 1 - 1) (Are.drop 1 h)
  rw [List.dropLast_eq_take, List.dropLast_eq_take, List.length_drop, List.length_drop, List.map_take, List.map_drop]
  have l := h.length
  rw [List.length_map] at l
  rw [← l]
  exact this
section
variable {P : Program} {w : World} {K : PySem.W.Frag} {mg : Str → Option Value} {base : Heap} {A : Ad} {D : Fd}
theorem ok_with_bodies (T : Txt K mg A D) : FnOk P w K mg base CX0 1 A.with_bodies D.with_bodies ["row", "some"] spWith := by
  refine T.f_with_bodies.ok sc_with_bodies (fun vs H Q E h => ?_) (fun cdv AA outer s H vs Q E hr h => ?_)
  · obtain ⟨v, d, b, bs, ss, rfl, _⟩ := h
    rfl
  · obtain ⟨v, d, b0, bs, ss, rfl, hd, ro, hz, hb, hB, hl, k⟩ := h
    refine ⟨_, (pss_cons (ps_if (pt_cmpR (eqK K rfl (units_of hr)) (pe_ix (ixK K rfl) (pv 0) pe_int (fun _ _ => rfl)) pe_str (nomark _)) (pss_one (ps_ret (pe_tup (pa_cons pe_str (pa_cons (pe_ix (ixK K rfl) (pv 0) pe_int (fun _ _ => rfl)) (pa_cons (pe_callTy (tupleK K rfl) (by rfl) T.b_tuple (by decide +kernel) (pa_cons (pe_lc (own := [("case", 5), ("rows", 4)]) rfl sc_with_bodies.nd (pi_zipS K rfl rfl T.b_zip (pa_cons (pe_ix (ixK K rfl) (pv 0) pe_int (fun _ _ => rfl)) (pa_cons (pv 1) pa_nil))) (blkOk_by (own := [("case", 5), ("rows", 4)]) (N := n_with_bodies) (sc := defScope s_with_bodies) (by decide +kernel)) (fun _ _ _ _ _ => (pg_tupK (n := 2) K rfl rfl (pgs_cons (pg_name (i := 5) sc_with_bodies.nd rfl (Or.inl rfl)) (pgs_cons (pg_name (i := 4) sc_with_bodies.nd rfl (Or.inl rfl)) pgs_nil)))) (fun _ _ _ _ _ => pts_nil) (fun _ _ _ _ _ => (pe_tup (pa_cons (pe_ix (ixK K rfl) (pv 5) pe_int (fun _ _ => rfl)) (pa_cons (pv 4) pa_nil))))) pa_nil)) pa_nil)))))) pss_nil)
  (pss_cons (ps_if (pt_cmpR (eqK K rfl (units_of hr)) (pe_ix (ixK K rfl) (pv 0) pe_int (fun _ _ => rfl)) pe_str (nomark _)) (pss_one (ps_ret (pe_tup (pa_cons pe_str (pa_cons (pe_ix (ixK K rfl) (pv 0) pe_int (fun _ _ => rfl)) (pa_cons (pe_ix (ixK K rfl) (pv 1) pe_int (fun _ _ => rfl)) (pa_cons (pe_ix (ixK K rfl) (pv 1) pe_int (fun _ _ => rfl)) pa_nil))))))) pss_nil)
  (pss_cons (ps_if (pt_cmpR (inK K rfl) (pe_ix (ixK K rfl) (pv 0) pe_int (fun _ _ => rfl)) (pe_tup (pa_cons pe_str (pa_cons pe_str pa_nil))) (by rfl)) (pss_one (ps_ret (pe_tup (pa_cons (pe_ix (ixK K rfl) (pv 0) pe_int (fun _ _ => rfl)) (pa_cons (pe_ix (ixK K rfl) (pv 0) pe_int (fun _ _ => rfl)) (pa_cons (pe_ix (ixK K rfl) (pv 1) pe_int (fun _ _ => rfl)) pa_nil)))))) pss_nil)
  (pss_cons (ps_if (pt_cmpR (eqK K rfl (units_of hr)) (pe_ix (ixK K rfl) (pv 0) pe_int (fun _ _ => rfl)) pe_str (nomark _)) (pss_cons (ps_set (i := 2) sc_with_bodies.nd rfl (Or.inl rfl) (by exact (pe_callTy (tupleK K rfl) (by rfl) T.b_tuple (by decide +kernel) (pa_cons (pe_lc (own := [("catch", 3), ("rows", 4)]) rfl sc_with_bodies.nd (pi_zipS K rfl rfl T.b_zip (pa_cons (pe_ix (ixK K rfl) (pv 0) pe_int (fun _ _ => rfl)) (pa_cons (pe_slice (slK K rfl) (pv 1) (po_some pe_int) (po_some (pe_un un_neg pe_int))) pa_nil))) (blkOk_by (own := [("catch", 3), ("rows", 4)]) (N := n_with_bodies) (sc := defScope s_with_bodies) (by decide +kernel)) (fun _ _ _ _ _ => (pg_tupK (n := 2) K rfl rfl (pgs_cons (pg_name (i := 3) sc_with_bodies.nd rfl (Or.inl rfl)) (pgs_cons (pg_name (i := 4) sc_with_bodies.nd rfl (Or.inl rfl)) pgs_nil)))) (fun _ _ _ _ _ => pts_nil) (fun _ _ _ _ _ => (pe_tup (pa_cons (pe_ix (ixK K rfl) (pv 3) pe_int (fun _ _ => rfl)) (pa_cons (pv 4) pa_nil))))) pa_nil))))
  (pss_one (ps_ret (pe_tup (pa_cons pe_str (pa_cons (pe_ix (ixK K rfl) (pv 1) pe_int (fun _ _ => rfl)) (pa_cons (pv 2) (pa_cons (pe_ix (ixK K rfl) (pv 1) (pe_un un_neg pe_int) (fun _ _ => rfl)) pa_nil)))))))) pss_nil)
  (pss_one (ps_ret (pv 0))))))), ?_⟩
    have bl := hB.length
    rw [List.length_map] at bl
    cases ro with
    | @doo s hs cs hn h =>
      rw [w_do] at k
      rw [b_do, List.length_map] at hl
      cases hd with
      | @tup a xs _ ha t =>
      cases t with
      | cons t1 t =>
      cases t with
      | cons t2 t =>
      cases t with
      | cons t3 t4 =>
      cases t1
      cases t2
      cases t4
      cases t3 with
      | @tup c vs _ hc u =>
      have lu := u.length
      rw [List.length_map] at lu
      have lz : vs.length + 3 ≤ 1000000 := by
        have hz' : PyData.weightAll [.str "do", .str s, .tuple (cs.map doC)] ≤ 1000000 := by simpa [Small, PyData.weight] using hz
        have := len_weight (cs.map doC)
        rw [List.length_map] at this
        simp only [PyData.weightAll, PyData.weight] at hz'
        omega
      refine ⟨_, rfl, q_ix (i := 0) (.inr (SqT.of ha)) rfl rfl (q_eqs ⟨_, rfl, ?_⟩)⟩
      rw [decide_eq_true rfl]
      refine iteT ⟨_, rfl, q_ix (i := 1) (.inr (SqT.of ha)) rfl rfl ?_⟩
      refine ⟨_, rfl, q_ix (i := 2) (.inr (SqT.of ha)) rfl rfl ⟨_, rfl, c, b0, vs, bs, rfl, .inr (SqT.of hc), .inl (SqL.of hb), fun J G hG wk Dd hDd => ?_⟩⟩
      refine lc_it wk (ZipPv H Dd (List.zipWith pair2 (cs.map doC) ss)) ⟨[], upd_same, .nil, same_upd hDd⟩ (fun i H' _ ⟨_, _, _, s'⟩ => hG H' (fun o e => s' _ _ e) fun o e => s' _ _ e) ?_ ?_
      · rintro i x H1 H2 hi P1 ⟨Tt, x1, y1, rfl, hT, rfl, e1, e2⟩
        obtain ⟨ci, o, b, rfl, hci, go⟩ := zip_step hDd u hB (fun d hd => by
          obtain ⟨c', _, rfl⟩ := List.mem_map.mp hd
          exact ⟨_, _, rfl⟩) e1 e2 P1 hT
        obtain ⟨acc0, hD0, hA0, s1⟩ := id P1
        refine ⟨Tt, _, rfl, SqT.of upd_same, rfl, _, _, rfl, _, _, rfl, rfl, rfl, _, rfl, q_ix (i := 0) (.inr (SqT.of (same_upd hT _ _ (s1 _ _ hci)))) rfl rfl ⟨_, rfl, by show 2 ≤ sizeLine; decide, fun q hq => ?_⟩⟩
        obtain ⟨acc, h1, h2, h3⟩ := go q hq
        refine ⟨acc, h1, ?_, h2⟩
        rw [h3]
        refine sz2 (Nat.le_trans (List.length_take_le' _ _) ?_)
        rw [List.length_zipWith, List.length_map]
        omega
      · rintro H1 ⟨acc, hD, hA, s1⟩
        have e : (List.zipWith pair2 (cs.map doC) ss).take (min vs.length bs.length) = List.zipWith pair2 (cs.map doC) ss := by
          refine List.take_of_length_le ?_
          rw [List.length_zipWith, List.length_map]
          omega
        rw [e] at hA
        refine ⟨Dd, _, rfl, .inl ⟨SqL.of hD, fun r hr' => ?_⟩⟩
        have s2 := same_upd (o := .tup acc) hr'
        refine ⟨by show 3 ≤ sizeLine; decide, fun f hf => ?_⟩
        have s3 := s2.trans (same_upd (o := .tup [V.str (Str.ofString "do"), V.str s, V.ref r]) hf)
        exact k (.ref f) _ (s1.trans s3) (.tup upd_same (.cons (.str _) (.cons (.str _) (.cons (.tup (same_upd hf _ _ upd_same) (Are.same (hide_in.trans s3) hA)) .nil))))
    | @iff a0 ha0 y n hy hn =>
      rw [w_if] at k
      rw [b_if] at hl
      cases hd with
      | @tup a xs _ ha t =>
      cases t with
      | cons t1 t =>
      cases t with
      | cons t2 t =>
      cases t1
      cases t2
      obtain ⟨s0, s1, rfl⟩ : ∃ s0 s1, ss = [s0, s1] := by
        match ss, hl with
        | [s0, s1], _ => exact ⟨s0, s1, rfl⟩
      cases hB with
      | cons g1 g =>
      cases g with
      | cons g2 g =>
      cases g
      refine ⟨_, rfl, q_ix (i := 0) (.inr (SqT.of ha)) rfl rfl (q_eqs ⟨_, rfl, ?_⟩)⟩
      rw [decide_eq_false (by decide +kernel)]
      refine iteF ⟨_, rfl, q_ix (i := 0) (.inr (SqT.of ha)) rfl rfl (q_eqs ⟨_, rfl, ?_⟩)⟩
      rw [decide_eq_true rfl]
      refine iteT ⟨_, rfl, q_ix (i := 1) (.inr (SqT.of ha)) rfl rfl ⟨_, rfl, q_ix (i := 0) (.inl (SqL.of hb)) rfl rfl ⟨_, rfl, q_ix (i := 1) (.inl (SqL.of hb)) rfl rfl ⟨by show 4 ≤ sizeLine; decide, fun f hf => ?_⟩⟩⟩⟩
      exact k (.ref f) _ (same_upd hf) (.tup upd_same (.cons (.str _) (.cons (.str _) (.cons (Is.same (same_upd hf) g1) (.cons (Is.same (same_upd hf) g2) .nil)))))
    | @loop kk l hk hl' b hb' =>
      obtain ⟨n1, n2⟩ := loop_no hk
      rw [w_loop hk] at k
      rw [b_loop hk] at hl
      cases hd with
      | @tup a xs _ ha t =>
      cases t with
      | cons t1 t =>
      cases t with
      | cons t2 t =>
      cases t1
      cases t2
      obtain ⟨s0, rfl⟩ : ∃ s0, ss = [s0] := by
        match ss, hl with
        | [s0], _ => exact ⟨s0, rfl⟩
      cases hB with
      | cons g1 g =>
      cases g
      refine ⟨_, rfl, q_ix (i := 0) (.inr (SqT.of ha)) rfl rfl (q_eqs ⟨_, rfl, ?_⟩)⟩
      rw [decide_eq_false n1]
      refine iteF ⟨_, rfl, q_ix (i := 0) (.inr (SqT.of ha)) rfl rfl (q_eqs ⟨_, rfl, ?_⟩)⟩
      rw [decide_eq_false n2]
      refine iteF ⟨_, rfl, q_ix (i := 0) (.inr (SqT.of ha)) rfl rfl ⟨by show 2 ≤ sizeLine; decide, fun q hq => q_inTexts (ks := [Str.ofString "loop", Str.ofString "block"]) (.inr (SqT.of upd_same)) ⟨_, rfl, ?_⟩⟩⟩
      rw [decide_eq_true hk]
      have s1 := same_upd (o := .tup [V.str (Str.ofString "loop"), V.str (Str.ofString "block")]) hq
      refine iteT ⟨_, rfl, q_ix (i := 0) (.inr (SqT.of (s1 _ _ ha))) rfl rfl ⟨_, rfl, q_ix (i := 1) (.inr (SqT.of (s1 _ _ ha))) rfl rfl ⟨_, rfl, q_ix (i := 0) (.inl (SqL.of (s1 _ _ hb))) rfl rfl ⟨by show 3 ≤ sizeLine; decide, fun f hf => ?_⟩⟩⟩⟩
      exact k (.ref f) _ (s1.trans (same_upd hf)) (.tup upd_same (.cons (.str _) (.cons (.str _) (.cons (Is.same (s1.trans (same_upd hf)) g1) .nil))))
    | @trr b e hb' cs hn h he =>
      rw [w_try] at k
      rw [b_try, List.length_cons, List.length_append, List.length_map] at hl
      have hl2 : ss.length = cs.length + 2 := hl
      cases hd with
      | @tup a xs _ ha t =>
      cases t with
      | cons t1 t =>
      cases t with
      | cons t2 t =>
      cases t with
      | cons t3 t =>
      cases t1
      cases t3 with
      | @tup c vs _ hc u =>
      have lu := u.length
      rw [List.length_map] at lu
      have lz : vs.length + 3 ≤ 1000000 := by
        have hz' : PyData.weightAll [.str "try", .tuple b, .tuple (cs.map trC), .tuple e] ≤ 1000000 := by simpa [Small, PyData.weight] using hz
        have := len_weight (cs.map trC)
        rw [List.length_map] at this
        simp only [PyData.weightAll, PyData.weight] at hz'
        omega
      refine ⟨_, rfl, q_ix (i := 0) (.inr (SqT.of ha)) rfl rfl (q_eqs ⟨_, rfl, ?_⟩)⟩
      rw [decide_eq_false (by decide +kernel)]
      refine iteF ⟨_, rfl, q_ix (i := 0) (.inr (SqT.of ha)) rfl rfl (q_eqs ⟨_, rfl, ?_⟩)⟩
      rw [decide_eq_false (by decide +kernel)]
      refine iteF ⟨_, rfl, q_ix (i := 0) (.inr (SqT.of ha)) rfl rfl ⟨by show 2 ≤ sizeLine; decide, fun q hq => q_inTexts (ks := [Str.ofString "loop", Str.ofString "block"]) (.inr (SqT.of upd_same)) ⟨_, rfl, ?_⟩⟩⟩
      rw [decide_eq_false (by decide +kernel)]
      have s0 := same_upd (o := .tup [V.str (Str.ofString "loop"), V.str (Str.ofString "block")]) hq
      generalize upd H q (.tup [V.str (Str.ofString "loop"), V.str (Str.ofString "block")]) = H0 at s0 ⊢
      have ha := s0 _ _ ha
      have hc := s0 _ _ hc
      have u := Are.same s0 u
      have hb := s0 _ _ hb
      have hB := Are.same s0 hB
      have bl2 : 2 ≤ bs.length := by omega
      obtain ⟨vF, eF⟩ : ∃ v, bs[0]? = some v := ⟨_, List.getElem?_eq_getElem (by omega)⟩
      obtain ⟨vL, eL⟩ : ∃ v, bs[bs.length - 1]? = some v := ⟨_, List.getElem?_eq_getElem (by omega)⟩
      have iF : Is H0 vF (.tuple (ss.getD 0 [])) := Are.at2 hB eF (by
        rw [List.getElem?_map, List.getD_eq_getElem?_getD, List.getElem?_eq_getElem (by omega)]
        rfl)
      have iL : Is H0 vL (.tuple (ss.getD (ss.length - 1) [])) := Are.at2 hB eL (by
        rw [List.getElem?_map, List.getD_eq_getElem?_getD, bl, List.getElem?_eq_getElem (by omega)]
        rfl)
      have atL : atI bs (-1) = some vL := by
        have e : bs = bs.dropLast ++ [vL] := by
          have ne : bs ≠ [] := fun z => by rw [z] at bl2; simp at bl2
          have e2 := List.dropLast_concat_getLast ne
          rw [List.getLast_eq_getElem] at e2
          rw [List.getElem?_eq_getElem (by omega)] at eL
          rw [← Option.some.inj eL]
          exact e2.symm
        rw [e]
        exact atI_last _ _
      refine iteF ⟨_, rfl, q_ix (i := 0) (.inr (SqT.of ha)) rfl rfl (q_eqs ⟨_, rfl, ?_⟩)⟩
      rw [decide_eq_true rfl]
      refine iteT ?_
      refine ⟨_, rfl, q_ix (i := 2) (.inr (SqT.of ha)) rfl rfl ⟨_, rfl, _, rfl, 1, rfl, _, rfl, q_cutL hb fun rc hrc => ?_⟩⟩
      rw [cutV_in]
      have s1 := same_upd (o := .lst ((bs.drop 1).dropLast)) hrc
      generalize hH1 : upd H0 rc (.lst ((bs.drop 1).dropLast)) = H1 at s1 ⊢
      have hrc1 : H1 rc = some (.lst ((bs.drop 1).dropLast)) := by rw [← hH1]; exact upd_same
      have u1 := Are.same s1 u
      have m1 := Are.same s1 (are_in hB)
      refine ⟨c, rc, vs, _, rfl, .inr (SqT.of (s1 _ _ hc)), .inl (SqL.of hrc1), fun J G hG wk Dd hDd => ?_⟩
      refine lc_it wk (ZipPv H1 Dd (List.zipWith pair2 (cs.map trC) ((ss.drop 1).dropLast))) ⟨[], upd_same, .nil, same_upd hDd⟩ (fun i H' _ ⟨_, _, _, s'⟩ => hG H' (fun o e => s' _ _ e) fun o e => s' _ _ e) ?_ ?_
      · rintro i x H2 H3 hi P1 ⟨Tt, x1, y1, rfl, hT, rfl, e1, e2⟩
        obtain ⟨ci, o, b', rfl, hci, go⟩ := zip_step hDd u1 m1 (fun d hd => by
          obtain ⟨c', _, rfl⟩ := List.mem_map.mp hd
          exact ⟨_, _, rfl⟩) e1 e2 P1 hT
        obtain ⟨acc0, hD0, hA0, s2⟩ := id P1
        refine ⟨Tt, _, rfl, SqT.of upd_same, rfl, _, _, rfl, _, _, rfl, rfl, rfl, _, rfl, q_ix (i := 0) (.inr (SqT.of (same_upd hT _ _ (s2 _ _ hci)))) rfl rfl ⟨_, rfl, by show 2 ≤ sizeLine; decide, fun q hq => ?_⟩⟩
        obtain ⟨acc, h1, h2, h3⟩ := go q hq
        refine ⟨acc, h1, ?_, h2⟩
        rw [h3]
        refine sz2 (Nat.le_trans (List.length_take_le' _ _) ?_)
        rw [List.length_zipWith, List.length_map]
        omega
      · rintro H2 ⟨acc, hD, hA, s2⟩
        have ll : ((bs.drop 1).dropLast).length = cs.length := by rw [List.length_dropLast, List.length_drop]; omega
        have e : (List.zipWith pair2 (cs.map trC) ((ss.drop 1).dropLast)).take (min vs.length ((bs.drop 1).dropLast).length) = List.zipWith pair2 (cs.map trC) ((ss.drop 1).dropLast) := by
          refine List.take_of_length_le ?_
          rw [List.length_zipWith, List.length_map, ll, List.length_dropLast, List.length_drop]
          omega
        rw [e] at hA
        refine ⟨Dd, _, rfl, .inl ⟨SqL.of hD, fun r hr' => ?_⟩⟩
        have s3 := s2.trans (same_upd (o := .tup acc) hr')
        have s13 := s1.trans s3
        refine ⟨_, rfl, q_ix (i := 0) (.inl (SqL.of (s13 _ _ hb))) rfl eF ⟨_, rfl, _, rfl, 1, rfl, .inl ⟨b0, bs, _, vL, rfl, rfl, SqL.of (s13 _ _ hb), atL, ⟨by show 4 ≤ sizeLine; decide, fun f hf => ?_⟩⟩⟩⟩
        have s4 := s13.trans (same_upd (o := .tup [V.str (Str.ofString "try"), vF, V.ref r, vL]) hf)
        exact k (.ref f) _ (s0.trans s4) (.tup upd_same (.cons (.str _) (.cons (Is.same s4 iF) (.cons (.tup (same_upd hf _ _ upd_same) (Are.same (hide_in.trans ((same_upd hr').trans (same_upd hf))) hA)) (.cons (Is.same s4 iL) .nil)))))
    | @leaf kk x hk hx =>
      obtain ⟨n1, n2, n3, n4⟩ := leaf_no hk
      rw [w_leaf hk] at k
      have hd0 := hd
      cases hd with
      | @tup a xs _ ha t =>
      cases t with
      | cons t1 t2 =>
      cases t1
      refine ⟨_, rfl, q_ix (i := 0) (.inr (SqT.of ha)) rfl rfl (q_eqs ⟨_, rfl, ?_⟩)⟩
      rw [decide_eq_false n1]
      refine iteF ⟨_, rfl, q_ix (i := 0) (.inr (SqT.of ha)) rfl rfl (q_eqs ⟨_, rfl, ?_⟩)⟩
      rw [decide_eq_false n2]
      refine iteF ⟨_, rfl, q_ix (i := 0) (.inr (SqT.of ha)) rfl rfl ⟨by show 2 ≤ sizeLine; decide, fun q hq => q_inTexts (ks := [Str.ofString "loop", Str.ofString "block"]) (.inr (SqT.of upd_same)) ⟨_, rfl, ?_⟩⟩⟩
      rw [decide_eq_false n3]
      have s1 := same_upd (o := .tup [V.str (Str.ofString "loop"), V.str (Str.ofString "block")]) hq
      refine iteF ⟨_, rfl, q_ix (i := 0) (.inr (SqT.of (s1 _ _ ha))) rfl rfl (q_eqs ⟨_, rfl, ?_⟩)⟩
      rw [decide_eq_false n4]
      exact iteF ⟨_, rfl, k _ _ s1 (Is.same s1 hd0)⟩
theorem ok__law_with (T : Txt K mg A D) : FnOk P w K mg base CX0 1 A._law_with D._law_with ["row", "some"] spWith := by
  refine T.f__law_with.ok sc__law_with (fun vs H Q E h => ?_) (fun cdv AA outer s H vs Q E hr h => ?_)
  · obtain ⟨v, d, b, bs, ss, rfl, _⟩ := h
    rfl
  · obtain ⟨v, d, b0, bs, ss, rfl, hd, ro, hz, hb, hB, hl, k⟩ := h
    refine ⟨_, (pss_cons (ps_if (pt_cmpR (eqK K rfl (units_of hr)) (pe_ix (ixK K rfl) (pv 0) pe_int (fun _ _ => rfl)) pe_str (nomark _)) (pss_one (ps_ret (pe_tup (pa_cons pe_str (pa_cons (pe_ix (ixK K rfl) (pv 0) pe_int (fun _ _ => rfl)) (pa_cons (pe_callTy (tupleK K rfl) (by rfl) T.b_tuple (by decide +kernel) (pa_cons (pe_lc (own := [("case", 2), ("body", 3)]) rfl sc__law_with.nd (pi_zipS K rfl rfl T.b_zip (pa_cons (pe_ix (ixK K rfl) (pv 0) pe_int (fun _ _ => rfl)) (pa_cons (pv 1) pa_nil))) (blkOk_by (own := [("case", 2), ("body", 3)]) (N := n__law_with) (sc := defScope s__law_with) (by decide +kernel)) (fun _ _ _ _ _ => (pg_tupK (n := 2) K rfl rfl (pgs_cons (pg_name (i := 2) sc__law_with.nd rfl (Or.inl rfl)) (pgs_cons (pg_name (i := 3) sc__law_with.nd rfl (Or.inl rfl)) pgs_nil)))) (fun _ _ _ _ _ => pts_nil) (fun _ _ _ _ _ => (pe_tup (pa_cons (pe_ix (ixK K rfl) (pv 2) pe_int (fun _ _ => rfl)) (pa_cons (pv 3) pa_nil))))) pa_nil)) pa_nil)))))) pss_nil)
  (pss_cons (ps_if (pt_cmpR (eqK K rfl (units_of hr)) (pe_ix (ixK K rfl) (pv 0) pe_int (fun _ _ => rfl)) pe_str (nomark _)) (pss_one (ps_ret (pe_tup (pa_cons pe_str (pa_cons (pe_ix (ixK K rfl) (pv 0) pe_int (fun _ _ => rfl)) (pa_cons (pe_ix (ixK K rfl) (pv 1) pe_int (fun _ _ => rfl)) (pa_cons (pe_ix (ixK K rfl) (pv 1) pe_int (fun _ _ => rfl)) pa_nil))))))) pss_nil)
  (pss_cons (ps_if (pt_cmpR (inK K rfl) (pe_ix (ixK K rfl) (pv 0) pe_int (fun _ _ => rfl)) (pe_tup (pa_cons pe_str (pa_cons pe_str pa_nil))) (by rfl)) (pss_one (ps_ret (pe_tup (pa_cons (pe_ix (ixK K rfl) (pv 0) pe_int (fun _ _ => rfl)) (pa_cons (pe_ix (ixK K rfl) (pv 0) pe_int (fun _ _ => rfl)) (pa_cons (pe_ix (ixK K rfl) (pv 1) pe_int (fun _ _ => rfl)) pa_nil)))))) pss_nil)
  (pss_cons (ps_if (pt_cmpR (eqK K rfl (units_of hr)) (pe_ix (ixK K rfl) (pv 0) pe_int (fun _ _ => rfl)) pe_str (nomark _)) (pss_one (ps_ret (pe_tup (pa_cons pe_str (pa_cons (pe_ix (ixK K rfl) (pv 1) pe_int (fun _ _ => rfl)) (pa_cons (pe_callTy (tupleK K rfl) (by rfl) T.b_tuple (by decide +kernel) (pa_cons (pe_lc (own := [("case", 2), ("body", 3)]) rfl sc__law_with.nd (pi_zipS K rfl rfl T.b_zip (pa_cons (pe_ix (ixK K rfl) (pv 0) pe_int (fun _ _ => rfl)) (pa_cons (pe_slice (slK K rfl) (pv 1) (po_some pe_int) (po_some (pe_un un_neg pe_int))) pa_nil))) (blkOk_by (own := [("case", 2), ("body", 3)]) (N := n__law_with) (sc := defScope s__law_with) (by decide +kernel)) (fun _ _ _ _ _ => (pg_tupK (n := 2) K rfl rfl (pgs_cons (pg_name (i := 2) sc__law_with.nd rfl (Or.inl rfl)) (pgs_cons (pg_name (i := 3) sc__law_with.nd rfl (Or.inl rfl)) pgs_nil)))) (fun _ _ _ _ _ => pts_nil) (fun _ _ _ _ _ => (pe_tup (pa_cons (pe_ix (ixK K rfl) (pv 2) pe_int (fun _ _ => rfl)) (pa_cons (pv 3) pa_nil))))) pa_nil)) (pa_cons (pe_ix (ixK K rfl) (pv 1) (pe_un un_neg pe_int) (fun _ _ => rfl)) pa_nil))))))) pss_nil)
  (pss_one (ps_ret (pv 0))))))), ?_⟩
    have bl := hB.length
    rw [List.length_map] at bl
    cases ro with
    | @doo s hs cs hn h =>
      rw [w_do] at k
      rw [b_do, List.length_map] at hl
      cases hd with
      | @tup a xs _ ha t =>
      cases t with
      | cons t1 t =>
      cases t with
      | cons t2 t =>
      cases t with
      | cons t3 t4 =>
      cases t1
      cases t2
      cases t4
      cases t3 with
      | @tup c vs _ hc u =>
      have lu := u.length
      rw [List.length_map] at lu
      have lz : vs.length + 3 ≤ 1000000 := by
        have hz' : PyData.weightAll [.str "do", .str s, .tuple (cs.map doC)] ≤ 1000000 := by simpa [Small, PyData.weight] using hz
        have := len_weight (cs.map doC)
        rw [List.length_map] at this
        simp only [PyData.weightAll, PyData.weight] at hz'
        omega
      refine ⟨_, rfl, q_ix (i := 0) (.inr (SqT.of ha)) rfl rfl (q_eqs ⟨_, rfl, ?_⟩)⟩
      rw [decide_eq_true rfl]
      refine iteT ⟨_, rfl, q_ix (i := 1) (.inr (SqT.of ha)) rfl rfl ?_⟩
      refine ⟨_, rfl, q_ix (i := 2) (.inr (SqT.of ha)) rfl rfl ⟨_, rfl, c, b0, vs, bs, rfl, .inr (SqT.of hc), .inl (SqL.of hb), fun J G hG wk Dd hDd => ?_⟩⟩
      refine lc_it wk (ZipPv H Dd (List.zipWith pair2 (cs.map doC) ss)) ⟨[], upd_same, .nil, same_upd hDd⟩ (fun i H' _ ⟨_, _, _, s'⟩ => hG H' (fun o e => s' _ _ e) fun o e => s' _ _ e) ?_ ?_
      · rintro i x H1 H2 hi P1 ⟨Tt, x1, y1, rfl, hT, rfl, e1, e2⟩
        obtain ⟨ci, o, b, rfl, hci, go⟩ := zip_step hDd u hB (fun d hd => by
          obtain ⟨c', _, rfl⟩ := List.mem_map.mp hd
          exact ⟨_, _, rfl⟩) e1 e2 P1 hT
        obtain ⟨acc0, hD0, hA0, s1⟩ := id P1
        refine ⟨Tt, _, rfl, SqT.of upd_same, rfl, _, _, rfl, _, _, rfl, rfl, rfl, _, rfl, q_ix (i := 0) (.inr (SqT.of (same_upd hT _ _ (s1 _ _ hci)))) rfl rfl ⟨_, rfl, by show 2 ≤ sizeLine; decide, fun q hq => ?_⟩⟩
        obtain ⟨acc, h1, h2, h3⟩ := go q hq
        refine ⟨acc, h1, ?_, h2⟩
        rw [h3]
        refine sz2 (Nat.le_trans (List.length_take_le' _ _) ?_)
        rw [List.length_zipWith, List.length_map]
        omega
      · rintro H1 ⟨acc, hD, hA, s1⟩
        have e : (List.zipWith pair2 (cs.map doC) ss).take (min vs.length bs.length) = List.zipWith pair2 (cs.map doC) ss := by
          refine List.take_of_length_le ?_
          rw [List.length_zipWith, List.length_map]
          omega
        rw [e] at hA
        refine ⟨Dd, _, rfl, .inl ⟨SqL.of hD, fun r hr' => ?_⟩⟩
        have s2 := same_upd (o := .tup acc) hr'
        refine ⟨by show 3 ≤ sizeLine; decide, fun f hf => ?_⟩
        have s3 := s2.trans (same_upd (o := .tup [V.str (Str.ofString "do"), V.str s, V.ref r]) hf)
        exact k (.ref f) _ (s1.trans s3) (.tup upd_same (.cons (.str _) (.cons (.str _) (.cons (.tup (same_upd hf _ _ upd_same) (Are.same (hide_in.trans s3) hA)) .nil))))
    | @iff a0 ha0 y n hy hn =>
      rw [w_if] at k
      rw [b_if] at hl
      cases hd with
      | @tup a xs _ ha t =>
      cases t with
      | cons t1 t =>
      cases t with
      | cons t2 t =>
      cases t1
      cases t2
      obtain ⟨s0, s1, rfl⟩ : ∃ s0 s1, ss = [s0, s1] := by
        match ss, hl with
        | [s0, s1], _ => exact ⟨s0, s1, rfl⟩
      cases hB with
      | cons g1 g =>
      cases g with
      | cons g2 g =>
      cases g
      refine ⟨_, rfl, q_ix (i := 0) (.inr (SqT.of ha)) rfl rfl (q_eqs ⟨_, rfl, ?_⟩)⟩
      rw [decide_eq_false (by decide +kernel)]
      refine iteF ⟨_, rfl, q_ix (i := 0) (.inr (SqT.of ha)) rfl rfl (q_eqs ⟨_, rfl, ?_⟩)⟩
      rw [decide_eq_true rfl]
      refine iteT ⟨_, rfl, q_ix (i := 1) (.inr (SqT.of ha)) rfl rfl ⟨_, rfl, q_ix (i := 0) (.inl (SqL.of hb)) rfl rfl ⟨_, rfl, q_ix (i := 1) (.inl (SqL.of hb)) rfl rfl ⟨by show 4 ≤ sizeLine; decide, fun f hf => ?_⟩⟩⟩⟩
      exact k (.ref f) _ (same_upd hf) (.tup upd_same (.cons (.str _) (.cons (.str _) (.cons (Is.same (same_upd hf) g1) (.cons (Is.same (same_upd hf) g2) .nil)))))
    | @loop kk l hk hl' b hb' =>
      obtain ⟨n1, n2⟩ := loop_no hk
      rw [w_loop hk] at k
      rw [b_loop hk] at hl
      cases hd with
      | @tup a xs _ ha t =>
      cases t with
      | cons t1 t =>
      cases t with
      | cons t2 t =>
      cases t1
      cases t2
      obtain ⟨s0, rfl⟩ : ∃ s0, ss = [s0] := by
        match ss, hl with
        | [s0], _ => exact ⟨s0, rfl⟩
      cases hB with
      | cons g1 g =>
      cases g
      refine ⟨_, rfl, q_ix (i := 0) (.inr (SqT.of ha)) rfl rfl (q_eqs ⟨_, rfl, ?_⟩)⟩
      rw [decide_eq_false n1]
      refine iteF ⟨_, rfl, q_ix (i := 0) (.inr (SqT.of ha)) rfl rfl (q_eqs ⟨_, rfl, ?_⟩)⟩
      rw [decide_eq_false n2]
      refine iteF ⟨_, rfl, q_ix (i := 0) (.inr (SqT.of ha)) rfl rfl ⟨by show 2 ≤ sizeLine; decide, fun q hq => q_inTexts (ks := [Str.ofString "loop", Str.ofString "block"]) (.inr (SqT.of upd_same)) ⟨_, rfl, ?_⟩⟩⟩
      rw [decide_eq_true hk]
      have s1 := same_upd (o := .tup [V.str (Str.ofString "loop"), V.str (Str.ofString "block")]) hq
      refine iteT ⟨_, rfl, q_ix (i := 0) (.inr (SqT.of (s1 _ _ ha))) rfl rfl ⟨_, rfl, q_ix (i := 1) (.inr (SqT.of (s1 _ _ ha))) rfl rfl ⟨_, rfl, q_ix (i := 0) (.inl (SqL.of (s1 _ _ hb))) rfl rfl ⟨by show 3 ≤ sizeLine; decide, fun f hf => ?_⟩⟩⟩⟩
      exact k (.ref f) _ (s1.trans (same_upd hf)) (.tup upd_same (.cons (.str _) (.cons (.str _) (.cons (Is.same (s1.trans (same_upd hf)) g1) .nil))))
    | @trr b e hb' cs hn h he =>
      rw [w_try] at k
      rw [b_try, List.length_cons, List.length_append, List.length_map] at hl
      have hl2 : ss.length = cs.length + 2 := hl
      cases hd with
      | @tup a xs _ ha t =>
      cases t with
      | cons t1 t =>
      cases t with
      | cons t2 t =>
      cases t with
      | cons t3 t =>
      cases t1
      cases t3 with
      | @tup c vs _ hc u =>
      have lu := u.length
      rw [List.length_map] at lu
      have lz : vs.length + 3 ≤ 1000000 := by
        have hz' : PyData.weightAll [.str "try", .tuple b, .tuple (cs.map trC), .tuple e] ≤ 1000000 := by simpa [Small, PyData.weight] using hz
        have := len_weight (cs.map trC)
        rw [List.length_map] at this
        simp only [PyData.weightAll, PyData.weight] at hz'
        omega
      refine ⟨_, rfl, q_ix (i := 0) (.inr (SqT.of ha)) rfl rfl (q_eqs ⟨_, rfl, ?_⟩)⟩
      rw [decide_eq_false (by decide +kernel)]
      refine iteF ⟨_, rfl, q_ix (i := 0) (.inr (SqT.of ha)) rfl rfl (q_eqs ⟨_, rfl, ?_⟩)⟩
      rw [decide_eq_false (by decide +kernel)]
      refine iteF ⟨_, rfl, q_ix (i := 0) (.inr (SqT.of ha)) rfl rfl ⟨by show 2 ≤ sizeLine; decide, fun q hq => q_inTexts (ks := [Str.ofString "loop", Str.ofString "block"]) (.inr (SqT.of upd_same)) ⟨_, rfl, ?_⟩⟩⟩
      rw [decide_eq_false (by decide +kernel)]
      have s0 := same_upd (o := .tup [V.str (Str.ofString "loop"), V.str (Str.ofString "block")]) hq
      generalize upd H q (.tup [V.str (Str.ofString "loop"), V.str (Str.ofString "block")]) = H0 at s0 ⊢
      have ha := s0 _ _ ha
      have hc := s0 _ _ hc
      have u := Are.same s0 u
      have hb := s0 _ _ hb
      have hB := Are.same s0 hB
      have bl2 : 2 ≤ bs.length := by omega
      obtain ⟨vF, eF⟩ : ∃ v, bs[0]? = some v := ⟨_, List.getElem?_eq_getElem (by omega)⟩
      obtain ⟨vL, eL⟩ : ∃ v, bs[bs.length - 1]? = some v := ⟨_, List.getElem?_eq_getElem (by omega)⟩
      have iF : Is H0 vF (.tuple (ss.getD 0 [])) := Are.at2 hB eF (by
        rw [List.getElem?_map, List.getD_eq_getElem?_getD, List.getElem?_eq_getElem (by omega)]
        rfl)
      have iL : Is H0 vL (.tuple (ss.getD (ss.length - 1) [])) := Are.at2 hB eL (by
        rw [List.getElem?_map, List.getD_eq_getElem?_getD, bl, List.getElem?_eq_getElem (by omega)]
        rfl)
      have atL : atI bs (-1) = some vL := by
        have e : bs = bs.dropLast ++ [vL] := by
          have ne : bs ≠ [] := fun z => by rw [z] at bl2; simp at bl2
          have e2 := List.dropLast_concat_getLast ne
          rw [List.getLast_eq_getElem] at e2
          rw [List.getElem?_eq_getElem (by omega)] at eL
          rw [← Option.some.inj eL]
          exact e2.symm
        rw [e]
        exact atI_last _ _
      refine iteF ⟨_, rfl, q_ix (i := 0) (.inr (SqT.of ha)) rfl rfl (q_eqs ⟨_, rfl, ?_⟩)⟩
      rw [decide_eq_true rfl]
      refine iteT ?_
      refine ⟨_, rfl, q_ix (i := 0) (.inl (SqL.of hb)) rfl eF ?_⟩
      refine ⟨_, rfl, q_ix (i := 2) (.inr (SqT.of ha)) rfl rfl ⟨_, rfl, _, rfl, 1, rfl, _, rfl, q_cutL hb fun rc hrc => ?_⟩⟩
      rw [cutV_in]
      have s1 := same_upd (o := .lst ((bs.drop 1).dropLast)) hrc
      generalize hH1 : upd H0 rc (.lst ((bs.drop 1).dropLast)) = H1 at s1 ⊢
      have hrc1 : H1 rc = some (.lst ((bs.drop 1).dropLast)) := by rw [← hH1]; exact upd_same
      have u1 := Are.same s1 u
      have m1 := Are.same s1 (are_in hB)
      refine ⟨c, rc, vs, _, rfl, .inr (SqT.of (s1 _ _ hc)), .inl (SqL.of hrc1), fun J G hG wk Dd hDd => ?_⟩
      refine lc_it wk (ZipPv H1 Dd (List.zipWith pair2 (cs.map trC) ((ss.drop 1).dropLast))) ⟨[], upd_same, .nil, same_upd hDd⟩ (fun i H' _ ⟨_, _, _, s'⟩ => hG H' (fun o e => s' _ _ e) fun o e => s' _ _ e) ?_ ?_
      · rintro i x H2 H3 hi P1 ⟨Tt, x1, y1, rfl, hT, rfl, e1, e2⟩
        obtain ⟨ci, o, b', rfl, hci, go⟩ := zip_step hDd u1 m1 (fun d hd => by
          obtain ⟨c', _, rfl⟩ := List.mem_map.mp hd
          exact ⟨_, _, rfl⟩) e1 e2 P1 hT
        obtain ⟨acc0, hD0, hA0, s2⟩ := id P1
        refine ⟨Tt, _, rfl, SqT.of upd_same, rfl, _, _, rfl, _, _, rfl, rfl, rfl, _, rfl, q_ix (i := 0) (.inr (SqT.of (same_upd hT _ _ (s2 _ _ hci)))) rfl rfl ⟨_, rfl, by show 2 ≤ sizeLine; decide, fun q hq => ?_⟩⟩
        obtain ⟨acc, h1, h2, h3⟩ := go q hq
        refine ⟨acc, h1, ?_, h2⟩
        rw [h3]
        refine sz2 (Nat.le_trans (List.length_take_le' _ _) ?_)
        rw [List.length_zipWith, List.length_map]
        omega
      · rintro H2 ⟨acc, hD, hA, s2⟩
        have ll : ((bs.drop 1).dropLast).length = cs.length := by rw [List.length_dropLast, List.length_drop]; omega
        have e : (List.zipWith pair2 (cs.map trC) ((ss.drop 1).dropLast)).take (min vs.length ((bs.drop 1).dropLast).length) = List.zipWith pair2 (cs.map trC) ((ss.drop 1).dropLast) := by
          refine List.take_of_length_le ?_
          rw [List.length_zipWith, List.length_map, ll, List.length_dropLast, List.length_drop]
          omega
        rw [e] at hA
        refine ⟨Dd, _, rfl, .inl ⟨SqL.of hD, fun r hr' => ?_⟩⟩
        have s3 := s2.trans (same_upd (o := .tup acc) hr')
        have s13 := s1.trans s3
        refine ⟨_, rfl, 1, rfl, .inl ⟨b0, bs, _, vL, rfl, rfl, SqL.of (s13 _ _ hb), atL, ⟨by show 4 ≤ sizeLine; decide, fun f hf => ?_⟩⟩⟩
        have s4 := s13.trans (same_upd (o := .tup [V.str (Str.ofString "try"), vF, V.ref r, vL]) hf)
        exact k (.ref f) _ (s0.trans s4) (.tup upd_same (.cons (.str _) (.cons (Is.same s4 iF) (.cons (.tup (same_upd hf _ _ upd_same) (Are.same (hide_in.trans ((same_upd hr').trans (same_upd hf))) hA)) (.cons (Is.same s4 iL) .nil)))))
    | @leaf kk x hk hx =>
      obtain ⟨n1, n2, n3, n4⟩ := leaf_no hk
      rw [w_leaf hk] at k
      have hd0 := hd
      cases hd with
      | @tup a xs _ ha t =>
      cases t with
      | cons t1 t2 =>
      cases t1
      refine ⟨_, rfl, q_ix (i := 0) (.inr (SqT.of ha)) rfl rfl (q_eqs ⟨_, rfl, ?_⟩)⟩
      rw [decide_eq_false n1]
      refine iteF ⟨_, rfl, q_ix (i := 0) (.inr (SqT.of ha)) rfl rfl (q_eqs ⟨_, rfl, ?_⟩)⟩
      rw [decide_eq_false n2]
      refine iteF ⟨_, rfl, q_ix (i := 0) (.inr (SqT.of ha)) rfl rfl ⟨by show 2 ≤ sizeLine; decide, fun q hq => q_inTexts (ks := [Str.ofString "loop", Str.ofString "block"]) (.inr (SqT.of upd_same)) ⟨_, rfl, ?_⟩⟩⟩
      rw [decide_eq_false n3]
      have s1 := same_upd (o := .tup [V.str (Str.ofString "loop"), V.str (Str.ofString "block")]) hq
      refine iteF ⟨_, rfl, q_ix (i := 0) (.inr (SqT.of (s1 _ _ ha))) rfl rfl (q_eqs ⟨_, rfl, ?_⟩)⟩
      rw [decide_eq_false n4]
      exact iteF ⟨_, rfl, k _ _ s1 (Is.same s1 hd0)⟩
end
end K14
set_option Elab.async false
set_option linter.all false
set_option maxRecDepth 100000
set_option maxHeartbeats 4000000
namespace K14
open PySem PySem.Spec L2 Quiet Gn Rw

/-- a place in a path -/
def partB : PyData → Bool | .int n => decide (0 ≤ n) | _ => false
def isPathD : PyData → Bool | .tuple ds => decide (ds.length % 2 = 1) && ds.all partB | _ => false
def spIsPath : Sp := fun vs H Q _ => ∃ (v : V) (d : PyData), vs = [v] ∧ Is H v d ∧ Small d ∧ ∀ H', Same H H' → Q (.bl (isPathD d)) H'
theorem tup_of {d : PyData} (h : Gn.iTup d = true) : ∃ ds, d = .tuple ds := by
  cases d <;> first | exact ⟨_, rfl⟩ | (exact absurd h Bool.false_ne_true)
theorem int_of {d : PyData} (h : isInt d = true) : ∃ n, d = .int n := by
  cases d <;> first | exact ⟨_, rfl⟩ | (exact absurd h Bool.false_ne_true)
theorem part_int {d : PyData} (h : partB d = true) : ∃ n : Nat, d = .int (n : Int) := by
  cases d <;> first | (exact absurd h Bool.false_ne_true) | skip
  rename_i n
  exact ⟨n.toNat, by rw [Int.toNat_of_nonneg (of_decide_eq_true h)]⟩
section
variable {P : Program} {w : World} {K : PySem.W.Frag} {mg : Str → Option Value} {base : Heap} {A : Ad} {D : Fd}
theorem ok_is_path (T : Txt K mg A D) : FnOk P w K mg base CX0 2 A.is_path D.is_path ["thing"] spIsPath := by
  refine T.f_is_path.ok sc_is_path (fun vs H Q E h => ?_) (fun cdv AA outer s H vs Q E hr h => ?_)
  · obtain ⟨v, d, rfl, _⟩ := h
    rfl
  · obtain ⟨v, d, rfl, hd, hz, k⟩ := h
    refine ⟨_, (pss_cons (ps_if (PW.pt (pw_or (pt_not (pt_val (pe_callB (isiK K rfl) (by rfl) T.b_isinstance (by decide +kernel) (pa_cons (pv 0) (pa_cons (pe_bltn (v := .ty "tuple") (by rfl) T.b_tuple (by decide +kernel) rfl) pa_nil))))) (pw_or1 (pt_cmpR (eqK K rfl (units_of hr)) (pe_op op_odd (pe_callB (lenK K rfl) (by rfl) T.b_len (by decide +kernel) (pa_cons (pv 0) pa_nil)) pe_int) pe_int (nomark _))))) (pss_one (ps_ret pe_bl)) pss_nil)
  (pss_one (ps_ret (pe_callB (allK K rfl rfl) (by rfl) T.b_all (by decide +kernel) (pa_cons (pe_lc (own := [("part", 1)]) rfl sc_is_path.nd (pi_sq K rfl (pv 0)) (blkOk_by (own := [("part", 1)]) (N := n_is_path) (sc := defScope s_is_path) (by decide +kernel)) (fun _ _ _ _ _ => (pg_name (i := 1) sc_is_path.nd rfl (Or.inl rfl))) (fun _ _ _ _ _ => pts_nil) (fun _ _ _ _ _ => (pe_and (pe_call (ok_is_integer T) (hr.mono (by decide)) rfl T.m_is_integer T.f_is_integer.kp (b_is_integer T) .nil pass0 (pa_cons (pv 1) pa_nil)) (pe_one (pe_cmpR op_ge (pv 1) pe_int (nomark _)))))) pa_nil))))), ?_⟩
    refine ⟨_, rfl, q_isi hd (k_tup d) ⟨_, rfl, ?_⟩⟩
    cases e : Gn.iTup d with
    | false =>
      refine iteT (iteT ?_)
      have : isPathD d = false := by cases d <;> first | rfl | (exact absurd e.symm Bool.false_ne_true)
      have k := k _ (Same.refl _)
      rw [this] at k
      exact k
    | true =>
      refine iteF ?_
      obtain ⟨ds, rfl⟩ := tup_of e
      cases hd with
      | @tup a xs _ ha hA =>
      have hl := hA.length
      obtain ⟨hz1, hz2⟩ := small_seq hz rfl
      refine ⟨_, rfl, q_lenSq (.inr (SqT.of ha)) ⟨_, rfl, rfl, q_eqi ⟨_, rfl, if_b (fun e1 => ?_) (fun e1 => ?_)⟩⟩⟩
      · have e1 := of_decide_eq_true e1
        have : isPathD (.tuple ds) = false := by
          rw [isPathD, decide_eq_false (by omega), Bool.false_and]
        have k := k _ (Same.refl _)
        rw [this] at k
        exact k
      · have e1 := of_decide_eq_false e1
        have od : ds.length % 2 = 1 := by omega
        refine ⟨_, rfl, a, xs, rfl, .inr (SqT.of ha), fun J G hG wk Dd hDd => ?_⟩
        refine comp_map (G := G) (Y := YAt xs) ds (fun d => V.bl (partB d)) (by rw [← hl]; exact wk) hDd (sz2 hz1) (fun H' s' => hG H' fun o e => s' _ _ e) ?_ ?_
        · rintro i dd y H1 H2 R hi s1 ⟨rfl, hx⟩ hR
          obtain ⟨d', e', hd'⟩ := hA.at' hx
          rw [hi] at e'
          cases e'
          refine ⟨rfl, _, rfl, _, _, rfl, Is.same s1 hd', ⟨_, rfl, if_b (fun e2 => ?_) (fun e2 => ?_)⟩⟩
          · obtain ⟨n, rfl⟩ := int_of e2
            cases hd'
            exact ⟨_, rfl, _, _, rfl, rfl, hR _ (Same.refl _)⟩
          · have : partB dd = false := by
              cases dd <;> first | rfl | (exact absurd e2.symm Bool.false_ne_true)
            have := hR _ (Same.refl _)
            simp_all
        · intro H1 s1 hl1
          rw [show ds.map (fun d => V.bl (partB d)) = (ds.map partB).map V.bl by rw [List.map_map]; rfl] at hl1
          refine ⟨Dd, _, rfl, SqL.of hl1, ?_⟩
          rw [List.all_map]
          have := k _ s1
          rw [isPathD, decide_eq_true od, Bool.true_and] at this
          exact this
end
end K14
set_option Elab.async false
set_option linter.all false
set_option maxRecDepth 100000
set_option maxHeartbeats 4000000
/-! ## Paths into rows, as data -/
namespace Rw
open PySem PySem.Spec L2 Quiet Gn

/-- a range by steps of two -/
theorem rg_two {j : Int} {m : Nat} (h0 : -1 ≤ j) (h1 : j ≤ 1000001) (e : (m : Int) = (j + 1) / 2) : RgC 0 j 2 m := by
  have e2 : Builtin.Range.rangeSize 0 j 2 = (m : Int) := by
    unfold Builtin.Range.rangeSize
    rw [if_pos (by decide)]
    split <;> omega
  refine ⟨by decide, by decide, ?_, e2⟩
  unfold Builtin.Range.small
  rw [e2]
  simp only [Builtin.Range.rangeFitsLong, Bool.and_eq_true, Bool.or_eq_true, decide_eq_true_eq, beq_iff_eq, show ((2 : Int) > 0) = True from eq_true (by decide), if_true]
  omega

def getI {α : Type} (xs : List α) (k : Int) : Option α := if 0 ≤ k then xs[k.toNat]? else none
theorem getI_nat {α : Type} {xs : List α} {k : Nat} : getI xs (k : Int) = xs[k]? := by
  rw [getI, if_pos (Int.natCast_nonneg _), Int.toNat_natCast]
theorem getI_some {α : Type} {xs : List α} {k : Int} {x : α} (h : getI xs k = some x) : ∃ n : Nat, k = n ∧ xs[n]? = some x := by
  unfold getI at h
  by_cases e : 0 ≤ k
  · rw [if_pos e] at h
    exact ⟨_, (Int.toNat_of_nonneg e).symm, h⟩
  · rw [if_neg e] at h
    cases h
/-- the list of rows where a path ends, and its last place -/
def walkR : List PyData → List Int → Option (List PyData × Int)
  | _, [] => none
  | rows, [k] => some (rows, k)
  | rows, k :: j :: r => match getI rows k with
    | none => none
    | some row => match getI (bodiesD row) j with
      | none => none
      | some b => walkR b r
def intsD : PyData → List Int
  | .tuple ds => ds.map fun | .int n => n | _ => 0
  | _ => []
/-- a path of rows: all there, and at its end b more places -/
def endB (b : Nat) : Option (List PyData × Int) → Bool
  | some (rows, k) => decide (0 ≤ k) && decide (k < ((rows.length + b : Nat) : Int))
  | none => false
/-- the rows with many rows replaced behind a path -/
def editD : List PyData → List Int → Nat → List PyData → List PyData
  | rows, [], _, _ => rows
  | rows, [k], many, new => rows.take k.toNat ++ (new ++ rows.drop (k.toNat + many))
  | rows, k :: j :: r, many, new =>
    let row := rows.getD k.toNat .none
    let inner := bodiesD row
    rows.take k.toNat ++ (withD row (inner.set j.toNat (editD (inner.getD j.toNat []) r many new)) :: rows.drop (k.toNat + 1))
theorem walk_two {rows : List PyData} {k j : Int} {r : List Int} {x : List PyData × Int} (h : walkR rows (k :: j :: r) = some x) :
    ∃ (a b : Nat) (row : PyData) (bd : List PyData), k = a ∧ j = b ∧ rows[a]? = some row ∧ (bodiesD row)[b]? = some bd ∧ walkR bd r = some x := by
  unfold walkR at h
  cases e : getI rows k with
  | none => rw [e] at h; cases h
  | some row =>
  rw [e] at h
  cases e2 : getI (bodiesD row) j with
  | none => simp [e2] at h
  | some b =>
  simp only [e2] at h
  obtain ⟨a, rfl, e⟩ := getI_some e
  obtain ⟨c, rfl, e2⟩ := getI_some e2
  exact ⟨a, c, row, b, rfl, rfl, e, e2, h⟩
theorem walk_last {rows : List PyData} : ∀ {p : List Int}, (∃ x, walkR rows p = some x) → p.length % 2 = 1
  | [], ⟨x, h⟩ => by cases h
  | [k], _ => rfl
  | k :: j :: r, ⟨x, h⟩ => by
    obtain ⟨a, b, row, bd, _, _, _, _, h⟩ := walk_two h
    have := walk_last ⟨x, h⟩
    simp only [List.length_cons]
    omega
/-- the rows at a path's end are rows -/
theorem walk_ok : ∀ {p : List Int} {rows : List PyData} {x : List PyData × Int}, (∀ r ∈ rows, RowOk r) → walkR rows p = some x → ∀ r ∈ x.1, RowOk r
  | [], _, _, _, h => by cases h
  | [k], rows, x, hr, h => by
    cases h
    exact hr
  | k :: j :: r, rows, x, hr, h => by
    obtain ⟨a, b, row, bd, _, _, e1, e2, h⟩ := walk_two h
    exact walk_ok ((hr row (List.mem_of_getElem? e1)).body bd (List.mem_of_getElem? e2)) h
theorem walk_step {rows : List PyData} {k j : Int} {r : List Int} {row : PyData} {b : List PyData} (h1 : getI rows k = some row) (h2 : getI (bodiesD row) j = some b) : walkR rows (k :: j :: r) = walkR b r := by
  rw [walkR]
  simp only [h1, h2]
theorem walk_no {rows : List PyData} {k j : Int} {r : List Int} (h1 : getI rows k = none) : walkR rows (k :: j :: r) = none := by
  rw [walkR]
  simp only [h1]
theorem walk_no2 {rows : List PyData} {k j : Int} {r : List Int} {row : PyData} (h1 : getI rows k = some row) (h2 : getI (bodiesD row) j = none) : walkR rows (k :: j :: r) = none := by
  rw [walkR]
  simp only [h1, h2]
/-- a row weighs no more than the rows it stands in -/
theorem small_row {rows : List PyData} (h : Small (.tuple rows)) {r : PyData} (hr : r ∈ rows) : Small r := (small_seq h rfl).2 r hr
end Rw
namespace Rw
open PySem PySem.Spec L2 Quiet Gn
theorem wt_body {d : PyData} (h : RowOk d) : ∀ b ∈ bodiesD d, (PyData.tuple b).weight ≤ d.weight := by
  intro b hb
  cases h with
  | leaf hk hx =>
    rw [b_leaf hk] at hb
    cases hb
  | @doo s hs cs hn h =>
    rw [b_do] at hb
    obtain ⟨c, hc, rfl⟩ := List.mem_map.mp hb
    have := mem_weight (List.mem_map_of_mem (f := doC) hc)
    simp only [doC, PyData.weightAll, PyData.weight] at this ⊢
    omega
  | iff ha hy hn =>
    rw [b_if] at hb
    simp only [List.mem_cons, List.not_mem_nil, or_false] at hb
    rcases hb with rfl | rfl <;> (simp only [PyData.weightAll, PyData.weight]; omega)
  | loop hk hl hb' =>
    rw [b_loop hk] at hb
    rw [List.mem_singleton.mp hb]
    simp only [PyData.weightAll, PyData.weight]
    omega
  | @trr b' e hb' cs hn h he =>
    rw [b_try] at hb
    rcases List.mem_cons.mp hb with rfl | hb
    · simp only [PyData.weightAll, PyData.weight]
      omega
    · rcases List.mem_append.mp hb with hb | hb
      · obtain ⟨c, hc, rfl⟩ := List.mem_map.mp hb
        have := mem_weight (List.mem_map_of_mem (f := trC) hc)
        simp only [trC, PyData.weightAll, PyData.weight] at this ⊢
        omega
      · rw [List.mem_singleton.mp hb]
        simp only [PyData.weightAll, PyData.weight]
        omega
theorem small_body {d : PyData} (h : RowOk d) (hz : Small d) {b : List PyData} (hb : b ∈ bodiesD d) : Small (.tuple b) := Nat.le_trans (wt_body h b hb) hz
end Rw
set_option Elab.async false
set_option linter.all false
set_option maxRecDepth 100000
set_option maxHeartbeats 4000000
namespace K14
open PySem PySem.Spec L2 Quiet Gn Rw

theorem path_nats : ∀ {ds : List PyData}, ds.all partB = true → ∃ ns : List Nat, ds = ns.map fun n : Nat => PyData.int (n : Int)
  | [], _ => ⟨[], rfl⟩
  | d :: ds, h => by
    rw [List.all_cons, Bool.and_eq_true] at h
    obtain ⟨n, rfl⟩ := part_int h.1
    obtain ⟨ns, rfl⟩ := path_nats h.2
    exact ⟨n :: ns, rfl⟩
theorem are_nats {H : Hp} : ∀ {ns : List Nat} {xs : List V}, Are H xs (ns.map fun n : Nat => PyData.int (n : Int)) → xs = ns.map fun n : Nat => V.int (n : Int)
  | [], _, h => by cases h; rfl
  | n :: ns, _, h => by
    cases h with
    | cons a b =>
    cases a
    rw [are_nats b]
    rfl
theorem ints_nats {ns : List Nat} : intsD (.tuple (ns.map fun n : Nat => PyData.int (n : Int))) = ns.map fun n : Nat => (n : Int) := by
  show (ns.map _).map _ = _
  rw [List.map_map]
  rfl
theorem drop_two {α : Type} {xs : List α} {i : Nat} {a b : α} (h1 : xs[2 * i]? = some a) (h2 : xs[2 * i + 1]? = some b) : xs.drop (2 * i) = a :: b :: xs.drop (2 * (i + 1)) := by
  have l1 : 2 * i < xs.length := (List.getElem?_eq_some_iff.mp h1).1
  have l2 : 2 * i + 1 < xs.length := (List.getElem?_eq_some_iff.mp h2).1
  rw [List.drop_eq_getElem_cons l1, List.drop_eq_getElem_cons l2]
  rw [List.getElem?_eq_getElem l1] at h1
  rw [List.getElem?_eq_getElem l2] at h2
  cases h1
  cases h2
  rfl
/-- what body_at tells -/
def bodyAt (rows : List PyData) (d : PyData) : Option (List PyData × Int) := if isPathD d = true then walkR rows (intsD d) else none
def RowsAt (H : Hp) (v : V) (rows : List PyData) : Prop := Is H v (.tuple rows) ∧ (∀ r ∈ rows, RowOk r) ∧ Small (.tuple rows)
theorem RowsAt.same {H H' : Hp} {v : V} {rows : List PyData} (s : Same H H') (h : RowsAt H v rows) : RowsAt H' v rows := ⟨Is.same s h.1, h.2⟩
def spBodyAt : Sp := fun vs H Q _ => ∃ (v p : V) (rows : List PyData) (d : PyData), vs = [v, p] ∧ RowsAt H v rows ∧ Is H p d ∧ Small d ∧
  (∀ H', Same H H' → bodyAt rows d = none → Q .non H') ∧ ∀ (u : V) (H' : Hp) (x : List PyData × Int), Same H H' → bodyAt rows d = some x → RowsAt H' u x.1 → Q u H'
section
variable {P : Program} {w : World} {K : PySem.W.Frag} {mg : Str → Option Value} {base : Heap} {A : Ad} {D : Fd}
theorem ok_body_at (T : Txt K mg A D) : FnOk P w K mg base CX0 3 A.body_at D.body_at ["rows", "path"] spBodyAt := by
  refine T.f_body_at.ok sc_body_at (fun vs H Q E h => ?_) (fun cdv AA outer s H vs Q E hr h => ?_)
  · obtain ⟨v, p, rows, d, rfl, _⟩ := h
    rfl
  · obtain ⟨v, p, rows, d, rfl, hv, hd, hz, k1, k2⟩ := h
    refine ⟨_, (pss_cons (ps_if (pt_not (pt_val (pe_call (ok_is_path T) (hr.mono (by decide)) rfl T.m_is_path T.f_is_path.kp (b_is_path T) .nil pass0 (pa_cons (pv 1) pa_nil)))) (pss_one (ps_ret pe_non)) pss_nil)
  (pss_cons (ps_for PassesOwn.never rfl (pi_range3 rfl T.b_range (pa_cons pe_int (pa_cons (pe_op op_sub (pe_callB (lenK K rfl) (by rfl) T.b_len (by decide +kernel) (pa_cons (pv 1) pa_nil)) pe_int) (pa_cons pe_int pa_nil)))) (pg_name (i := 2) sc_body_at.nd rfl (Or.inl rfl))
 (pss_cons (ps_if (pt_cmpR op_ge (pe_ix (ixK K rfl) (pv 1) (pv 2) (fun _ _ => rfl)) (pe_callB (lenK K rfl) (by rfl) T.b_len (by decide +kernel) (pa_cons (pv 0) pa_nil)) (nomark _)) (pss_one (ps_ret pe_non)) pss_nil)
  (pss_cons (ps_set (i := 3) sc_body_at.nd rfl (Or.inl rfl) (by exact (pe_call (ok_bodies T) (hr.mono (by decide)) rfl T.m_bodies T.f_bodies.kp (b_bodies T) .nil pass0 (pa_cons (pe_ix (ixK K rfl) (pv 0) (pe_ix (ixK K rfl) (pv 1) (pv 2) (fun _ _ => rfl)) (fun _ _ => rfl)) pa_nil))))
  (pss_cons (ps_if (pt_cmpR op_ge (pe_ix (ixK K rfl) (pv 1) (pe_op (addK K rfl) (pv 2) pe_int) (fun _ _ => rfl)) (pe_callB (lenK K rfl) (by rfl) T.b_len (by decide +kernel) (pa_cons (pv 3) pa_nil)) (nomark _)) (pss_one (ps_ret pe_non)) pss_nil)
  (pss_one (ps_set (i := 0) sc_body_at.nd rfl (Or.inl rfl) (by exact (pe_ix (ixK K rfl) (pv 3) (pe_ix (ixK K rfl) (pv 1) (pe_op (addK K rfl) (pv 2) pe_int) (fun _ _ => rfl)) (fun _ _ => rfl)))))))))
  (pss_one (ps_ret (pv 0))))), ?_⟩
    refine ⟨_, rfl, _, _, rfl, hd, hz, fun H1 s1 => ?_⟩
    cases e : isPathD d with
    | false =>
      refine ⟨_, rfl, iteT (k1 _ s1 ?_)⟩
      rw [bodyAt, if_neg (by rw [e]; exact Bool.false_ne_true)]
    | true =>
      refine ⟨_, rfl, iteF ?_⟩
      cases d <;> first | (exact absurd e Bool.false_ne_true) | skip
      rename_i ds
      have e' := e
      rw [isPathD, Bool.and_eq_true] at e'
      obtain ⟨ns, rfl⟩ := path_nats e'.2
      have od : ns.length % 2 = 1 := by simpa using of_decide_eq_true e'.1
      cases hd with
      | @tup a xs _ ha hA =>
      have := are_nats hA
      subst this
      have lz := (small_seq hz rfl).1
      rw [List.length_map] at lz
      refine ⟨_, rfl, q_lenSq (.inr (SqT.of (s1 _ _ ha))) ⟨_, _, rfl, rfl, ?_⟩⟩
      rw [List.length_map]
      have eb : bodyAt rows (.tuple (ns.map fun n : Nat => PyData.int (n : Int))) = walkR rows (ns.map fun n : Nat => (n : Int)) := by
        rw [bodyAt, if_pos e, ints_nats]
      rw [eb] at k1 k2
      refine ⟨_, _, _, _, rfl, rg_two (m := ns.length / 2) (by omega) (by omega) (by omega), for_rangeC (fun i σ H' => ∃ (u : V) (rs : List PyData) (x2 x3 : Option V), σ = [some u, some (.ref a), x2, x3] ∧ Same H H' ∧ RowsAt H' u rs ∧
        walkR rows (ns.map fun n : Nat => (n : Int)) = walkR rs ((ns.map fun n : Nat => (n : Int)).drop (2 * i))) ⟨v, rows, none, none, rfl, s1, hv.same s1, rfl⟩ ?_ ?_⟩
      · rintro i _ H2 hi ⟨u, rs, x2, x3, rfl, s2, hu, ew⟩
        have l1 : 2 * i < ns.length := by omega
        have l2 : 2 * i + 1 < ns.length := by omega
        have g1 : (ns.map fun n : Nat => V.int (n : Int))[2 * i]? = some (V.int ((ns[2 * i] : Nat) : Int)) := by rw [List.getElem?_map, List.getElem?_eq_getElem l1]; rfl
        have g2 : (ns.map fun n : Nat => V.int (n : Int))[2 * i + 1]? = some (V.int ((ns[2 * i + 1] : Nat) : Int)) := by rw [List.getElem?_map, List.getElem?_eq_getElem l2]; rfl
        have g3 : (ns.map fun n : Nat => (n : Int))[2 * i]? = some ((ns[2 * i] : Nat) : Int) := by rw [List.getElem?_map, List.getElem?_eq_getElem l1]; rfl
        have g4 : (ns.map fun n : Nat => (n : Int))[2 * i + 1]? = some ((ns[2 * i + 1] : Nat) : Int) := by rw [List.getElem?_map, List.getElem?_eq_getElem l2]; rfl
        rw [drop_two g3 g4] at ew
        obtain ⟨hu1, hu2, hu3⟩ := hu
        cases hu1 with
        | @tup b ws _ hb hB =>
        have lw := hB.length
        refine ⟨_, rfl, _, rfl, q_ix (i := 2 * i) (.inr (SqT.of (s2 _ _ ha))) (by omega) g1 ⟨_, rfl, q_lenSq (.inr (SqT.of hb)) ⟨_, _, rfl, rfl, ⟨_, rfl, if_b (fun e1 => ?_) (fun e1 => ?_)⟩⟩⟩⟩
        · have e1 := of_decide_eq_true e1
          refine k1 _ s2 ?_
          rw [ew]
          refine walk_no ?_
          rw [getI_nat]
          exact List.getElem?_eq_none (by omega)
        · have e1 := of_decide_eq_false e1
          have l3 : ns[2 * i] < rs.length := by omega
          have l4 : ns[2 * i] < ws.length := by omega
          have g5 := List.getElem?_eq_getElem l3
          obtain ⟨row, e5, hrow⟩ := hB.at' (List.getElem?_eq_getElem l4)
          have mr := List.mem_of_getElem? e5
          refine ⟨_, rfl, _, rfl, _, rfl, q_ix (i := 2 * i) (.inr (SqT.of (s2 _ _ ha))) (by omega) g1 (q_ix (i := ns[2 * i]) (.inr (SqT.of hb)) rfl (List.getElem?_eq_getElem l4) ⟨_, row, rfl, hrow, hu2 row mr, small_row hu3 mr, fun r bs H3 s3 hn3 hr3 hA3 => ?_⟩)⟩
          have lb := hA3.length
          rw [List.length_map] at lb
          refine ⟨_, rfl, _, rfl, .inl ⟨_, _, rfl, rfl, q_ix (i := 2 * i + 1) (.inr (SqT.of (s3 _ _ (s2 _ _ ha)))) (by omega) g2 ⟨_, rfl, q_lenSq (.inl (SqL.of hr3)) ⟨_, _, rfl, rfl, ⟨_, rfl, if_b (fun e2 => ?_) (fun e2 => ?_)⟩⟩⟩⟩⟩
          · have e2 := of_decide_eq_true e2
            refine k1 _ (s2.trans s3) ?_
            rw [ew]
            refine walk_no2 (row := row) (by rw [getI_nat]; exact e5) ?_
            rw [getI_nat]
            exact List.getElem?_eq_none (by omega)
          · have e2 := of_decide_eq_false e2
            have l5 : ns[2 * i + 1] < bs.length := by omega
            obtain ⟨bd, e6, hbd⟩ := hA3.at' (List.getElem?_eq_getElem l5)
            rw [List.getElem?_map] at e6
            cases e7 : (bodiesD row)[ns[2 * i + 1]]? with
            | none => rw [e7] at e6; cases e6
            | some bd0 =>
            rw [e7] at e6
            cases e6
            have mb := List.mem_of_getElem? e7
            refine ⟨_, rfl, _, rfl, _, rfl, .inl ⟨_, _, rfl, rfl, q_ix (i := 2 * i + 1) (.inr (SqT.of (s3 _ _ (s2 _ _ ha)))) (by omega) g2 (q_ix (i := ns[2 * i + 1]) (.inl (SqL.of hr3)) rfl (List.getElem?_eq_getElem l5) ?_)⟩⟩
            refine ⟨_, bd0, _, _, rfl, s2.trans s3, ⟨hbd, (hu2 row mr).body bd0 mb, small_body (hu2 row mr) (small_row hu3 mr) mb⟩, ?_⟩
            rw [ew]
            exact walk_step (by rw [getI_nat]; exact e5) (by rw [getI_nat]; exact e7)
      · rintro _ H2 ⟨u, rs, x2, x3, rfl, s2, hu, ew⟩
        have l1 : 2 * (ns.length / 2) < ns.length := by omega
        have e8 : (ns.map fun n : Nat => (n : Int)).drop (2 * (ns.length / 2)) = [((ns[2 * (ns.length / 2)] : Nat) : Int)] := by
          rw [← List.map_drop, List.drop_eq_getElem_cons l1, List.drop_eq_nil_of_le (by omega)]
          rfl
        rw [e8] at ew
        exact ⟨_, rfl, k2 _ _ _ s2 ew hu⟩
end
end K14
set_option Elab.async false
set_option linter.all false
set_option maxRecDepth 100000
set_option maxHeartbeats 4000000
namespace K14
open PySem PySem.Spec L2 Quiet Gn Rw

theorem walk_nn {b : Nat} : ∀ {p : List Int} {rows : List PyData}, endB b (walkR rows p) = true → ∀ x ∈ p, 0 ≤ x
  | [], _, _ => fun _ h => nomatch h
  | [k], rows, h => by
    intro x hx
    rw [List.mem_singleton.mp hx]
    have h : (decide (0 ≤ k) && decide (k < ((rows.length + b : Nat) : Int))) = true := h
    rw [Bool.and_eq_true] at h
    exact of_decide_eq_true h.1
  | k :: j :: r, rows, h => by
    cases e : walkR rows (k :: j :: r) with
    | none => rw [e] at h; cases h
    | some y =>
    obtain ⟨a, c, row, bd, rfl, rfl, e1, e2, e3⟩ := walk_two e
    rw [e, ← e3] at h
    have := walk_nn h
    intro x hx
    rcases List.mem_cons.mp hx with rfl | hx
    · omega
    · rcases List.mem_cons.mp hx with rfl | hx
      · omega
      · exact this x hx
theorem ints_of : ∀ {ds : List PyData}, ds.all isInt = true → ∃ zs : List Int, ds = zs.map PyData.int
  | [], _ => ⟨[], rfl⟩
  | d :: ds, h => by
    rw [List.all_cons, Bool.and_eq_true] at h
    obtain ⟨n, rfl⟩ := int_of h.1
    obtain ⟨ns, rfl⟩ := ints_of h.2
    exact ⟨n :: ns, rfl⟩
theorem are_ints' {H : Hp} : ∀ {ns : List Int} {xs : List V}, Are H xs (ns.map PyData.int) → xs = ns.map V.int
  | [], _, h => by cases h; rfl
  | n :: ns, _, h => by
    cases h with
    | cons a b =>
    cases a
    rw [are_ints' b]
    rfl
theorem ints_map {zs : List Int} : intsD (.tuple (zs.map PyData.int)) = zs := by
  show (zs.map _).map _ = _
  rw [List.map_map]
  exact List.map_id zs
/-- a path as the law sees it -/
theorem path_law {rows : List PyData} {zs : List Int} {b : Nat} (od : zs.length % 2 = 1) : endB b (bodyAt rows (.tuple (zs.map PyData.int))) = endB b (walkR rows zs) := by
  unfold bodyAt
  by_cases e : isPathD (.tuple (zs.map PyData.int)) = true
  · rw [if_pos e, ints_map]
  · rw [if_neg e]
    cases e2 : endB b (walkR rows zs) with
    | false => rfl
    | true =>
      exfalso
      apply e
      rw [isPathD, List.length_map, decide_eq_true od, Bool.true_and, List.all_eq_true]
      intro d hd
      obtain ⟨z, hz, rfl⟩ := List.mem_map.mp hd
      exact decide_eq_true (walk_nn e2 z hz)
theorem path_not {rows : List PyData} {d : PyData} {b : Nat} (h : isPathD d = false) : endB b (bodyAt rows d) = false := by
  unfold bodyAt
  rw [if_neg (by rw [h]; exact Bool.false_ne_true)]
  rfl
def spLawPath : Sp := fun vs H Q _ => ∃ (v p : V) (rows : List PyData) (d : PyData) (b : Nat), vs = [v, p, .int (b : Int)] ∧ b ≤ 1 ∧ RowsAt H v rows ∧ Is H p d ∧ Small d ∧
  ∀ H', Same H H' → Q (.bl (endB b (bodyAt rows d))) H'
section
variable {P : Program} {w : World} {K : PySem.W.Frag} {mg : Str → Option Value} {base : Heap} {A : Ad} {D : Fd}
theorem ok__law_is_path (T : Txt K mg A D) : FnOk P w K mg base CX0 3 A._law_is_path D._law_is_path ["rows", "thing", "beyond"] spLawPath := by
  refine T.f__law_is_path.ok sc__law_is_path (fun vs H Q E h => ?_) (fun cdv AA outer s H vs Q E hr h => ?_)
  · obtain ⟨v, p, rows, d, b, rfl, _⟩ := h
    rfl
  · obtain ⟨v, p, rows, d, b, rfl, hb1, hv, hd, hz, k⟩ := h
    refine ⟨_, (pss_cons (ps_if (PW.pt (pw_or (pt_not (pt_val (pe_callB (isiK K rfl) (by rfl) T.b_isinstance (by decide +kernel) (pa_cons (pv 1) (pa_cons (pe_bltn (v := .ty "tuple") (by rfl) T.b_tuple (by decide +kernel) rfl) pa_nil))))) (pw_or (pt_cmpR (eqK K rfl (units_of hr)) (pe_op op_mod (pe_callTy call_int1 (by rfl) T.b_int (by decide +kernel) (pa_cons (pe_callB (lenK K rfl) (by rfl) T.b_len (by decide +kernel) (pa_cons (pv 1) pa_nil)) pa_nil)) pe_int) pe_int (nomark _)) (pw_or1 (pt_cmpR (op_ne0L (units_of hr)) (pe_lc (own := [("k", 3)]) rfl sc__law_is_path.nd (pi_sq K rfl (pv 1)) (blkOk_by (own := [("k", 3)]) (N := n__law_is_path) (sc := defScope s__law_is_path) (by decide +kernel)) (fun _ _ _ _ _ => (pg_name (i := 3) sc__law_is_path.nd rfl (Or.inl rfl))) (fun _ _ _ _ _ => (pts_one (pt_not (pt_val (pe_call (ok__law_is_whole T) (hr.mono (by decide)) rfl T.m__law_is_whole T.f__law_is_whole.kp (b__law_is_whole T) .nil pass0 (pa_cons (pv 3) pa_nil)))))) (fun _ _ _ _ _ => (pv 3))) (pe_lst pa_nil) (nomark _)))))) (pss_one (ps_ret pe_bl)) pss_nil)
  (pss_cons (ps_for PassesOwn.never rfl (pi_range3 rfl T.b_range (pa_cons pe_int (pa_cons (pe_callB (lenK K rfl) (by rfl) T.b_len (by decide +kernel) (pa_cons (pv 1) pa_nil)) (pa_cons pe_int pa_nil)))) (pg_name (i := 3) sc__law_is_path.nd rfl (Or.inl rfl))
 (pss_cons (ps_set (i := 4) sc__law_is_path.nd rfl (Or.inl rfl) (by exact (pe_cmpR (eqK K rfl (units_of hr)) (pv 3) (pe_op op_sub (pe_callB (lenK K rfl) (by rfl) T.b_len (by decide +kernel) (pa_cons (pv 1) pa_nil)) pe_int) (nomark _))))
  (pss_cons (ps_if (pt_not (pt_chain op_le op_lt pe_int (pe_ix (ixK K rfl) (pv 1) (pv 3) (fun _ _ => rfl)) (pe_op (addK K rfl) (pe_callB (lenK K rfl) (by rfl) T.b_len (by decide +kernel) (pa_cons (pv 0) pa_nil)) (pe_op (mulK K rfl) (pv 2) (pe_callTy call_int1 (by rfl) T.b_int (by decide +kernel) (pa_cons (pv 4) pa_nil)))))) (pss_one (ps_ret pe_bl)) pss_nil)
  (pss_one (ps_if (pt_not (pt_truth (pv 4) (by intro _; rfl))) (pss_cons (ps_set (i := 5) sc__law_is_path.nd rfl (Or.inl rfl) (by exact (pe_call (ok__law_bodies T) (hr.mono (by decide)) rfl T.m__law_bodies T.f__law_bodies.kp (b__law_bodies T) .nil pass0 (pa_cons (pe_ix (ixK K rfl) (pv 0) (pe_ix (ixK K rfl) (pv 1) (pv 3) (fun _ _ => rfl)) (fun _ _ => rfl)) pa_nil))))
  (pss_cons (ps_if (pt_not (pt_chain op_le op_lt pe_int (pe_ix (ixK K rfl) (pv 1) (pe_op (addK K rfl) (pv 3) pe_int) (fun _ _ => rfl)) (pe_callB (lenK K rfl) (by rfl) T.b_len (by decide +kernel) (pa_cons (pv 5) pa_nil)))) (pss_one (ps_ret pe_bl)) pss_nil)
  (pss_one (ps_set (i := 0) sc__law_is_path.nd rfl (Or.inl rfl) (by exact (pe_ix (ixK K rfl) (pv 5) (pe_ix (ixK K rfl) (pv 1) (pe_op (addK K rfl) (pv 3) pe_int) (fun _ _ => rfl)) (fun _ _ => rfl))))))) pss_nil)))))
  (pss_one (ps_ret pe_bl)))), ?_⟩
    refine ⟨_, rfl, q_isi hd (k_tup d) ⟨_, rfl, ?_⟩⟩
    cases e : Gn.iTup d with
    | false =>
      refine iteT (iteT ?_)
      have : isPathD d = false := by cases d <;> first | rfl | (exact absurd e.symm Bool.false_ne_true)
      have k := k _ (Same.refl _)
      rw [path_not this] at k
      exact k
    | true =>
      refine iteF ?_
      obtain ⟨ds, rfl⟩ := tup_of e
      cases hd with
      | @tup a xs _ ha hA =>
      have hl := hA.length
      obtain ⟨hz1, hz2⟩ := small_seq hz rfl
      refine ⟨_, rfl, q_lenSq (.inr (SqT.of ha)) (.inl ⟨_, rfl, ⟨_, _, rfl, rfl, (by decide : (0 : Int) < 2), q_eqi ⟨_, rfl, if_b (fun e1 => ?_) (fun e1 => ?_)⟩⟩⟩)⟩
      · have e1 := of_decide_eq_true e1
        have : isPathD (.tuple ds) = false := by
          rw [isPathD, decide_eq_false (by omega), Bool.false_and]
        have k := k _ (Same.refl _)
        rw [path_not this] at k
        exact iteT k
      · have e1 := of_decide_eq_false e1
        have od : ds.length % 2 = 1 := by omega
        refine ⟨_, rfl, a, xs, rfl, .inr (SqT.of ha), fun J G hG wk Dd hDd => ?_⟩
        refine comp_fm (G := G) (Y := YAt xs) (xs.zip ds) (fun x => if isInt x.2 then none else some x.1) (by rw [zip_len hl]; exact wk) hDd (sz2 (by rw [zip_len hl]; omega)) (fun H' s' => hG H' fun o e => s' _ _ e) ?_ ?_
        · rintro i ⟨u, dd⟩ y H1 H2 R hi s1 ⟨rfl, hx⟩ hR
          obtain ⟨z1, z2⟩ := zip_at hi
          rw [z1] at hx
          cases hx
          obtain ⟨d', e', hd'⟩ := hA.at' z1
          rw [z2] at e'
          cases e'
          refine ⟨rfl, _, rfl, u, dd, rfl, Is.same s1 hd', ⟨_, rfl, if_b (fun e3 => ?_) (fun e3 => ?_)⟩⟩
          · have e4 : isInt dd = false := by simpa using e3
            have := hR _ (Same.refl _)
            rw [if_neg (by rw [e4]; exact Bool.false_ne_true)] at this
            exact ⟨_, rfl, this⟩
          · have e4 : isInt dd = true := by simpa using e3
            have := hR _ (Same.refl _)
            rw [if_pos e4] at this
            exact this
        · intro H1 s1 hl1
          refine ⟨Nat.zero_le _, fun q hq => ⟨Dd, q, _, rfl, rfl, same_upd hq _ _ hl1, upd_same, ?_⟩⟩
          rw [fm_none (fun x : V × PyData => isInt x.2), zip_all isInt hl]
          have s2 : Same H (upd H1 q (.lst [])) := s1.trans (same_upd hq)
          generalize upd H1 q (.lst []) = H2 at s2 ⊢
          cases ai : ds.all isInt with
          | false =>
            refine ⟨_, rfl, iteT ?_⟩
            have : isPathD (.tuple ds) = false := by
              cases e5 : isPathD (.tuple ds) with
              | false => rfl
              | true =>
                exfalso
                rw [isPathD, Bool.and_eq_true] at e5
                obtain ⟨ns, rfl⟩ := path_nats e5.2
                rw [List.all_map] at ai
                have : ns.all (isInt ∘ fun n : Nat => PyData.int (n : Int)) = true := List.all_eq_true.mpr fun _ _ => rfl
                rw [this] at ai
                cases ai
            have k := k _ s2
            rw [path_not this] at k
            exact k
          | true =>
            refine ⟨_, rfl, iteF ?_⟩
            obtain ⟨zs, rfl⟩ := ints_of ai
            have := are_ints' hA
            subst this
            rw [List.length_map] at od hz1
            rw [path_law od] at k
            refine ⟨_, rfl, q_lenSq (.inr (SqT.of (s2 _ _ ha))) ?_⟩
            rw [List.length_map]
            refine ⟨_, _, _, _, rfl, rg_two (m := (zs.length + 1) / 2) (by omega) (by omega) (by omega), for_rangeC (fun i σ H' => ∃ (u : V) (rs : List PyData) (x3 x4 x5 : Option V), σ = [some u, some (.ref a), some (.int (b : Int)), x3, x4, x5] ∧ Same H H' ∧ RowsAt H' u rs ∧
              (i < (zs.length + 1) / 2 → walkR rows zs = walkR rs (zs.drop (2 * i))) ∧ ((zs.length + 1) / 2 ≤ i → endB b (walkR rows zs) = true)) ⟨v, rows, none, none, none, rfl, s2, hv.same s2, fun _ => rfl, fun h => absurd h (by omega)⟩ ?_ ?_⟩
            · rintro i _ H3 hi ⟨u, rs, x3, x4, x5, rfl, s3, hu, ew, -⟩
              have ew := ew hi
              have l1 : 2 * i < zs.length := by omega
              have g1 : (zs.map V.int)[2 * i]? = some (V.int zs[2 * i]) := by rw [List.getElem?_map, List.getElem?_eq_getElem l1]; rfl
              obtain ⟨hu1, hu2, hu3⟩ := hu
              cases hu1 with
              | @tup c ws _ hc hC =>
              have lw := hC.length
              refine ⟨_, rfl, _, rfl, q_lenSq (.inr (SqT.of (s3 _ _ ha))) ⟨_, _, rfl, rfl, q_eqi ?_⟩⟩
              rw [List.length_map]
              have eL : decide ((0 : Int) + (i : Int) * 2 = (zs.length : Int) - 1) = decide (2 * i + 1 = zs.length) := by
                by_cases h : 2 * i + 1 = zs.length
                · rw [decide_eq_true h, decide_eq_true (by omega)]
                · rw [decide_eq_false h, decide_eq_false (by omega)]
              rw [eL]
              refine ⟨_, rfl, _, rfl, q_ix (i := 2 * i) (.inr (SqT.of (s3 _ _ ha))) (by omega) g1 ⟨_, _, rfl, rfl, ⟨_, rfl, if_b (fun e1 => ?_) (fun e1 => ?_)⟩⟩⟩
              rotate_left
              · have e1 := of_decide_eq_false e1
                have := k _ s3
                have en : endB b (walkR rows zs) = false := by
                  cases e2 : endB b (walkR rows zs) with
                  | false => rfl
                  | true =>
                    exfalso
                    exact e1 (walk_nn e2 _ (List.getElem_mem l1))
                rw [en] at this
                exact ⟨_, rfl, iteT this⟩
              · have e1 := of_decide_eq_true e1
                obtain ⟨n, en⟩ := Int.eq_ofNat_of_zero_le e1
                refine ⟨_, rfl, q_lenSq (.inr (SqT.of hc)) ⟨_, rfl, _, rfl, .inr ⟨_, rfl, .inl ⟨_, _, rfl, rfl, .inl ⟨by omega, by omega⟩, .inl ⟨_, _, rfl, rfl, ⟨_, _, rfl, rfl, ⟨_, rfl, ?_⟩⟩⟩⟩⟩⟩⟩
                by_cases hL : 2 * i + 1 = zs.length
                · rw [decide_eq_true hL]
                  have ez : zs.drop (2 * i) = [zs[2 * i]] := by
                    rw [List.drop_eq_getElem_cons l1, List.drop_eq_nil_of_le (by omega)]
                  rw [ez] at ew
                  have ee : endB b (walkR rows zs) = decide (zs[2 * i] < (ws.length : Int) + (b : Int) * (if (true : Bool) = true then 1 else 0)) := by
                    rw [ew]
                    show (decide (0 ≤ zs[2 * i]) && decide (zs[2 * i] < ((rs.length + b : Nat) : Int))) = _
                    rw [decide_eq_true e1, Bool.true_and, if_pos rfl, lw]
                    congr 1
                    simp
                  rw [← ee]
                  cases e3 : endB b (walkR rows zs) with
                  | false =>
                    have := k _ s3
                    rw [e3] at this
                    exact iteT this
                  | true =>
                    refine iteF ⟨_, rfl, true, ?_, iteF ⟨_, _, _, _, _, rfl, s3, ⟨.tup hc hC, hu2, hu3⟩, fun h => absurd h (by omega), fun _ => rfl⟩⟩
                    rfl
                · rw [decide_eq_false hL]
                  have l2 : 2 * i + 1 < zs.length := by omega
                  have g2 : (zs.map V.int)[2 * i + 1]? = some (V.int zs[2 * i + 1]) := by rw [List.getElem?_map, List.getElem?_eq_getElem l2]; rfl
                  rw [drop_two (List.getElem?_eq_getElem l1) (List.getElem?_eq_getElem l2)] at ew
                  have ec : ((ws.length : Int) + (b : Int) * (if (false : Bool) = true then 1 else 0)) = (ws.length : Int) := by
                    rw [if_neg Bool.false_ne_true]
                    simp
                  rw [ec]
                  cases e3 : decide (zs[2 * i] < (ws.length : Int)) with
                  | false =>
                    have e3 := of_decide_eq_false e3
                    have := k _ s3
                    rw [ew, walk_no (by rw [en]; exact getI_nat.trans (List.getElem?_eq_none (by omega)))] at this
                    exact iteT this
                  | true =>
                    have e3 := of_decide_eq_true e3
                    have l4 : n < ws.length := by omega
                    obtain ⟨row, e5, hrow⟩ := hC.at' (List.getElem?_eq_getElem l4)
                    have mr := List.mem_of_getElem? e5
                    have eg : getI rs zs[2 * i] = some row := by
                      rw [en]
                      exact getI_nat.trans e5
                    refine iteF ⟨_, rfl, false, rfl, iteT ⟨_, rfl, _, rfl, _, rfl, q_ix (i := 2 * i) (.inr (SqT.of (s3 _ _ ha))) (by omega) g1 (q_ix (i := n) (.inr (SqT.of hc)) en (List.getElem?_eq_getElem l4) ⟨_, row, rfl, hrow, hu2 row mr, small_row hu3 mr, fun r bs H4 s4 hn4 hr4 hA4 => ?_⟩)⟩⟩
                    have lb := hA4.length
                    rw [List.length_map] at lb
                    refine ⟨_, rfl, _, rfl, .inl ⟨_, _, rfl, rfl, q_ix (i := 2 * i + 1) (.inr (SqT.of (s4 _ _ (s3 _ _ ha)))) (by omega) g2 ⟨_, _, rfl, rfl, ⟨_, rfl, if_b (fun e6 => ?_) (fun e6 => ?_)⟩⟩⟩⟩
                    rotate_left
                    · have e6 := of_decide_eq_false e6
                      have := k _ (s3.trans s4)
                      have en : endB b (walkR rows zs) = false := by
                        cases e2 : endB b (walkR rows zs) with
                        | false => rfl
                        | true =>
                          exfalso
                          exact e6 (walk_nn e2 _ (List.getElem_mem l2))
                      rw [en] at this
                      exact ⟨_, rfl, iteT this⟩
                    · have e6 := of_decide_eq_true e6
                      obtain ⟨m, em⟩ := Int.eq_ofNat_of_zero_le e6
                      refine ⟨_, rfl, q_lenSq (.inl (SqL.of hr4)) ⟨_, _, rfl, rfl, ⟨_, rfl, ?_⟩⟩⟩
                      cases e7 : decide (zs[2 * i + 1] < (bs.length : Int)) with
                      | false =>
                        have e7 := of_decide_eq_false e7
                        have := k _ (s3.trans s4)
                        rw [ew, walk_no2 eg (by rw [em]; exact getI_nat.trans (List.getElem?_eq_none (by omega)))] at this
                        exact iteT this
                      | true =>
                        have e7 := of_decide_eq_true e7
                        have l5 : m < bs.length := by omega
                        obtain ⟨bd, e8, hbd⟩ := hA4.at' (List.getElem?_eq_getElem l5)
                        rw [List.getElem?_map] at e8
                        cases e9 : (bodiesD row)[m]? with
                        | none => rw [e9] at e8; cases e8
                        | some bd0 =>
                        rw [e9] at e8
                        cases e8
                        have mb := List.mem_of_getElem? e9
                        refine iteF ⟨_, rfl, _, rfl, _, rfl, .inl ⟨_, _, rfl, rfl, q_ix (i := 2 * i + 1) (.inr (SqT.of (s4 _ _ (s3 _ _ ha)))) (by omega) g2 (q_ix (i := m) (.inl (SqL.of hr4)) em (List.getElem?_eq_getElem l5) ?_)⟩⟩
                        refine ⟨_, bd0, _, _, _, rfl, s3.trans s4, ⟨hbd, (hu2 row mr).body bd0 mb, small_body (hu2 row mr) (small_row hu3 mr) mb⟩, fun _ => ?_, fun h => absurd h (by omega)⟩
                        rw [ew]
                        exact walk_step eg (by rw [em]; exact getI_nat.trans e9)
            · rintro _ H3 ⟨u, rs, x3, x4, x5, rfl, s3, hu, -, ee⟩
              have k := k _ s3
              rw [ee (Nat.le_refl _)] at k
              exact k
end
end K14
set_option Elab.async false
set_option linter.all false
set_option maxRecDepth 100000
set_option maxHeartbeats 4000000
namespace K14
open PySem PySem.Spec L2 Quiet Gn Rw

theorem tup_free {H : Hp} {r a : Addr} {bs xs : List V} (hr : H r = some (.lst bs)) (ha : H a = some (.tup xs)) : hide (but r) H a = some (.tup xs) := by
  rw [hide_ne]
  · exact ha
  · have : a ≠ r := fun e => by rw [e, hr] at ha; cases ha
    simp [this]
theorem are_imp {H H' : Hp} : ∀ {ds : List PyData} {vs : List V}, (∀ d ∈ ds, ∀ v, Is H v d → Is H' v d) → Are H vs ds → Are H' vs ds
  | [], _, _, h => by cases h; exact .nil
  | d :: ds, _, k, h => by
    cases h with
    | cons a b => exact .cons (k d List.mem_cons_self _ a) (are_imp (fun e he => k e (List.mem_cons_of_mem _ he)) b)
theorem are_strs {H H' : Hp} : ∀ {ks : List Str} {vs : List V}, Are H vs (ks.map PyData.str) → Are H' vs (ks.map PyData.str)
  | [], _, h => by cases h; exact .nil
  | d :: ds, _, h => by
    cases h with
    | cons a b =>
    cases a
    exact .cons (.str _) (are_strs b)
/-- rows have no lists in them -/
theorem row_free {H : Hp} {r : Addr} {bs : List V} (hr : H r = some (.lst bs)) {d : PyData} (ro : RowOk d) : ∀ v, Is H v d → Is (hide (but r) H) v d := by
  induction ro with
  | leaf hk hx =>
    intro v hd
    cases hd with
    | tup ha t =>
    cases t with
    | cons t1 t =>
    cases t with
    | cons t2 t =>
    cases t
    cases t1
    cases t2
    exact .tup (tup_free hr ha) (.cons (.str _) (.cons (.str _) .nil))
  | @doo s hs cs hn h ih =>
    intro v hd
    cases hd with
    | tup ha t =>
    cases t with
    | cons t1 t =>
    cases t with
    | cons t2 t =>
    cases t with
    | cons t3 t =>
    cases t
    cases t1
    cases t2
    cases t3 with
    | tup hc u =>
    refine .tup (tup_free hr ha) (.cons (.str _) (.cons (.str _) (.cons (.tup (tup_free hr hc) (are_imp ?_ u)) .nil)))
    intro d hd v' hv'
    obtain ⟨c, hc, rfl⟩ := List.mem_map.mp hd
    cases hv' with
    | tup e t =>
    cases t with
    | cons t1 t =>
    cases t with
    | cons t2 t =>
    cases t
    cases t1
    cases t2 with
    | tup e2 t2 =>
    exact .tup (tup_free hr e) (.cons (.str _) (.cons (.tup (tup_free hr e2) (are_imp (ih c hc) t2)) .nil))
  | iff ha0 hy hn ih1 ih2 =>
    intro v hd
    cases hd with
    | tup ha t =>
    cases t with
    | cons t1 t =>
    cases t with
    | cons t2 t =>
    cases t with
    | cons t3 t =>
    cases t with
    | cons t4 t =>
    cases t
    cases t1
    cases t2
    cases t3 with
    | tup e3 t3 =>
    cases t4 with
    | tup e4 t4 =>
    exact .tup (tup_free hr ha) (.cons (.str _) (.cons (.str _) (.cons (.tup (tup_free hr e3) (are_imp ih1 t3)) (.cons (.tup (tup_free hr e4) (are_imp ih2 t4)) .nil))))
  | loop hk hl hb ih =>
    intro v hd
    cases hd with
    | tup ha t =>
    cases t with
    | cons t1 t =>
    cases t with
    | cons t2 t =>
    cases t with
    | cons t3 t =>
    cases t
    cases t1
    cases t2
    cases t3 with
    | tup e3 t3 =>
    exact .tup (tup_free hr ha) (.cons (.str _) (.cons (.str _) (.cons (.tup (tup_free hr e3) (are_imp ih t3)) .nil)))
  | @trr b e hb cs hn h he ih1 ih2 ih3 =>
    intro v hd
    cases hd with
    | tup ha t =>
    cases t with
    | cons t1 t =>
    cases t with
    | cons t2 t =>
    cases t with
    | cons t3 t =>
    cases t with
    | cons t4 t =>
    cases t
    cases t1
    cases t2 with
    | tup e2 t2 =>
    cases t3 with
    | tup hc u =>
    cases t4 with
    | tup e4 t4 =>
    refine .tup (tup_free hr ha) (.cons (.str _) (.cons (.tup (tup_free hr e2) (are_imp ih1 t2)) (.cons (.tup (tup_free hr hc) (are_imp ?_ u)) (.cons (.tup (tup_free hr e4) (are_imp ih3 t4)) .nil))))
    intro d hd v' hv'
    obtain ⟨c, hc, rfl⟩ := List.mem_map.mp hd
    cases hv' with
    | tup e t =>
    cases t with
    | cons t1 t =>
    cases t with
    | cons t2 t =>
    cases t
    cases t1 with
    | tup e1 t1 =>
    cases t2 with
    | tup e2 t2 =>
    exact .tup (tup_free hr e) (.cons (.tup (tup_free hr e1) (are_strs t1)) (.cons (.tup (tup_free hr e2) (are_imp (ih2 c hc) t2)) .nil))
theorem rows_free {H : Hp} {r : Addr} {bs : List V} (hr : H r = some (.lst bs)) {ds : List PyData} (ro : ∀ d ∈ ds, RowOk d) {v : V} (h : Is H v (.tuple ds)) : Is (hide (but r) H) v (.tuple ds) := by
  cases h with
  | tup e t => exact .tup (tup_free hr e) (are_imp (fun d hd => row_free hr (ro d hd)) t)
theorem bodies_free {H : Hp} {r : Addr} {bs vs : List V} (hr : H r = some (.lst bs)) {ss : List (List PyData)} (ro : ∀ s ∈ ss, ∀ d ∈ s, RowOk d) (h : Are H vs (ss.map .tuple)) : Are (hide (but r) H) vs (ss.map .tuple) := by
  refine are_imp (fun d hd v hv => ?_) h
  obtain ⟨s, hs, rfl⟩ := List.mem_map.mp hd
  exact rows_free hr (ro s hs) hv
theorem mem_zip2 {α β γ : Type} {f : α → β → γ} : ∀ {as : List α} {bs : List β} {x : γ}, x ∈ List.zipWith f as bs → ∃ a ∈ as, ∃ b ∈ bs, x = f a b
  | [], _, _, h => by simp at h
  | _ :: _, [], _, h => by simp at h
  | a :: as, b :: bs, x, h => by
    rw [List.zipWith_cons_cons] at h
    rcases List.mem_cons.mp h with rfl | h
    · exact ⟨a, List.mem_cons_self, b, List.mem_cons_self, rfl⟩
    · obtain ⟨a', ha, b', hb, e⟩ := mem_zip2 h
      exact ⟨a', List.mem_cons_of_mem _ ha, b', List.mem_cons_of_mem _ hb, e⟩
theorem getD_mem {α : Type} {xs : List α} {i : Nat} {d : α} (h : i < xs.length) : xs.getD i d ∈ xs := by
  rw [List.getD_eq_getElem?_getD, List.getElem?_eq_getElem h]
  exact List.getElem_mem h
theorem getD_of {α : Type} {xs : List α} {i : Nat} {d x : α} (h : xs[i]? = some x) : xs.getD i d = x := by
  rw [List.getD_eq_getElem?_getD, h]
  rfl
theorem zip_do {cs : List (Str × List PyData)} {ss : List (List PyData)} : List.zipWith (fun c s => PyData.tuple [nth c 0, .tuple s]) (cs.map doC) ss = (List.zipWith (fun (c : Str × List PyData) s => (c.1, s)) cs ss).map doC := by
  rw [List.zipWith_map_left, List.map_zipWith]
  rfl
theorem zip_try {cs : List (List Str × List PyData)} {ss : List (List PyData)} : List.zipWith (fun c s => PyData.tuple [nth c 0, .tuple s]) (cs.map trC) ss = (List.zipWith (fun (c : List Str × List PyData) s => (c.1, s)) cs ss).map trC := by
  rw [List.zipWith_map_left, List.map_zipWith]
  rfl
/-- a row with other rows in it is a row -/
theorem row_with {d : PyData} {ss : List (List PyData)} (h : RowOk d) (hl : ss.length = (bodiesD d).length) (hs : ∀ s ∈ ss, ∀ r ∈ s, RowOk r) : RowOk (withD d ss) := by
  cases h with
  | leaf hk hx =>
    rw [w_leaf hk]
    exact .leaf hk hx
  | @doo s hn cs hc h =>
    rw [w_do, zip_do]
    refine .doo hn (fun c hc' => ?_) fun c hc' => ?_
    · obtain ⟨a, ha, b, hb, rfl⟩ := mem_zip2 hc'
      exact hc a ha
    · obtain ⟨a, ha, b, hb, rfl⟩ := mem_zip2 hc'
      exact hs b hb
  | iff ha hy hn =>
    rw [b_if] at hl
    rw [w_if]
    exact .iff ha (hs _ (getD_mem (by rw [hl]; show 0 < 2; decide))) (hs _ (getD_mem (by rw [hl]; show 1 < 2; decide)))
  | loop hk hl' hb =>
    rw [b_loop hk] at hl
    rw [w_loop hk]
    exact .loop hk hl' (hs _ (getD_mem (by rw [hl]; show 0 < 1; decide)))
  | @trr b e hb cs hc h he =>
    rw [b_try] at hl
    simp only [List.length_cons, List.length_append, List.length_nil] at hl
    rw [w_try, zip_try]
    refine .trr (hs _ (getD_mem (by omega))) (fun c hc' => ?_) (fun c hc' => ?_) (hs _ (getD_mem (by omega)))
    · obtain ⟨a, ha, b, hb, rfl⟩ := mem_zip2 hc'
      exact hc a ha
    · obtain ⟨a, ha, b, hb, rfl⟩ := mem_zip2 hc'
      exact hs b (List.mem_of_mem_drop (List.mem_of_mem_take (by rw [← List.dropLast_eq_take]; exact hb)))
theorem edit_two {rows : List PyData} {a b : Nat} {r : List Int} {row : PyData} {bd new : List PyData} {many : Nat} (e1 : rows[a]? = some row) (e2 : (bodiesD row)[b]? = some bd) :
    editD rows ((a : Int) :: (b : Int) :: r) many new = rows.take a ++ (withD row ((bodiesD row).set b (editD bd r many new)) :: rows.drop (a + 1)) := by
  rw [editD]
  simp only [Int.toNat_natCast, getD_of e1, getD_of e2]
theorem edit_ok {new : List PyData} {many : Nat} (hn : ∀ r ∈ new, RowOk r) : ∀ {p : List Int} {rows : List PyData} {x : List PyData × Int}, (∀ r ∈ rows, RowOk r) → walkR rows p = some x → ∀ r ∈ editD rows p many new, RowOk r
  | [], _, _, _, h => by cases h
  | [k], rows, x, hr, h => by
    intro r h'
    rw [editD] at h'
    rcases List.mem_append.mp h' with h' | h'
    · exact hr r (List.mem_of_mem_take h')
    · rcases List.mem_append.mp h' with h' | h'
      · exact hn r h'
      · exact hr r (List.mem_of_mem_drop h')
  | k :: j :: q, rows, x, hr, h => by
    obtain ⟨a, b, row, bd, rfl, rfl, e1, e2, h⟩ := walk_two h
    have ro := hr row (List.mem_of_getElem? e1)
    have ih := edit_ok hn (many := many) (ro.body bd (List.mem_of_getElem? e2)) h
    intro r h'
    rw [edit_two e1 e2] at h'
    rcases List.mem_append.mp h' with h' | h'
    · exact hr r (List.mem_of_mem_take h')
    · rcases List.mem_cons.mp h' with rfl | h'
      · refine row_with ro (by rw [List.length_set]) fun s hs => ?_
        rcases List.mem_or_eq_of_mem_set hs with hs | rfl
        · exact ro.body s hs
        · exact ih
      · exact hr r (List.mem_of_mem_drop h')
def natsD (ns : List Nat) : PyData := .tuple (ns.map fun n : Nat => PyData.int (n : Int))
def intsN (ns : List Nat) : List Int := ns.map fun n : Nat => (n : Int)
def spSpl (n : Nat) : Sp := fun vs H Q _ => ∃ (v p sm : V) (rows new : List PyData) (ns : List Nat) (many : Nat) (x : List PyData × Int), vs = [v, p, .int (many : Int), sm] ∧ RowsAt H v rows ∧ Is H p (natsD ns) ∧ Is H sm (.tuple new) ∧ (∀ r ∈ new, RowOk r) ∧ new.length ≤ 1000000 ∧
  walkR rows (intsN ns) = some x ∧ ns.length < 2 * n ∧ ∀ (u : V) (H' : Hp), Same H H' → Is H' u (.tuple (editD rows (intsN ns) many new)) → Q u H'
theorem cut_take {xs : List V} {k : Nat} : cutV xs none (some (k : Int)) = xs.take k := by
  have e1 : HT.sIx xs.length 0 none = 0 := rfl
  have e2 : HT.sIx xs.length xs.length (some (k : Int)) = min k xs.length := HT.sIx_nat _ _ _
  unfold cutV
  rw [e1, e2, List.drop_zero, Nat.sub_zero]
  rcases Nat.le_total k xs.length with h | h
  · rw [Nat.min_eq_left h]
  · rw [Nat.min_eq_right h, List.take_length, List.take_of_length_le h]
theorem cut_drop {xs : List V} {z : Int} {k : Nat} (hz : z = (k : Int)) : cutV xs (some z) none = xs.drop k := by
  subst hz
  have e1 : HT.sIx xs.length 0 (some (k : Int)) = min k xs.length := HT.sIx_nat _ _ _
  have e2 : HT.sIx xs.length xs.length none = xs.length := rfl
  unfold cutV
  rw [e1, e2]
  rcases Nat.le_total k xs.length with h | h
  · rw [Nat.min_eq_left h, List.take_of_length_le (by rw [List.length_drop]; omega)]
  · rw [Nat.min_eq_right h, List.drop_length, List.drop_of_length_le h, List.take_nil]
theorem natsD_are {H : Hp} {ns : List Nat} {p : V} (h : Is H p (natsD ns)) : ∃ a, p = .ref a ∧ H a = some (.tup (ns.map fun n : Nat => V.int (n : Int))) := by
  cases h with
  | @tup a xs _ ha hA =>
  have := are_nats hA
  subst this
  exact ⟨a, rfl, ha⟩
theorem natsD_of {H : Hp} {a : Addr} : ∀ {ns : List Nat}, H a = some (.tup (ns.map fun n : Nat => V.int (n : Int))) → Is H (.ref a) (natsD ns) := fun {ns} h => .tup h (by
  clear h
  induction ns with
  | nil => exact .nil
  | cons n ns ih => exact .cons (.int _) ih)
theorem free_upd {H : Hp} {r : Addr} {o : HO} : Same (hide (but r) H) (upd H r o) := fun b u e => by
  by_cases h : b = r
  · subst h
    unfold hide at e
    rw [if_pos (by simp)] at e
    cases e
  · rw [hide_ne (by simp [h])] at e
    rw [upd_ne h]
    exact e
theorem are_set {H : Hp} : ∀ {vs : List V} {ds : List PyData} {i : Nat} {v : V} {d : PyData}, Are H vs ds → Is H v d → Are H (vs.set i v) (ds.set i d)
  | _, _, _, _, _, .nil, _ => .nil
  | _, _, 0, _, _, .cons a b, h => .cons h b
  | _, _, i + 1, _, _, .cons a b, h => .cons a (are_set b h)
theorem ixN_nat {n k : Nat} (h : k < n) : ixN n (k : Int) = some k := by
  unfold ixN
  rw [if_pos (by omega)]
  simp [h]
theorem sz3 {n : Nat} (h : n ≤ 4000000) : n ≤ sizeLine := by
  rw [sizeLine_eq]
  omega
theorem at2 {H : Hp} {vs : List V} {ds : List PyData} {i : Nat} {d : PyData} (h : Are H vs ds) (e : ds[i]? = some d) : ∃ v, vs[i]? = some v ∧ Is H v d := by
  have l := h.length
  have hi : i < vs.length := by
    have := (List.getElem?_eq_some_iff.mp e).1
    omega
  obtain ⟨d', e', q⟩ := h.at' (List.getElem?_eq_getElem hi)
  rw [e] at e'
  cases e'
  exact ⟨_, List.getElem?_eq_getElem hi, q⟩
section
variable {P : Program} {w : World} {K : PySem.W.Frag} {mg : Str → Option Value} {base : Heap} {A : Ad} {D : Fd}
theorem ok_spliced_n (T : Txt K mg A D) : ∀ n, FnOk P w K mg base CX0 (n + 1) A.spliced D.spliced ["rows", "path", "many", "some"] (spSpl n)
  | 0 => by
    refine T.f_spliced.ok sc_spliced (fun vs H Q E h => ?_) (fun cdv AA outer s H vs Q E hr h => ?_)
    · obtain ⟨_, _, _, _, _, _, _, _, _, _, _, _, _, _, _, h, _⟩ := h
      exact absurd h (by omega)
    · obtain ⟨_, _, _, _, _, _, _, _, _, _, _, _, _, _, _, h, _⟩ := h
      exact absurd h (by omega)
  | n + 1 => by
    have ih := ok_spliced_n T n
    refine T.f_spliced.ok sc_spliced (fun vs H Q E h => ?_) (fun cdv AA outer s H vs Q E hr h => ?_)
    · obtain ⟨v, p, sm, rows, new, ns, many, x, rfl, _⟩ := h
      rfl
    · obtain ⟨v, p, sm, rows, new, ns, many, x, rfl, ⟨hv1, hv2, hv3⟩, hp, hs, hn, hnl, hw, hl, k⟩ := h
      refine ⟨_, (pss_cons (ps_set (i := 4) sc_spliced.nd rfl (Or.inl rfl) (by exact (pe_ix (ixK K rfl) (pv 1) pe_int (fun _ _ => rfl))))
  (pss_cons (ps_if (pt_cmpR (eqK K rfl (units_of hr)) (pe_callB (lenK K rfl) (by rfl) T.b_len (by decide +kernel) (pa_cons (pv 1) pa_nil)) pe_int (nomark _)) (pss_one (ps_ret (pe_op (addK K rfl) (pe_op (addK K rfl) (pe_slice (slK K rfl) (pv 0) po_none (po_some (pv 4))) (pe_callTy (tupleK K rfl) (by rfl) T.b_tuple (by decide +kernel) (pa_cons (pv 3) pa_nil))) (pe_slice (slK K rfl) (pv 0) (po_some (pe_op (addK K rfl) (pv 4) (pv 2))) po_none)))) pss_nil)
  (pss_cons (ps_set (i := 5) sc_spliced.nd rfl (Or.inl rfl) (by exact (pe_call (ok_bodies T) (hr.mono (by omega)) rfl T.m_bodies T.f_bodies.kp (b_bodies T) .nil pass0 (pa_cons (pe_ix (ixK K rfl) (pv 0) (pv 4) (fun _ _ => rfl)) pa_nil))))
  (pss_cons (ps_asg (by exact (pe_call ih (hr.mono (by omega)) rfl T.m_spliced T.f_spliced.kp (b_spliced T) .nil pass0 (pa_cons (pe_ix (ixK K rfl) (pv 5) (pe_ix (ixK K rfl) (pv 1) pe_int (fun _ _ => rfl)) (fun _ _ => rfl)) (pa_cons (pe_slice (slK K rfl) (pv 1) (po_some pe_int) po_none) (pa_cons (pv 2) (pa_cons (pv 3) pa_nil)))))) (pg_sub (pv 5) (pe_ix (ixK K rfl) (pv 1) pe_int (fun _ _ => rfl)) set_list))
  (pss_one (ps_ret (pe_op (addK K rfl) (pe_op (addK K rfl) (pe_slice (slK K rfl) (pv 0) po_none (po_some (pv 4))) (pe_tup (pa_cons (pe_call (ok_with_bodies T) (hr.mono (by omega)) rfl T.m_with_bodies T.f_with_bodies.kp (b_with_bodies T) .nil pass0 (pa_cons (pe_ix (ixK K rfl) (pv 0) (pv 4) (fun _ _ => rfl)) (pa_cons (pv 5) pa_nil))) pa_nil))) (pe_slice (slK K rfl) (pv 0) (po_some (pe_op (addK K rfl) (pv 4) pe_int)) po_none)))))))), ?_⟩
      obtain ⟨a, rfl, ha⟩ := natsD_are hp
      cases hv1 with
      | @tup c ws _ hc hC =>
      have lw := hC.length
      have lz := (small_seq hv3 rfl).1
      cases hs with
      | @tup q us _ hq hU =>
      have lu := hU.length
      cases ns with
      | nil => cases hw
      | cons n0 ns =>
      refine ⟨_, rfl, q_ix (i := 0) (.inr (SqT.of ha)) rfl rfl ⟨_, rfl, q_lenSq (.inr (SqT.of ha)) (q_eqi ⟨_, rfl, if_b (fun e1 => ?_) (fun e1 => ?_)⟩)⟩⟩
      · have e1 := of_decide_eq_true e1
        rw [List.length_map] at e1
        cases ns with
        | cons n1 ns => exact absurd e1 (by simp only [List.length_cons]; omega)
        | nil =>
        refine ⟨_, rfl, _, rfl, _, rfl, q_cutT hc fun r1 H1 s1 h1 => ?_⟩
        rw [cut_take] at h1
        refine ⟨_, rfl, q, us, rfl, .inr ⟨SqT.of (s1 _ _ hq),  q_catT h1 (s1 _ _ hq) (sz3 (by rw [List.length_take]; omega)) fun r2 H2 s2 h2 => ?_⟩⟩
        refine ⟨_, rfl, _, rfl, _, rfl, .inl ⟨_, _, rfl, rfl, _, rfl, q_cutT (s2 _ _ (s1 _ _ hc)) fun r3 H3 s3 h3 => ?_⟩⟩
        rw [cut_drop (k := n0 + many) (by omega)] at h3
        refine q_catT (s3 _ _ h2) h3 (sz3 (by rw [List.length_append, List.length_take, List.length_drop]; omega)) fun r4 H4 s4 h4 => ?_
        have s14 := s1.trans (s2.trans (s3.trans s4))
        refine k _ _ s14 (.tup h4 ?_)
        show Are H4 _ (rows.take (n0 : Int).toNat ++ (new ++ rows.drop ((n0 : Int).toNat + many)))
        rw [Int.toNat_natCast, ← List.append_assoc]
        exact Are.append (Are.append (Are.take _ (Are.same s14 hC)) (Are.same s14 hU)) (Are.drop _ (Are.same s14 hC))
      · have e1 := of_decide_eq_false e1
        rw [List.length_map] at e1
        cases ns with
        | nil => exact absurd rfl e1
        | cons n1 ns =>
        obtain ⟨a', b', row, bd, ea, eb, e2, e3, hw'⟩ := walk_two hw
        obtain rfl : n0 = a' := Int.ofNat.inj ea
        obtain rfl : n1 = b' := Int.ofNat.inj eb
        have mr := List.mem_of_getElem? e2
        have mb := List.mem_of_getElem? e3
        have ro := hv2 row mr
        have zr := small_row hv3 mr
        obtain ⟨rv, er, hrow⟩ := at2 hC e2
        refine ⟨_, rfl, _, rfl, q_ix (i := n0) (.inr (SqT.of hc)) rfl er ⟨rv, row, rfl, hrow, ro, zr, fun r bs H1 s1 hn1 hr1 hA1 => ?_⟩⟩
        have e3' : ((bodiesD row).map PyData.tuple)[n1]? = some (.tuple bd) := by rw [List.getElem?_map, e3]; rfl
        obtain ⟨bv, eb', hbd⟩ := at2 hA1 e3'
        have lb := hA1.length
        rw [List.length_map] at lb
        have lbs : n1 < bs.length := (List.getElem?_eq_some_iff.mp eb').1
        refine ⟨_, rfl, _, rfl, q_ix (i := 1) (.inr (SqT.of (s1 _ _ ha))) rfl rfl (q_ix (i := n1) (.inl (SqL.of hr1)) rfl eb' ⟨_, rfl, _, rfl, q_cutT (s1 _ _ ha) fun r2 H2 s2 h2 => ?_⟩)⟩
        rw [cut_drop (k := 2) (by omega)] at h2
        have s12 := s1.trans s2
        refine ⟨_, rfl, _, rfl, ⟨bv, .ref r2, .ref q, bd, new, ns, many, x, rfl, ⟨Is.same s2 hbd, ro.body bd mb, small_body ro zr mb⟩, natsD_of h2, .tup (s12 _ _ hq) (Are.same s12 hU), hn, hnl, hw', ?_, fun u H3 s3 hu => ?_⟩⟩
        · simp only [List.length_cons] at hl
          omega
        have s13 := s12.trans s3
        have hr3 := s3 _ _ (s2 _ _ hr1)
        refine ⟨_, rfl, _, rfl, q_ix (i := 1) (.inr (SqT.of (s13 _ _ ha))) rfl rfl ⟨r, bs, n1, n1, rfl, rfl, hr3, ixN_nat lbs, ?_⟩⟩
        have edo := edit_ok hn (many := many) (ro.body bd mb) hw'
        have hA4 : Are (upd H3 r (.lst (bs.set n1 u))) (bs.set n1 u) (((bodiesD row).set n1 (editD bd (intsN ns) many new)).map .tuple) := by
          rw [List.map_set]
          exact are_set (Are.same free_upd (bodies_free hr3 ro.body (Are.same (s2.trans s3) hA1))) (Is.same free_upd (rows_free hr3 edo hu))
        have s4 : Same H (upd H3 r (.lst (bs.set n1 u))) := same_over hn1 s13
        have hr4 : upd H3 r (.lst (bs.set n1 u)) r = some (.lst (bs.set n1 u)) := upd_same
        generalize upd H3 r (.lst (bs.set n1 u)) = H4 at hA4 s4 hr4 ⊢
        refine ⟨_, rfl, _, rfl, _, rfl, q_cutT (s4 _ _ hc) fun r5 H5 s5 h5 => ?_⟩
        rw [cut_take] at h5
        have s45 := s4.trans s5
        refine ⟨_, rfl, _, rfl, q_ix (i := n0) (.inr (SqT.of (s45 _ _ hc))) rfl er ⟨_, rfl, ⟨rv, row, r, bs.set n1 u, (bodiesD row).set n1 (editD bd (intsN ns) many new), rfl, Is.same s45 hrow, ro, zr, s5 _ _ hr4, Are.same s5 hA4, by rw [List.length_set], fun v' H6 s6 hv' => ?_⟩⟩⟩
        have s46 := s45.trans s6
        refine ⟨by show 1 ≤ sizeLine; decide, fun r7 hr7 => ?_⟩
        have s67 := same_upd (o := .tup [v']) hr7
        have s47 := s46.trans s67
        refine q_catT (s67 _ _ (s6 _ _ h5)) upd_same (sz3 (by rw [List.length_take]; show _ + 1 ≤ _; omega)) fun r8 H8 s8 h8 => ?_
        have s48 := s47.trans s8
        refine ⟨_, rfl, _, rfl, .inl ⟨_, _, rfl, rfl, _, rfl, q_cutT (s48 _ _ hc) fun r9 H9 s9 h9 => ?_⟩⟩
        rw [cut_drop (k := n0 + 1) (by omega)] at h9
        refine q_catT (s9 _ _ h8) h9 (sz3 (by rw [List.length_append, List.length_take, List.length_drop]; show _ + 1 + _ ≤ _; omega)) fun r10 H10 s10 h10 => ?_
        have s410 := s48.trans (s9.trans s10)
        refine k _ _ s410 (.tup h10 ?_)
        show Are H10 _ (editD rows ((n0 : Int) :: (n1 : Int) :: intsN ns) many new)
        rw [edit_two e2 e3, List.append_assoc]
        exact Are.append (Are.take _ (Are.same s410 hC)) (.cons (Is.same (s67.trans (s8.trans (s9.trans s10))) hv') (Are.drop _ (Are.same s410 hC)))
theorem ok__law_edited_n (T : Txt K mg A D) : ∀ n, FnOk P w K mg base CX0 (n + 1) A._law_edited D._law_edited ["rows", "path", "many", "some"] (spSpl n)
  | 0 => by
    refine T.f__law_edited.ok sc__law_edited (fun vs H Q E h => ?_) (fun cdv AA outer s H vs Q E hr h => ?_)
    · obtain ⟨_, _, _, _, _, _, _, _, _, _, _, _, _, _, _, h, _⟩ := h
      exact absurd h (by omega)
    · obtain ⟨_, _, _, _, _, _, _, _, _, _, _, _, _, _, _, h, _⟩ := h
      exact absurd h (by omega)
  | n + 1 => by
    have ih := ok__law_edited_n T n
    refine T.f__law_edited.ok sc__law_edited (fun vs H Q E h => ?_) (fun cdv AA outer s H vs Q E hr h => ?_)
    · obtain ⟨v, p, sm, rows, new, ns, many, x, rfl, _⟩ := h
      rfl
    · obtain ⟨v, p, sm, rows, new, ns, many, x, rfl, ⟨hv1, hv2, hv3⟩, hp, hs, hn, hnl, hw, hl, k⟩ := h
      refine ⟨_, (pss_cons (ps_set (i := 4) sc__law_edited.nd rfl (Or.inl rfl) (by exact (pe_ix (ixK K rfl) (pv 1) pe_int (fun _ _ => rfl))))
  (pss_cons (ps_if (pt_cmpR (eqK K rfl (units_of hr)) (pe_callB (lenK K rfl) (by rfl) T.b_len (by decide +kernel) (pa_cons (pv 1) pa_nil)) pe_int (nomark _)) (pss_one (ps_ret (pe_op (addK K rfl) (pe_op (addK K rfl) (pe_slice (slK K rfl) (pv 0) po_none (po_some (pv 4))) (pv 3)) (pe_slice (slK K rfl) (pv 0) (po_some (pe_op (addK K rfl) (pv 4) (pv 2))) po_none)))) pss_nil)
  (pss_cons (ps_set (i := 5) sc__law_edited.nd rfl (Or.inl rfl) (by exact (pe_call (ok__law_bodies T) (hr.mono (by omega)) rfl T.m__law_bodies T.f__law_bodies.kp (b__law_bodies T) .nil pass0 (pa_cons (pe_ix (ixK K rfl) (pv 0) (pv 4) (fun _ _ => rfl)) pa_nil))))
  (pss_cons (ps_asg (by exact (pe_call ih (hr.mono (by omega)) rfl T.m__law_edited T.f__law_edited.kp (b__law_edited T) .nil pass0 (pa_cons (pe_ix (ixK K rfl) (pv 5) (pe_ix (ixK K rfl) (pv 1) pe_int (fun _ _ => rfl)) (fun _ _ => rfl)) (pa_cons (pe_slice (slK K rfl) (pv 1) (po_some pe_int) po_none) (pa_cons (pv 2) (pa_cons (pv 3) pa_nil)))))) (pg_sub (pv 5) (pe_ix (ixK K rfl) (pv 1) pe_int (fun _ _ => rfl)) set_list))
  (pss_one (ps_ret (pe_op (addK K rfl) (pe_op (addK K rfl) (pe_slice (slK K rfl) (pv 0) po_none (po_some (pv 4))) (pe_tup (pa_cons (pe_call (ok__law_with T) (hr.mono (by omega)) rfl T.m__law_with T.f__law_with.kp (b__law_with T) .nil pass0 (pa_cons (pe_ix (ixK K rfl) (pv 0) (pv 4) (fun _ _ => rfl)) (pa_cons (pv 5) pa_nil))) pa_nil))) (pe_slice (slK K rfl) (pv 0) (po_some (pe_op (addK K rfl) (pv 4) pe_int)) po_none)))))))), ?_⟩
      obtain ⟨a, rfl, ha⟩ := natsD_are hp
      cases hv1 with
      | @tup c ws _ hc hC =>
      have lw := hC.length
      have lz := (small_seq hv3 rfl).1
      cases hs with
      | @tup q us _ hq hU =>
      have lu := hU.length
      cases ns with
      | nil => cases hw
      | cons n0 ns =>
      refine ⟨_, rfl, q_ix (i := 0) (.inr (SqT.of ha)) rfl rfl ⟨_, rfl, q_lenSq (.inr (SqT.of ha)) (q_eqi ⟨_, rfl, if_b (fun e1 => ?_) (fun e1 => ?_)⟩)⟩⟩
      · have e1 := of_decide_eq_true e1
        rw [List.length_map] at e1
        cases ns with
        | cons n1 ns => exact absurd e1 (by simp only [List.length_cons]; omega)
        | nil =>
        refine ⟨_, rfl, _, rfl, _, rfl, q_cutT hc fun r1 H1 s1 h1 => ?_⟩
        rw [cut_take] at h1
        refine ⟨_, rfl,  q_catT h1 (s1 _ _ hq) (sz3 (by rw [List.length_take]; omega)) fun r2 H2 s2 h2 => ?_⟩
        refine ⟨_, rfl, _, rfl, _, rfl, .inl ⟨_, _, rfl, rfl, _, rfl, q_cutT (s2 _ _ (s1 _ _ hc)) fun r3 H3 s3 h3 => ?_⟩⟩
        rw [cut_drop (k := n0 + many) (by omega)] at h3
        refine q_catT (s3 _ _ h2) h3 (sz3 (by rw [List.length_append, List.length_take, List.length_drop]; omega)) fun r4 H4 s4 h4 => ?_
        have s14 := s1.trans (s2.trans (s3.trans s4))
        refine k _ _ s14 (.tup h4 ?_)
        show Are H4 _ (rows.take (n0 : Int).toNat ++ (new ++ rows.drop ((n0 : Int).toNat + many)))
        rw [Int.toNat_natCast, ← List.append_assoc]
        exact Are.append (Are.append (Are.take _ (Are.same s14 hC)) (Are.same s14 hU)) (Are.drop _ (Are.same s14 hC))
      · have e1 := of_decide_eq_false e1
        rw [List.length_map] at e1
        cases ns with
        | nil => exact absurd rfl e1
        | cons n1 ns =>
        obtain ⟨a', b', row, bd, ea, eb, e2, e3, hw'⟩ := walk_two hw
        obtain rfl : n0 = a' := Int.ofNat.inj ea
        obtain rfl : n1 = b' := Int.ofNat.inj eb
        have mr := List.mem_of_getElem? e2
        have mb := List.mem_of_getElem? e3
        have ro := hv2 row mr
        have zr := small_row hv3 mr
        obtain ⟨rv, er, hrow⟩ := at2 hC e2
        refine ⟨_, rfl, _, rfl, q_ix (i := n0) (.inr (SqT.of hc)) rfl er ⟨rv, row, rfl, hrow, ro, zr, fun r bs H1 s1 hn1 hr1 hA1 => ?_⟩⟩
        have e3' : ((bodiesD row).map PyData.tuple)[n1]? = some (.tuple bd) := by rw [List.getElem?_map, e3]; rfl
        obtain ⟨bv, eb', hbd⟩ := at2 hA1 e3'
        have lb := hA1.length
        rw [List.length_map] at lb
        have lbs : n1 < bs.length := (List.getElem?_eq_some_iff.mp eb').1
        refine ⟨_, rfl, _, rfl, q_ix (i := 1) (.inr (SqT.of (s1 _ _ ha))) rfl rfl (q_ix (i := n1) (.inl (SqL.of hr1)) rfl eb' ⟨_, rfl, _, rfl, q_cutT (s1 _ _ ha) fun r2 H2 s2 h2 => ?_⟩)⟩
        rw [cut_drop (k := 2) (by omega)] at h2
        have s12 := s1.trans s2
        refine ⟨_, rfl, _, rfl, ⟨bv, .ref r2, .ref q, bd, new, ns, many, x, rfl, ⟨Is.same s2 hbd, ro.body bd mb, small_body ro zr mb⟩, natsD_of h2, .tup (s12 _ _ hq) (Are.same s12 hU), hn, hnl, hw', ?_, fun u H3 s3 hu => ?_⟩⟩
        · simp only [List.length_cons] at hl
          omega
        have s13 := s12.trans s3
        have hr3 := s3 _ _ (s2 _ _ hr1)
        refine ⟨_, rfl, _, rfl, q_ix (i := 1) (.inr (SqT.of (s13 _ _ ha))) rfl rfl ⟨r, bs, n1, n1, rfl, rfl, hr3, ixN_nat lbs, ?_⟩⟩
        have edo := edit_ok hn (many := many) (ro.body bd mb) hw'
        have hA4 : Are (upd H3 r (.lst (bs.set n1 u))) (bs.set n1 u) (((bodiesD row).set n1 (editD bd (intsN ns) many new)).map .tuple) := by
          rw [List.map_set]
          exact are_set (Are.same free_upd (bodies_free hr3 ro.body (Are.same (s2.trans s3) hA1))) (Is.same free_upd (rows_free hr3 edo hu))
        have s4 : Same H (upd H3 r (.lst (bs.set n1 u))) := same_over hn1 s13
        have hr4 : upd H3 r (.lst (bs.set n1 u)) r = some (.lst (bs.set n1 u)) := upd_same
        generalize upd H3 r (.lst (bs.set n1 u)) = H4 at hA4 s4 hr4 ⊢
        refine ⟨_, rfl, _, rfl, _, rfl, q_cutT (s4 _ _ hc) fun r5 H5 s5 h5 => ?_⟩
        rw [cut_take] at h5
        have s45 := s4.trans s5
        refine ⟨_, rfl, _, rfl, q_ix (i := n0) (.inr (SqT.of (s45 _ _ hc))) rfl er ⟨_, rfl, ⟨rv, row, r, bs.set n1 u, (bodiesD row).set n1 (editD bd (intsN ns) many new), rfl, Is.same s45 hrow, ro, zr, s5 _ _ hr4, Are.same s5 hA4, by rw [List.length_set], fun v' H6 s6 hv' => ?_⟩⟩⟩
        have s46 := s45.trans s6
        refine ⟨by show 1 ≤ sizeLine; decide, fun r7 hr7 => ?_⟩
        have s67 := same_upd (o := .tup [v']) hr7
        have s47 := s46.trans s67
        refine q_catT (s67 _ _ (s6 _ _ h5)) upd_same (sz3 (by rw [List.length_take]; show _ + 1 ≤ _; omega)) fun r8 H8 s8 h8 => ?_
        have s48 := s47.trans s8
        refine ⟨_, rfl, _, rfl, .inl ⟨_, _, rfl, rfl, _, rfl, q_cutT (s48 _ _ hc) fun r9 H9 s9 h9 => ?_⟩⟩
        rw [cut_drop (k := n0 + 1) (by omega)] at h9
        refine q_catT (s9 _ _ h8) h9 (sz3 (by rw [List.length_append, List.length_take, List.length_drop]; show _ + 1 + _ ≤ _; omega)) fun r10 H10 s10 h10 => ?_
        have s410 := s48.trans (s9.trans s10)
        refine k _ _ s410 (.tup h10 ?_)
        show Are H10 _ (editD rows ((n0 : Int) :: (n1 : Int) :: intsN ns) many new)
        rw [edit_two e2 e3, List.append_assoc]
        exact Are.append (Are.take _ (Are.same s410 hC)) (.cons (Is.same (s67.trans (s8.trans (s9.trans s10))) hv') (Are.drop _ (Are.same s410 hC)))
end
end K14
set_option Elab.async false
set_option linter.all false
set_option maxRecDepth 100000
set_option maxHeartbeats 4000000
/-! ## How many rows, how deep, and all their paths -/
namespace Rw
open PySem PySem.Spec L2 Quiet Gn
def sizeF : Nat → List PyData → Nat
  | 0, _ => 0
  | n + 1, rows => rows.length + (rows.map fun r => ((bodiesD r).map (sizeF n)).sum).sum
def deepR : Nat → List PyData → Prop
  | 0, rows => rows = []
  | n + 1, rows => ∀ r ∈ rows, ∀ b ∈ bodiesD r, deepR n b
theorem deepR_nil : ∀ n, deepR n []
  | 0 => rfl
  | _ + 1 => fun _ h => nomatch h
theorem deepR_succ : ∀ {n : Nat} {rows : List PyData}, deepR n rows → deepR (n + 1) rows
  | 0, _, h => by
    cases h
    exact deepR_nil 1
  | n + 1, _, h => fun r hr b hb => deepR_succ (h r hr b hb)
theorem deepR_mono {n m : Nat} (h : n ≤ m) {rows : List PyData} (d : deepR n rows) : deepR m rows := by
  induction h with
  | refl => exact d
  | step _ ih => exact deepR_succ ih
theorem sizeF_succ : ∀ {n : Nat} {rows : List PyData}, deepR n rows → sizeF (n + 1) rows = sizeF n rows
  | 0, _, h => by
    cases h
    rfl
  | n + 1, rows, h => by
    show rows.length + (rows.map fun r => ((bodiesD r).map (sizeF (n + 1))).sum).sum = rows.length + (rows.map fun r => ((bodiesD r).map (sizeF n)).sum).sum
    congr 2
    refine List.map_congr_left fun r hr => ?_
    congr 1
    exact List.map_congr_left fun b hb => sizeF_succ (h r hr b hb)
theorem sizeF_mono {n m : Nat} (h : n ≤ m) {rows : List PyData} (d : deepR n rows) : sizeF m rows = sizeF n rows := by
  induction h with
  | refl => rfl
  | @step m hm ih => rw [sizeF_succ (deepR_mono hm d), ih]
theorem sum_cast {α : Type} (f : α → Nat) : ∀ xs : List α, (xs.map fun x => ((f x : Nat) : Int)).sum = (((xs.map f).sum : Nat) : Int)
  | [] => rfl
  | x :: xs => by
    rw [List.map_cons, List.map_cons, List.sum_cons, List.sum_cons, sum_cast f xs, Int.natCast_add]
theorem sum_take {α : Type} (f : α → Nat) {xs : List α} {i : Nat} {x : α} (h : xs[i]? = some x) : ((xs.take (i + 1)).map f).sum = ((xs.take i).map f).sum + f x := by
  rw [take_one h, List.map_append, List.sum_append]
  simp
end Rw
set_option Elab.async false
set_option linter.all false
set_option maxRecDepth 100000
set_option maxHeartbeats 4000000
namespace K14
open PySem PySem.Spec L2 Quiet Gn Rw

theorem bodies_len {d : PyData} (h : RowOk d) (hz : Small d) : (bodiesD d).length ≤ 1000000 := by
  cases h with
  | leaf hk hx => rw [b_leaf hk]; exact Nat.zero_le _
  | @doo s hs cs hn h =>
    rw [b_do, List.length_map]
    have := len_weight (cs.map doC)
    simp only [Small, PyData.weightAll, PyData.weight, List.length_map] at hz this
    omega
  | iff ha hy hn => rw [b_if]; show 2 ≤ _; decide
  | loop hk hl hb => rw [b_loop hk]; show 1 ≤ _; decide
  | @trr b e hb cs hn h he =>
    rw [b_try]
    have := len_weight (cs.map trC)
    simp only [Small, PyData.weightAll, PyData.weight, List.length_map] at hz this
    simp only [List.length_cons, List.length_append, List.length_map, List.length_nil]
    omega
def spSize (K : PySem.W.Frag) : Nat → Sp
  | 0 => fun _ _ _ _ => False
  | n + 1 => fun vs H Q _ => ∃ (a : Addr) (xs : List V) (rows : List PyData), vs = [.ref a] ∧ Sq K H a xs ∧ Are H xs rows ∧ (∀ r ∈ rows, RowOk r ∧ Small r) ∧ deepR n rows ∧ ∀ H', Same H H' → Q (.int ((sizeF n rows : Nat) : Int)) H'
section
variable {P : Program} {w : World} {K : PySem.W.Frag} {mg : Str → Option Value} {base : Heap} {A : Ad} {D : Fd}
theorem ok_size_n (T : Txt K mg A D) : ∀ n, FnOk P w K mg base CX0 (n + 1) A._law_size D._law_size ["rows"] (spSize K n)
  | 0 => T.f__law_size.ok sc__law_size (fun vs H Q E h => h.elim) (fun cdv AA outer s H vs Q E hr h => h.elim)
  | n + 1 => by
    have ih := ok_size_n T n
    refine T.f__law_size.ok sc__law_size (fun vs H Q E h => ?_) (fun cdv AA outer s H vs Q E hr h => ?_)
    · obtain ⟨a, xs, rows, rfl, _⟩ := h
      rfl
    · obtain ⟨a, xs, rows, rfl, hs, hA, ro, dp, k⟩ := h
      refine ⟨_, (pss_cons (ps_set (i := 1) sc__law_size.nd rfl (Or.inl rfl) (by exact (pe_callB (lenK K rfl) (by rfl) T.b_len (by decide +kernel) (pa_cons (pv 0) pa_nil))))
  (pss_cons (ps_for PassesOwn.never rfl (pi_sq K rfl (pv 0)) (pg_name (i := 2) sc__law_size.nd rfl (Or.inl rfl))
 (pss_one (ps_set (i := 1) sc__law_size.nd rfl (Or.inl rfl) (by exact (pe_op (addK K rfl) (pv 1) (pe_callB (sumK K rfl rfl) (by rfl) T.b_sum (by decide +kernel) (pa_cons (pe_lc (own := [("some", 3)]) rfl sc__law_size.nd (pi_sq K rfl (pe_call (ok__law_bodies T) (hr.mono (by omega)) rfl T.m__law_bodies T.f__law_bodies.kp (b__law_bodies T) .nil pass0 (pa_cons (pv 2) pa_nil))) (blkOk_by (own := [("some", 3)]) (N := n__law_size) (sc := defScope s__law_size) (by decide +kernel)) (fun _ _ _ _ _ => (pg_name (i := 3) sc__law_size.nd rfl (Or.inl rfl))) (fun _ _ _ _ _ => pts_nil) (fun _ _ _ _ _ => (pe_call ih (hr.mono (by omega)) rfl T.m__law_size T.f__law_size.kp (b__law_size T) .nil pass0 (pa_cons (pv 3) pa_nil)))) pa_nil)))))))
  (pss_one (ps_ret (pv 1))))), ?_⟩
      have lx := hA.length
      refine ⟨_, rfl, q_lenSq hs ?_⟩
      refine ⟨_, rfl, a, xs, rfl, hs, fun J G hG wk => ?_⟩
      refine for_it wk (fun i σ H' => ∃ (t2 t3 : Option V), σ = [some (.ref a), some (.int (((rows.length + ((rows.take i).map fun r => ((bodiesD r).map (sizeF (n - 1))).sum).sum : Nat)) : Int)), t2, t3] ∧ Same H H') ⟨none, none, by rw [lx]; rfl, Same.refl _⟩
        (fun i σ H' _ ⟨_, _, _, s1⟩ => hG H' fun o e => s1 _ _ e) ?_ ?_
      · rintro i x _ H1 H2 hi ⟨t2, t3, rfl, s1⟩ ⟨rfl, hx⟩
        obtain ⟨row, er, hrow⟩ := hA.at' hx
        have mr := List.mem_of_getElem? er
        obtain ⟨k', rfl⟩ : ∃ k', n = k' + 1 := by
          cases n with
          | zero =>
            cases dp
            cases mr
          | succ m => exact ⟨m, rfl⟩
        refine ⟨_, rfl, _, rfl, x, row, rfl, Is.same s1 hrow, (ro row mr).1, (ro row mr).2, fun r bs H3 s3 hn3 hr3 hA3 => ?_⟩
        have lb := hA3.length
        rw [List.length_map] at lb
        refine ⟨r, bs, rfl, .inl (SqL.of hr3), fun J2 G2 hG2 wk2 Dd hDd => ?_⟩
        refine comp_map (G := G2) (Y := YAt bs) (bodiesD row) (fun b => V.int ((sizeF k' b : Nat) : Int)) (by rw [← lb]; exact wk2) hDd ?_ (fun H' s' => hG2 H' fun o e => s' _ _ e) ?_ ?_
        · exact sz2 (bodies_len (ro row mr).1 (ro row mr).2)
        · rintro j b y H4 H5 R hj s4 ⟨rfl, hy⟩ hR
          obtain ⟨d', e', hd'⟩ := hA3.at' hy
          rw [List.getElem?_map, hj] at e'
          cases e'
          cases hd' with
          | @tup c ys _ hc hB =>
          have mb := List.mem_of_getElem? hj
          refine ⟨rfl, _, rfl, ⟨c, ys, b, rfl, .inr (SqT.of (s4 _ _ hc)), Are.same s4 hB, fun r hr => ⟨(ro row mr).1.body b mb r hr, small_row (small_body (ro row mr).1 (ro row mr).2 mb) hr⟩, dp row mr b mb, fun H6 s6 => hR _ s6⟩⟩
        · intro H4 s4 hl4
          refine ⟨Dd, (bodiesD row).map fun b => ((sizeF k' b : Nat) : Int), rfl, SqL.of (by rw [hl4, List.map_map]; rfl), .inl ⟨_, _, rfl, rfl, ?_⟩⟩
          refine ⟨some x, t3, ?_, s1.trans (s3.trans s4)⟩
          rw [sum_cast, sum_take _ er, ← Nat.add_assoc, Int.natCast_add (rows.length + _)]
          rfl
      · rintro _ H1 ⟨t2, t3, rfl, s1⟩
        refine ⟨_, rfl, ?_⟩
        rw [lx, List.take_length]
        have := k _ s1
        cases n with
        | zero =>
          cases dp
          exact this
        | succ m => exact this
end
end K14
set_option Elab.async false
set_option linter.all false
set_option maxRecDepth 100000
set_option maxHeartbeats 4000000
namespace K14
open PySem PySem.Spec L2 Quiet Gn Rw

def spListAt : Sp := fun vs H Q _ => ∃ (m q : Addr) (v : V) (rows : List PyData) (ns : List Nat) (x : List PyData × Int), vs = [.ref m, .str "", .ref q] ∧ H m = some (.dK [(.inr "", v)]) ∧ RowsAt H v rows ∧ H q = some (.tup ((ns.dropLast).map fun n : Nat => V.int (n : Int))) ∧ ns.length ≤ 1000000 ∧
  walkR rows (intsN ns) = some x ∧ ∀ (u : V) (H' : Hp), Same H H' → RowsAt H' u x.1 → Q u H'
def spRowAtL : Sp := fun vs H Q _ => ∃ (m : Addr) (v p : V) (rows : List PyData) (ns : List Nat) (x : List PyData × Int), vs = [.ref m, .str "", p] ∧ H m = some (.dK [(.inr "", v)]) ∧ RowsAt H v rows ∧ Is H p (natsD ns) ∧ ns.length ≤ 1000000 ∧
  walkR rows (intsN ns) = some x ∧ endB 0 (some x) = true ∧ ∀ (u : V) (H' : Hp) (r : PyData), Same H H' → x.1[x.2.toNat]? = some r → Is H' u r → Q u H'
section
variable {P : Program} {w : World} {K : PySem.W.Frag} {mg : Str → Option Value} {base : Heap} {A : Ad} {D : Fd}
theorem ok__law_list_at (T : Txt K mg A D) : FnOk P w K mg base CX0 2 A._law_list_at D._law_list_at ["model", "name", "where"] spListAt := by
  refine T.f__law_list_at.ok sc__law_list_at (fun vs H Q E h => ?_) (fun cdv AA outer s H vs Q E hr h => ?_)
  · obtain ⟨m, q, v, rows, ns, x, rfl, _⟩ := h
    rfl
  · obtain ⟨m, q, v, rows, ns, x, rfl, hm, hv, hq, lz, hw, k⟩ := h
    refine ⟨_, (pss_cons (ps_set (i := 3) sc__law_list_at.nd rfl (Or.inl rfl) (by exact (pe_dget (hu_of hr) (pv 0) (pv 1) (fun _ _ => rfl))))
  (pss_cons (ps_for PassesOwn.never rfl (pi_range3 rfl T.b_range (pa_cons pe_int (pa_cons (pe_callB (lenK K rfl) (by rfl) T.b_len (by decide +kernel) (pa_cons (pv 2) pa_nil)) (pa_cons pe_int pa_nil)))) (pg_name (i := 4) sc__law_list_at.nd rfl (Or.inl rfl))
 (pss_one (ps_set (i := 3) sc__law_list_at.nd rfl (Or.inl rfl) (by exact (pe_ix (ixK K rfl) (pe_call (ok__law_bodies T) (hr.mono (by decide)) rfl T.m__law_bodies T.f__law_bodies.kp (b__law_bodies T) .nil pass0 (pa_cons (pe_ix (ixK K rfl) (pv 3) (pe_ix (ixK K rfl) (pv 2) (pv 4) (fun _ _ => rfl)) (fun _ _ => rfl)) pa_nil)) (pe_ix (ixK K rfl) (pv 2) (pe_op (addK K rfl) (pv 4) pe_int) (fun _ _ => rfl)) (fun _ _ => rfl))))))
  (pss_one (ps_ret (pv 3))))), ?_⟩
    have od := walk_last ⟨x, hw⟩
    rw [intsN, List.length_map] at od
    refine ⟨_, rfl, _, rfl, m, v, rfl, DGet.k (k := Sum.inr "") hm, _, rfl, q_lenSq (.inr (SqT.of hq)) ?_⟩
    rw [List.length_map, List.length_dropLast]
    refine ⟨_, _, _, _, rfl, rg_two (m := ns.length / 2) (by omega) (by omega) (by omega), for_rangeC (fun i σ H' => ∃ (u : V) (rs : List PyData) (t : Option V), σ = [some (.ref m), some (.str ""), some (.ref q), some u, t] ∧ Same H H' ∧ RowsAt H' u rs ∧
      walkR rs ((intsN ns).drop (2 * i)) = some x) ⟨v, rows, none, rfl, Same.refl _, hv, hw⟩ ?_ ?_⟩
    · rintro i _ H2 hi ⟨u, rs, t, rfl, s2, ⟨hu1, hu2, hu3⟩, ew⟩
      have l1 : 2 * i < ns.length := by omega
      have l2 : 2 * i + 1 < ns.length := by omega
      have g1 : ((ns.dropLast).map fun n : Nat => V.int (n : Int))[2 * i]? = some (V.int ((ns[2 * i] : Nat) : Int)) := by
        rw [List.getElem?_map, List.getElem?_dropLast, if_pos (by omega), List.getElem?_eq_getElem l1]; rfl
      have g2 : ((ns.dropLast).map fun n : Nat => V.int (n : Int))[2 * i + 1]? = some (V.int ((ns[2 * i + 1] : Nat) : Int)) := by
        rw [List.getElem?_map, List.getElem?_dropLast, if_pos (by omega), List.getElem?_eq_getElem l2]; rfl
      have g3 : (intsN ns)[2 * i]? = some ((ns[2 * i] : Nat) : Int) := by rw [intsN, List.getElem?_map, List.getElem?_eq_getElem l1]; rfl
      have g4 : (intsN ns)[2 * i + 1]? = some ((ns[2 * i + 1] : Nat) : Int) := by rw [intsN, List.getElem?_map, List.getElem?_eq_getElem l2]; rfl
      rw [drop_two g3 g4] at ew
      obtain ⟨a', b', row, bd, ea, eb, e2, e3, hw'⟩ := walk_two ew
      have ea := Int.ofNat.inj ea
      have eb := Int.ofNat.inj eb
      cases hu1 with
      | @tup c ws _ hc hC =>
      obtain ⟨rv, er, hrow⟩ := at2 hC e2
      have mr := List.mem_of_getElem? e2
      have mb := List.mem_of_getElem? e3
      refine ⟨_, rfl, _, rfl, _, rfl, q_ix (i := 2 * i) (.inr (SqT.of (s2 _ _ hq))) (by omega) g1 (q_ix (i := a') (.inr (SqT.of hc)) (by rw [ea]) er ⟨rv, row, rfl, hrow, hu2 row mr, small_row hu3 mr, fun r bs H3 s3 hn3 hr3 hA3 => ?_⟩)⟩
      have e3' : ((bodiesD row).map PyData.tuple)[b']? = some (.tuple bd) := by rw [List.getElem?_map, e3]; rfl
      obtain ⟨bv, eb', hbd⟩ := at2 hA3 e3'
      refine ⟨_, rfl, _, rfl, .inl ⟨_, _, rfl, rfl, q_ix (i := 2 * i + 1) (.inr (SqT.of (s3 _ _ (s2 _ _ hq)))) (by omega) g2 (q_ix (i := b') (.inl (SqL.of hr3)) (by rw [eb]) eb' ?_)⟩⟩
      exact ⟨bv, bd, _, rfl, s2.trans s3, ⟨hbd, (hu2 row mr).body bd mb, small_body (hu2 row mr) (small_row hu3 mr) mb⟩, hw'⟩
    · rintro _ H2 ⟨u, rs, t, rfl, s2, hu, ew⟩
      have l1 : 2 * (ns.length / 2) < ns.length := by omega
      have e8 : (intsN ns).drop (2 * (ns.length / 2)) = [((ns[2 * (ns.length / 2)] : Nat) : Int)] := by
        rw [intsN, ← List.map_drop, List.drop_eq_getElem_cons l1, List.drop_eq_nil_of_le (by omega)]
        rfl
      rw [e8] at ew
      cases ew
      exact ⟨_, rfl, k _ _ s2 hu⟩
theorem cut_last {xs : List V} : cutV xs none (some (-1)) = xs.dropLast := by
  have e1 : HT.sIx xs.length 0 none = 0 := rfl
  have e2 : HT.sIx xs.length xs.length (some (-1)) = xs.length - 1 := by
    unfold HT.sIx
    simp only [show ((-1 : Int) < 0) from by decide, if_true]
    omega
  unfold cutV
  rw [e1, e2, List.dropLast_eq_take, List.drop_zero, Nat.sub_zero]
theorem q_ixLast {K : PySem.W.Frag} {H : Hp} {a : Addr} {xs : List V} {v : V} {Q : VK} (h : Sq K H a xs) (hv : xs[xs.length - 1]? = some v) (q : Q v H) : rIx K (.ref a) (.int (-1)) H Q := by
  have hl : 0 < xs.length := by
    cases xs with
    | nil => cases hv
    | cons => exact Nat.zero_lt_succ _
  have e : atI xs (-1) = some v := by
    have e1 : ixN xs.length (-1) = some (xs.length - 1) := by
      unfold ixN
      rw [if_neg (by decide)]
      simp
      omega
    rw [atI, e1]
    exact hv
  rcases h with h | h
  · exact .inl ⟨a, xs, -1, v, rfl, rfl, h, e, q⟩
  · exact .inr (.inl ⟨a, xs, -1, v, rfl, rfl, h, e, q⟩)
/-- the last place of a path -/
theorem walk_end : ∀ {p : List Int} {rows : List PyData} {x : List PyData × Int}, walkR rows p = some x → p[p.length - 1]? = some x.2
  | [], _, _, h => by cases h
  | [k], rows, x, h => by
    cases h
    rfl
  | k :: j :: r, rows, x, h => by
    obtain ⟨a, b, row, bd, _, _, e1, e2, h⟩ := walk_two h
    have ih := walk_end h
    have hl : r.length ≠ 0 := fun e => by
      rw [List.eq_nil_of_length_eq_zero e] at h
      cases h
    have e : (k :: j :: r).length - 1 = (r.length - 1) + 2 := by
      simp only [List.length_cons]
      omega
    rw [e]
    exact ih
theorem ok__law_row_at (T : Txt K mg A D) : FnOk P w K mg base CX0 3 A._law_row_at D._law_row_at ["model", "name", "path"] spRowAtL := by
  refine T.f__law_row_at.ok sc__law_row_at (fun vs H Q E h => ?_) (fun cdv AA outer s H vs Q E hr h => ?_)
  · obtain ⟨m, v, p, rows, ns, x, rfl, _⟩ := h
    rfl
  · obtain ⟨m, v, p, rows, ns, x, rfl, hm, hv, hp, lz, hw, he, k⟩ := h
    refine ⟨_, (pss_one (ps_ret (pe_ix (ixK K rfl) (pe_call (ok__law_list_at T) (hr.mono (by decide)) rfl T.m__law_list_at T.f__law_list_at.kp (b__law_list_at T) .nil pass0 (pa_cons (pv 0) (pa_cons (pv 1) (pa_cons (pe_slice (slK K rfl) (pv 2) po_none (po_some (pe_un un_neg pe_int))) pa_nil)))) (pe_ix (ixK K rfl) (pv 2) (pe_un un_neg pe_int) (fun _ _ => rfl)) (fun _ _ => rfl)))), ?_⟩
    obtain ⟨a, rfl, ha⟩ := natsD_are hp
    refine ⟨_, rfl, _, rfl, _, rfl, 1, rfl, _, rfl, q_cutT ha fun r1 H1 s1 h1 => ?_⟩
    rw [show (-1 : Int) = -1 from rfl, cut_last, ← List.map_dropLast] at h1
    have we := walk_end hw
    rw [intsN, List.length_map, List.getElem?_map] at we
    cases el : ns[ns.length - 1]? with
    | none => rw [el] at we; cases we
    | some l =>
    rw [el] at we
    have we : ((l : Nat) : Int) = x.2 := Option.some.inj we
    refine ⟨m, r1, v, rows, ns, x, rfl, s1 _ _ hm, hv.same s1, h1, lz, hw, fun u H2 s2 hu => ?_⟩
    have s12 := s1.trans s2
    refine ⟨_, rfl, 1, rfl, q_ixLast (.inr (SqT.of (s12 _ _ ha))) (by rw [List.length_map, List.getElem?_map, el]; rfl) ?_⟩
    have he : (decide (0 ≤ x.2) && decide (x.2 < ((x.1.length + 0 : Nat) : Int))) = true := he
    rw [Bool.and_eq_true] at he
    have h2 := of_decide_eq_true he.2
    have l2 : l < x.1.length := by omega
    have et : x.2.toNat = l := by omega
    rw [et] at k
    obtain ⟨hu1, hu2, hu3⟩ := hu
    cases hu1 with
    | @tup c ws _ hc hC =>
    obtain ⟨rv, er, hrow⟩ := at2 hC (List.getElem?_eq_getElem l2)
    exact q_ix (i := l) (.inr (SqT.of hc)) rfl er (k _ _ _ s12 (List.getElem?_eq_getElem l2) hrow)
end
end K14
set_option Elab.async false
set_option linter.all false
set_option maxRecDepth 100000
set_option maxHeartbeats 4000000
/-! ## Classes of errors whose __init__ keeps one field: raised -/
namespace Gn
open PySem PySem.Spec PyProof.Rows L2 Quiet
/-- what is known of a class of errors -/
structure Cle (K : PySem.W.Frag) (mg : Str → Option Value) (x q : Str) (st : Stmt) (C fI : Addr) (fd : FuncData) : Prop where
  g : mg x = some (.ref C)
  oex : OexC K C
  exc : ExcC K C
  xf : XfC K C
  init : PySem.W.findIn K (.ref C) "__init__" = some (some (.ref fI))
  ty : PySem.W.typeIn K (.ref fI) = some (.type "function")
def spInitX (C : Addr) (f : Str) : Sp := fun vs H Q _ => ∃ (a : Addr) (y : V), vs = [.ref a, y] ∧ H a = some (exo a C none) ∧ ∀ dx, H dx = none → dx ≠ a → Q .non (upd (upd H dx (exd dx [(f, y)])) a (exo a C (some dx)))
/-- raise C(e) -/
def tRs1 (C : Addr) (f : Str) (te : TE) : L2.St → Hp → XK → Prop := fun σ H Q => te σ H fun v H1 => ∀ (d : Addr) (H2 : Hp), H1 d = none → Same H1 H2 → H2 d = some (.xd [(f, v)]) → Q (.ref C) (some d) H2
section
variable {X : Cx} {x q f : Str} {st : Stmt} {C fI : Addr} {fd : FuncData} {p pos : Pos} {e : Expr} {te : TE}
theorem pmk1 (c : Cle X.K X.mg x q st C fI fd) (F1 : FnOk X.prog X.w X.K X.mg X.base CX0 1 fI fd ["self", f] (spInitX C f)) (b : Binds X.K fd ["self", f] []) (hr : Room 2 X.A) (hx : Passes CX0 X (fun _ _ _ => False)) (hg : Gl X x) (ha : PE X e te)
    (hdb : (x == ("__debug__" : Str)) = false := by decide) (he : starEach [e] X.env = (false, eval e X.env) :: starEach [] X.env := by rfl) (hpl : (backTo pos (starEach [] X.env)).any (·.1) = false := by rfl) :
    PMk X (.Call (.Name x p) [e] [] pos) (tRs1 C f te) := by
  intro pins s σ H Q I h
  refine pmk_oex (ta := tCons (tVia te) tNil) (dvs := []) c.oex c.init c.ty F1 hr b .nil hx hg c.g (pa_cons (pe_via ha) pa_nil (hs := he)) hdb he hpl pins s σ H Q I ?_
  refine ⟨_, h, fun v H1 k => ⟨by show 1 ≤ 1000; decide, fun a ha0 => ⟨a, v, rfl, upd_same, fun dx hdx hne => ⟨rfl, dx, [(f, v)], upd_same, ?_, ?_, ?_⟩⟩⟩⟩
  · rw [upd_ne hne]
    exact upd_same
  · rw [upd_ne hne] at hdx
    exact hdx
  · rw [upd_ne hne] at hdx
    refine k dx _ hdx (fun b o e => ?_) upd_same
    have nb : b ≠ dx := fun z => by rw [z, hdx] at e; cases e
    have na : b ≠ a := fun z => by rw [z, ha0] at e; cases e
    rw [upd_ne nb, del_ne na, upd_ne na, upd_ne nb, upd_ne na]
    exact e
end
end Gn
set_option Elab.async false
set_option linter.all false
set_option maxRecDepth 100000
set_option maxHeartbeats 4000000
namespace K14
open PySem PySem.Spec L2 Quiet Gn Rw

/-- the class NoRow, at C; FaceError, at F -/
structure Tcl (K : PySem.W.Frag) (mg : Str → Option Value) (A : Ad) (D : Fd) (C F : Addr) : Prop where
  k_NoRow : Cle K mg "NoRow" "NoRow.__init__" s_NoRow___init__ C A.NoRow___init__ D.NoRow___init__
  face : mg "FaceError" = some (.ref F)
  exm : PySem.W.exmOne K (.ref C) (.ref F) = some true
  kit : PySem.W.kitOne K (.ref C) (.ref C) = some true
  nof : PySem.W.findIn K (.ref C) "path" = some none
theorem walk_len : ∀ {p : List Int} {n : Nat} {rows : List PyData} {x : List PyData × Int}, deepR n rows → walkR rows p = some x → p.length ≤ 2 * n + 1
  | [], _, _, _, _, h => by cases h
  | [k], _, _, _, _, _ => by simp only [List.length_cons, List.length_nil]; omega
  | k :: j :: r, n, rows, x, d, h => by
    obtain ⟨a, b, row, bd, _, _, e1, e2, h⟩ := walk_two h
    cases n with
    | zero =>
      cases d
      simp at e1
    | succ n =>
      have := walk_len (d row (List.mem_of_getElem? e1) bd (List.mem_of_getElem? e2)) h
      simp only [List.length_cons]
      omega
theorem intsD_nats {ns : List Nat} : intsD (natsD ns) = intsN ns := ints_nats
theorem body_nats {rows : List PyData} {d : PyData} {x : List PyData × Int} (h : bodyAt rows d = some x) : ∃ ns, d = natsD ns ∧ walkR rows (intsN ns) = some x := by
  unfold bodyAt at h
  by_cases e : isPathD d = true
  · rw [if_pos e] at h
    cases d <;> first | (exact absurd e Bool.false_ne_true) | skip
    rename_i ds
    rw [isPathD, Bool.and_eq_true] at e
    obtain ⟨ns, rfl⟩ := path_nats e.2
    refine ⟨ns, rfl, ?_⟩
    rw [ints_nats] at h
    exact h
  · rw [if_neg e] at h
    cases h
theorem path_last {rows : List PyData} {ns : List Nat} {x : List PyData × Int} (hw : walkR rows (intsN ns) = some x) : ∃ l : Nat, ns[ns.length - 1]? = some l ∧ (l : Int) = x.2 := by
  have we := walk_end hw
  rw [intsN, List.length_map, List.getElem?_map] at we
  cases el : ns[ns.length - 1]? with
  | none => rw [el] at we; cases we
  | some l =>
    rw [el] at we
    exact ⟨l, rfl, Option.some.inj we⟩
/-- the way out by NoRow -/
def Rs (C : Addr) (p : V) (H : Hp) (E : XK) : Prop := ∀ (dx : Addr) (H' : Hp), Same H H' → H dx = none → H' dx = some (.xd [("path", p)]) → E (.ref C) (some dx) H'
def spRowAt (C : Addr) : Sp := fun vs H Q E => ∃ (v p : V) (rows : List PyData) (d : PyData), vs = [v, p] ∧ RowsAt H v rows ∧ Is H p d ∧ Small d ∧
  (∀ (x : List PyData × Int) (u : V) (H' : Hp) (r : PyData), bodyAt rows d = some x → endB 0 (some x) = true → Same H H' → x.1[x.2.toNat]? = some r → Is H' u r → Q u H') ∧ (endB 0 (bodyAt rows d) = false → Rs C p H E)
def spPut (C : Addr) : Sp := fun vs H Q E => ∃ (v p rv : V) (rows : List PyData) (d row : PyData), vs = [v, p, rv] ∧ RowsAt H v rows ∧ deepR 5 rows ∧ Is H p d ∧ Small d ∧ Is H rv row ∧ RowOk row ∧
  (∀ (u : V) (H' : Hp), endB 1 (bodyAt rows d) = true → Same H H' → Is H' u (.tuple (editD rows (intsD d) 0 [row])) → Q u H') ∧ (endB 1 (bodyAt rows d) = false → Rs C p H E)
def spChanged (C : Addr) : Sp := fun vs H Q E => ∃ (v p sv : V) (rows new : List PyData) (d : PyData), vs = [v, p, sv] ∧ RowsAt H v rows ∧ deepR 5 rows ∧ Is H p d ∧ Small d ∧ Is H sv (.tuple new) ∧ (∀ r ∈ new, RowOk r) ∧ new.length ≤ 1000000 ∧
  (∀ (u : V) (H' : Hp), endB 0 (bodyAt rows d) = true → Same H H' → Is H' u (.tuple (editD rows (intsD d) 1 new)) → Q u H') ∧ (endB 0 (bodyAt rows d) = false → Rs C p H E)
def spOut (C : Addr) : Sp := fun vs H Q E => ∃ (v p : V) (rows : List PyData) (d : PyData), vs = [v, p] ∧ RowsAt H v rows ∧ deepR 5 rows ∧ Is H p d ∧ Small d ∧
  (∀ (u : V) (H' : Hp), endB 0 (bodyAt rows d) = true → Same H H' → Is H' u (.tuple (editD rows (intsD d) 1 [])) → Q u H') ∧ (endB 0 (bodyAt rows d) = false → Rs C p H E)
section
variable {P : Program} {w : World} {K : PySem.W.Frag} {mg : Str → Option Value} {base : Heap} {A : Ad} {D : Fd} {C F : Addr}
theorem ok_spliced (T : Txt K mg A D) : FnOk P w K mg base CX0 9 A.spliced D.spliced ["rows", "path", "many", "some"] (spSpl 8) := ok_spliced_n T 8
theorem ok__law_edited (T : Txt K mg A D) : FnOk P w K mg base CX0 9 A._law_edited D._law_edited ["rows", "path", "many", "some"] (spSpl 8) := ok__law_edited_n T 8
theorem ok_NoRow___init__ (T : Txt K mg A D) (T2 : Tcl K mg A D C F) : FnOk P w K mg base CX0 1 A.NoRow___init__ D.NoRow___init__ ["self", "path"] (spInitX C "path") := by
  refine T.f_NoRow___init__.ok sc_NoRow___init__ (fun vs H Q E h => ?_) (fun cdv AA outer s H vs Q E hr h => ?_)
  · obtain ⟨a, y, rfl, _⟩ := h
    rfl
  · obtain ⟨a, y, rfl, ha, k⟩ := h
    refine ⟨_, (pss_one (ps_ost (pv 0) (pv 1))), ?_⟩
    exact ⟨_, rfl, _, rfl, a, C, rfl, T2.k_NoRow.oex, T2.nof, .inl ⟨ha, k⟩⟩
theorem ok_row_at (T : Txt K mg A D) (T2 : Tcl K mg A D C F) : FnOk P w K mg base (L2.CX P w) 4 A.row_at D.row_at ["rows", "path"] (spRowAt C) := by
  refine T.f_row_at.okX sc_row_at (fun vs H Q E h => ?_) (fun cdv AA outer s H vs Q E hr h => ?_)
  · obtain ⟨v, p, rows, d, rfl, _⟩ := h
    rfl
  · obtain ⟨v, p, rows, d, rfl, hv, hd, hz, k1, k2⟩ := h
    refine ⟨_, (pss_cons (ps_set (i := 2) sc_row_at.nd rfl (Or.inl rfl) (by exact (pe_call (ok_body_at T) (hr.mono (by decide)) rfl T.m_body_at T.f_body_at.kp (b_body_at T) .nil pass0 (pa_cons (pv 0) (pa_cons (pv 1) pa_nil)))))
  (pss_cons (ps_if (PW.pt (pw_or (pt_cmpR op_isN (pv 2) pe_non (nomark _)) (pw_or1 (pt_cmpR op_ge (pe_ix (ixK K rfl) (pv 1) (pe_un un_neg pe_int) (fun _ _ => rfl)) (pe_callB (lenK K rfl) (by rfl) T.b_len (by decide +kernel) (pa_cons (pv 2) pa_nil)) (nomark _))))) (pss_one (ps_raise rfl (takes_of rfl rfl rfl rfl) (pmk1 T2.k_NoRow (ok_NoRow___init__ T T2) (b_NoRow___init__ T) (hr.mono (by decide)) pass0 rfl (pv 1)))) pss_nil)
  (pss_one (ps_ret (pe_ix (ixK K rfl) (pv 2) (pe_ix (ixK K rfl) (pv 1) (pe_un un_neg pe_int) (fun _ _ => rfl)) (fun _ _ => rfl)))))), ?_⟩
    refine ⟨_, rfl, _, rfl, v, p, rows, d, rfl, hv, hd, hz, fun H1 s1 e => ?_, fun u H1 x s1 e hu => ?_⟩
    · refine ⟨_, rfl, rfl, _, rfl, iteT (iteT ⟨_, rfl, fun dx H2 hn s2 hx => k2 (by rw [e]; rfl) dx H2 (s1.trans s2) (Same.none s1 hn) hx⟩)⟩
    · have nu : u ≠ .non := by
        obtain ⟨hu1, _, _⟩ := hu
        cases hu1
        exact fun z => nomatch z
      refine ⟨_, rfl, rfl, _, rfl, ?_⟩
      rw [decide_eq_false nu]
      refine iteF ?_
      obtain ⟨ns, rfl, hw⟩ := body_nats e
      obtain ⟨a, rfl, ha⟩ := natsD_are hd
      obtain ⟨l, el, we⟩ := path_last hw
      obtain ⟨hu1, hu2, hu3⟩ := hu
      cases hu1 with
      | @tup c ws _ hc hC =>
      have lw := hC.length
      refine ⟨_, rfl, 1, rfl, q_ixLast (.inr (SqT.of (s1 _ _ ha))) (by rw [List.length_map, List.getElem?_map, el]; rfl) ⟨_, rfl, q_lenSq (.inr (SqT.of hc)) ⟨_, _, rfl, rfl, ⟨_, rfl, if_b (fun e1 => ?_) (fun e1 => ?_)⟩⟩⟩⟩
      · have e1 := of_decide_eq_true e1
        have en : endB 0 (bodyAt rows (natsD ns)) = false := by
          rw [e]
          show (decide (0 ≤ x.2) && decide (x.2 < ((x.1.length + 0 : Nat) : Int))) = false
          rw [decide_eq_false (show ¬ x.2 < ((x.1.length + 0 : Nat) : Int) by omega), Bool.and_false]
        exact ⟨_, rfl, fun dx H2 hn s2 hx => k2 en dx H2 (s1.trans s2) (Same.none s1 hn) hx⟩
      · have e1 := of_decide_eq_false e1
        have l2 : l < x.1.length := by omega
        have et : x.2.toNat = l := by omega
        have en : endB 0 (some x) = true := by
          show (decide (0 ≤ x.2) && decide (x.2 < ((x.1.length + 0 : Nat) : Int))) = true
          rw [decide_eq_true (show 0 ≤ x.2 by omega), decide_eq_true (show x.2 < ((x.1.length + 0 : Nat) : Int) by omega)]
          rfl
        obtain ⟨rv, er, hrow⟩ := at2 hC (List.getElem?_eq_getElem l2)
        refine ⟨_, rfl, _, rfl, 1, rfl, q_ixLast (.inr (SqT.of (s1 _ _ ha))) (by rw [List.length_map, List.getElem?_map, el]; rfl) (q_ix (i := l) (.inr (SqT.of hc)) rfl er ?_)⟩
        exact k1 x _ _ _ e en s1 (by rw [et]; exact List.getElem?_eq_getElem l2) hrow
theorem ok_put (T : Txt K mg A D) (T2 : Tcl K mg A D C F) : FnOk P w K mg base (L2.CX P w) 10 A.put D.put ["rows", "path", "row"] (spPut C) := by
  refine T.f_put.okX sc_put (fun vs H Q E h => ?_) (fun cdv AA outer s H vs Q E hr h => ?_)
  · obtain ⟨v, p, rv, rows, d, row, rfl, _⟩ := h
    rfl
  · obtain ⟨v, p, rv, rows, d, row, rfl, hv, dp, hd, hz, hrow, ro, k1, k2⟩ := h
    refine ⟨_, (pss_cons (ps_set (i := 3) sc_put.nd rfl (Or.inl rfl) (by exact (pe_call (ok_body_at T) (hr.mono (by decide)) rfl T.m_body_at T.f_body_at.kp (b_body_at T) .nil pass0 (pa_cons (pv 0) (pa_cons (pv 1) pa_nil)))))
  (pss_cons (ps_if (PW.pt (pw_or (pt_cmpR op_isN (pv 3) pe_non (nomark _)) (pw_or1 (pt_cmpR op_gt (pe_ix (ixK K rfl) (pv 1) (pe_un un_neg pe_int) (fun _ _ => rfl)) (pe_callB (lenK K rfl) (by rfl) T.b_len (by decide +kernel) (pa_cons (pv 3) pa_nil)) (nomark _))))) (pss_one (ps_raise rfl (takes_of rfl rfl rfl rfl) (pmk1 T2.k_NoRow (ok_NoRow___init__ T T2) (b_NoRow___init__ T) (hr.mono (by decide)) pass0 rfl (pv 1)))) pss_nil)
  (pss_one (ps_ret (pe_call (ok_spliced T) (hr.mono (by decide)) rfl T.m_spliced T.f_spliced.kp (b_spliced T) .nil pass0 (pa_cons (pv 0) (pa_cons (pv 1) (pa_cons pe_int (pa_cons (pe_tup (pa_cons (pv 2) pa_nil)) pa_nil))))))))), ?_⟩
    refine ⟨_, rfl, _, rfl, v, p, rows, d, rfl, hv, hd, hz, fun H1 s1 e => ?_, fun u H1 x s1 e hu => ?_⟩
    · refine ⟨_, rfl, rfl, _, rfl, iteT (iteT ⟨_, rfl, fun dx H2 hn s2 hx => k2 (by rw [e]; rfl) dx H2 (s1.trans s2) (Same.none s1 hn) hx⟩)⟩
    · have nu : u ≠ .non := by
        obtain ⟨hu1, _, _⟩ := hu
        cases hu1
        exact fun z => nomatch z
      refine ⟨_, rfl, rfl, _, rfl, ?_⟩
      rw [decide_eq_false nu]
      refine iteF ?_
      obtain ⟨ns, rfl, hw⟩ := body_nats e
      have pl := walk_len dp hw
      rw [intsN, List.length_map] at pl
      obtain ⟨a, rfl, ha⟩ := natsD_are hd
      obtain ⟨l, el, we⟩ := path_last hw
      obtain ⟨hu1, hu2, hu3⟩ := hu
      cases hu1 with
      | @tup c ws _ hc hC =>
      have lw := hC.length
      refine ⟨_, rfl, 1, rfl, q_ixLast (.inr (SqT.of (s1 _ _ ha))) (by rw [List.length_map, List.getElem?_map, el]; rfl) ⟨_, rfl, q_lenSq (.inr (SqT.of hc)) ⟨_, _, rfl, rfl, ⟨_, rfl, if_b (fun e1 => ?_) (fun e1 => ?_)⟩⟩⟩⟩
      · have e1 := of_decide_eq_true e1
        have en : endB 1 (bodyAt rows (natsD ns)) = false := by
          rw [e]
          show (decide (0 ≤ x.2) && decide (x.2 < ((x.1.length + 1 : Nat) : Int))) = false
          rw [decide_eq_false (show ¬ x.2 < ((x.1.length + 1 : Nat) : Int) by omega), Bool.and_false]
        exact ⟨_, rfl, fun dx H2 hn s2 hx => k2 en dx H2 (s1.trans s2) (Same.none s1 hn) hx⟩
      · have e1 := of_decide_eq_false e1
        have en : endB 1 (bodyAt rows (natsD ns)) = true := by
          rw [e]
          show (decide (0 ≤ x.2) && decide (x.2 < ((x.1.length + 1 : Nat) : Int))) = true
          rw [decide_eq_true (show 0 ≤ x.2 by omega), decide_eq_true (show x.2 < ((x.1.length + 1 : Nat) : Int) by omega)]
          rfl
        refine ⟨_, rfl, _, rfl, _, rfl, ⟨by show 1 ≤ sizeLine; decide, fun q hq => ?_⟩⟩
        have s2 := same_upd (o := .tup [rv]) hq
        have s12 := s1.trans s2
        refine ⟨v, .ref a, .ref q, rows, [row], ns, 0, x, rfl, hv.same s12, natsD_of (s12 _ _ ha), .tup upd_same (.cons (Is.same s12 hrow) .nil), fun r hr => ?_, by show 1 ≤ _; decide, hw, by omega, fun u2 H3 s3 hu3' => k1 _ _ en (s12.trans s3) ?_⟩
        · rw [List.mem_singleton.mp hr]
          exact ro
        · rw [intsD_nats]
          exact hu3'
theorem ok_changed (T : Txt K mg A D) (T2 : Tcl K mg A D C F) : FnOk P w K mg base (L2.CX P w) 10 A.changed D.changed ["rows", "path", "some"] (spChanged C) := by
  refine T.f_changed.okX sc_changed (fun vs H Q E h => ?_) (fun cdv AA outer s H vs Q E hr h => ?_)
  · obtain ⟨v, p, sv, rows, new, d, rfl, _⟩ := h
    rfl
  · obtain ⟨v, p, sv, rows, new, d, rfl, hv, dp, hd, hz, hs, hn, hl, k1, k2⟩ := h
    refine ⟨_, (pss_cons (ps_expr (pe_call (ok_row_at T T2) (hr.mono (by decide)) rfl T.m_row_at T.f_row_at.kp (b_row_at T) .nil (passes_call (takes_of rfl rfl rfl rfl) fun _ _ _ _ h => h) (pa_cons (pv 0) (pa_cons (pv 1) pa_nil))))
  (pss_one (ps_ret (pe_call (ok_spliced T) (hr.mono (by decide)) rfl T.m_spliced T.f_spliced.kp (b_spliced T) .nil pass0 (pa_cons (pv 0) (pa_cons (pv 1) (pa_cons pe_int (pa_cons (pv 2) pa_nil)))))))), ?_⟩
    refine ⟨_, rfl, _, rfl, v, p, rows, d, rfl, hv, hd, hz, fun x u H1 r e en s1 er hu => ?_, k2⟩
    obtain ⟨ns, rfl, hw⟩ := body_nats e
    have pl := walk_len dp hw
    rw [intsN, List.length_map] at pl
    refine ⟨_, rfl, _, rfl, _, rfl, ⟨v, p, sv, rows, new, ns, 1, x, rfl, hv.same s1, Is.same s1 hd, Is.same s1 hs, hn, hl, hw, by omega, fun u2 H3 s3 hu3 => k1 _ _ (by rw [e]; exact en) (s1.trans s3) ?_⟩⟩
    rw [intsD_nats]
    exact hu3
theorem ok_out (T : Txt K mg A D) (T2 : Tcl K mg A D C F) : FnOk P w K mg base (L2.CX P w) 11 A.out D.out ["rows", "path"] (spOut C) := by
  refine T.f_out.okX sc_out (fun vs H Q E h => ?_) (fun cdv AA outer s H vs Q E hr h => ?_)
  · obtain ⟨v, p, rows, d, rfl, _⟩ := h
    rfl
  · obtain ⟨v, p, rows, d, rfl, hv, dp, hd, hz, k1, k2⟩ := h
    refine ⟨_, (pss_one (ps_ret (pe_call (ok_changed T T2) (hr.mono (by decide)) rfl T.m_changed T.f_changed.kp (b_changed T) .nil (passes_call (takes_of rfl rfl rfl rfl) fun _ _ _ _ h => h) (pa_cons (pv 0) (pa_cons (pv 1) (pa_cons (pe_tup pa_nil) pa_nil)))))), ?_⟩
    refine ⟨_, rfl, _, rfl, ⟨Nat.zero_le _, fun q hq => ?_⟩⟩
    have s1 := same_upd (o := .tup []) hq
    refine ⟨v, p, .ref q, rows, [], d, rfl, hv.same s1, dp, Is.same s1 hd, hz, .tup upd_same .nil, (fun r hr => by cases hr), Nat.zero_le _, fun u H' en s2 hu => k1 u H' en (s1.trans s2) hu, fun en => ?_⟩
    intro dx H' s2 hn hx
    exact k2 en dx H' (s1.trans s2) (Same.none s1 hn) hx
end
end K14
set_option Elab.async false
set_option linter.all false
set_option maxRecDepth 100000
set_option maxHeartbeats 4000000
namespace K14
open PySem PySem.Spec L2 Quiet Gn Rw

/-- tuples stay -/
def TupKeep (H H' : Hp) : Prop := ∀ (b : Addr) (xs : List V), H b = some (.tup xs) → H' b = some (.tup xs)
theorem tk_same {H H' : Hp} (s : Same H H') : TupKeep H H' := fun b xs e => s _ _ e
theorem TupKeep.trans {H H' H'' : Hp} (a : TupKeep H H') (b : TupKeep H' H'') : TupKeep H H'' := fun c xs e => b c xs (a c xs e)
theorem tk_upd {H : Hp} {r : Addr} {bs : List V} {o : HO} (h : H r = some (.lst bs)) : TupKeep H (upd H r o) := fun b xs e => by
  have : b ≠ r := fun z => by rw [z, h] at e; cases e
  rw [upd_ne this]
  exact e
/-- a path, laid out -/
def PathV (H : Hp) (k : Nat) (v : V) : Prop := ∃ (a : Addr) (ns : List Nat), v = .ref a ∧ H a = some (.tup (ns.map fun n : Nat => V.int (n : Int))) ∧ 1 ≤ ns.length ∧ ns.length ≤ k ∧ ∀ m ∈ ns, m ≤ 1000000
theorem PathV.keep {H H' : Hp} {k : Nat} {v : V} (t : TupKeep H H') (h : PathV H k v) : PathV H' k v := by
  obtain ⟨a, ns, e, h1, h2⟩ := h
  exact ⟨a, ns, e, t _ _ h1, h2⟩
theorem PathV.more {H : Hp} {k k' : Nat} {v : V} (l : k ≤ k') (h : PathV H k v) : PathV H k' v := by
  obtain ⟨a, ns, e, h1, h2, h3, h4⟩ := h
  exact ⟨a, ns, e, h1, h2, Nat.le_trans h3 l, h4⟩
theorem sum_take_le {α : Type} (f : α → Nat) : ∀ (xs : List α) (i : Nat), ((xs.take i).map f).sum ≤ (xs.map f).sum
  | [], i => by simp
  | x :: xs, 0 => by simp
  | x :: xs, i + 1 => by
    have := sum_take_le f xs i
    simp only [List.take_succ_cons, List.map_cons, List.sum_cons]
    omega
theorem sum_mem_le {α : Type} (f : α → Nat) {x : α} : ∀ {xs : List α}, x ∈ xs → f x ≤ (xs.map f).sum
  | y :: ys, h => by
    simp only [List.map_cons, List.sum_cons]
    rcases List.mem_cons.mp h with rfl | h
    · omega
    · have := sum_mem_le f h
      omega
theorem hide_sub {S : Addr → Bool} {H : Hp} : Same (hide S H) H := fun b o e => by
  unfold hide at e
  by_cases h : S b = true
  · rw [if_pos h] at e
    cases e
  · rw [if_neg h] at e
    exact e
def spPaths : Nat → Sp
  | 0 => fun _ _ _ _ => False
  | n + 1 => fun vs H Q _ => ∃ (v : V) (rows : List PyData), vs = [v] ∧ RowsAt H v rows ∧ n ≤ 100 ∧ deepR n rows ∧ sizeF n rows ≤ 1000000 ∧
    ∀ (r : Addr) (ws : List V) (H' : Hp), Same H H' → H r = none → H' r = some (.lst ws) → ws.length = sizeF n rows → (∀ u ∈ ws, PathV H' (2 * n + 1) u) → Q (.ref r) H'
section
variable {P : Program} {w : World} {K : PySem.W.Frag} {mg : Str → Option Value} {base : Heap} {A : Ad} {D : Fd}
theorem ok_paths_n (T : Txt K mg A D) : ∀ n, FnOk P w K mg base CX0 (n + 1) A._law_paths D._law_paths ["rows"] (spPaths n)
  | 0 => T.f__law_paths.ok sc__law_paths (fun vs H Q E h => h.elim) (fun cdv AA outer s H vs Q E hr h => h.elim)
  | n + 1 => by
    have ih := ok_paths_n T n
    refine T.f__law_paths.ok sc__law_paths (fun vs H Q E h => ?_) (fun cdv AA outer s H vs Q E hr h => ?_)
    · obtain ⟨v, rows, rfl, _⟩ := h
      rfl
    · obtain ⟨v, rows, rfl, ⟨hv1, hv2, hv3⟩, n100, dp, sz, k⟩ := h
      refine ⟨_, (pss_cons (ps_set (i := 1) sc__law_paths.nd rfl (Or.inl rfl) (by exact (pe_lst pa_nil)))
  (pss_cons (ps_for PassesOwn.never rfl (pi_enumS K rfl rfl T.b_enumerate (pa_cons (pv 0) pa_nil)) (pg_tupK (n := 2) K rfl rfl (pgs_cons (pg_name (i := 2) sc__law_paths.nd rfl (Or.inr rfl)) (pgs_cons (pg_name (i := 3) sc__law_paths.nd rfl (Or.inl rfl)) pgs_nil)))
 (pss_cons (ps_expr (pe_bm PySem.F.plainAttrs_list PySem.F.slot_list_append PySem.F.type_list_append mt_append (pv 1) (pa_cons (pe_tup (pa_cons (pv 2) pa_nil)) pa_nil)))
  (pss_one (ps_for PassesOwn.never rfl (pi_enumS K rfl rfl T.b_enumerate (pa_cons (pe_call (ok__law_bodies T) (hr.mono (by omega)) rfl T.m__law_bodies T.f__law_bodies.kp (b__law_bodies T) .nil pass0 (pa_cons (pv 3) pa_nil)) pa_nil)) (pg_tupK (n := 2) K rfl rfl (pgs_cons (pg_name (i := 4) sc__law_paths.nd rfl (Or.inr rfl)) (pgs_cons (pg_name (i := 5) sc__law_paths.nd rfl (Or.inl rfl)) pgs_nil)))
 (pss_one (ps_expr (pe_bm PySem.F.plainAttrs_list PySem.F.slot_list_extend PySem.F.type_list_extend mt_extend (pv 1) (pa_cons (pe_lc (own := [("path", 6)]) rfl sc__law_paths.nd (pi_sq K rfl (pe_call ih (hr.mono (by omega)) rfl T.m__law_paths T.f__law_paths.kp (b__law_paths T) .nil pass0 (pa_cons (pv 5) pa_nil))) (blkOk_by (own := [("path", 6)]) (N := n__law_paths) (sc := defScope s__law_paths) (by decide +kernel)) (fun _ _ _ _ _ => (pg_name (i := 6) sc__law_paths.nd rfl (Or.inl rfl))) (fun _ _ _ _ _ => pts_nil) (fun _ _ _ _ _ => (pe_op (addK K rfl) (pe_tup (pa_cons (pv 2) (pa_cons (pv 4) pa_nil))) (pv 6)))) pa_nil))))))))
  (pss_one (ps_ret (pv 1))))), ?_⟩
      cases hv1 with
      | @tup c xs _ hc hC =>
      have lx := hC.length
      refine ⟨Nat.zero_le _, fun r0 hr0 => ?_⟩
      have s0 := same_upd (o := .lst []) hr0
      refine ⟨_, rfl, c, xs, rfl, .inr (SqT.of (s0 _ _ hc)), fun J G hG wk => ?_⟩
      refine for_it wk (fun i σ H' => ∃ (acc : List V) (t2 t3 t4 t5 t6 : Option V), σ = [some (.ref c), some (.ref r0), t2, t3, t4, t5, t6] ∧ Same H H' ∧ H' r0 = some (.lst acc) ∧ acc.length = i + ((rows.take i).map fun r => ((bodiesD r).map (sizeF (n - 1))).sum).sum ∧ ∀ u ∈ acc, PathV H' (2 * n + 1) u)
        ⟨[], none, none, none, none, none, rfl, s0, upd_same, rfl, fun u hu => by cases hu⟩ (fun i σ H' _ ⟨_, _, _, _, _, _, _, s1, _⟩ => hG H' fun o e => ?_) ?_ ?_
      · rw [s0 _ _ hc] at e
        cases e
        exact s1 _ _ hc
      · rintro i x _ H1 H2 hi ⟨acc, t2, t3, t4, t5, t6, rfl, s1, h1, la, hP⟩ ⟨Ta, x1, x2, rfl, nT, rfl, e1, e2⟩
        cases e1
        have e2 : xs[i]? = some x2 := e2
        obtain ⟨row, er, hrow⟩ := hC.at' e2
        have mr := List.mem_of_getElem? er
        obtain ⟨m, rfl⟩ : ∃ m, n = m + 1 := by
          cases n with
          | zero =>
            cases dp
            cases mr
          | succ m => exact ⟨m, rfl⟩
        have ro := hv2 row mr
        have zr := small_row hv3 mr
        have szr : ((bodiesD row).map (sizeF m)).sum ≤ sizeF (m + 1) rows := Nat.le_trans (sum_mem_le (fun r => ((bodiesD r).map (sizeF m)).sum) mr) (Nat.le_add_left _ _)
        have szt : i + 1 + ((rows.take i).map fun r => ((bodiesD r).map (sizeF m)).sum).sum + ((bodiesD row).map (sizeF m)).sum ≤ sizeF (m + 1) rows := by
          have := sum_take_le (fun r => ((bodiesD r).map (sizeF m)).sum) rows (i + 1)
          rw [sum_take _ er] at this
          show _ ≤ rows.length + _
          omega
        have sT := same_upd (o := .tup [V.int (i : Int), x2]) nT
        refine ⟨Ta, _, rfl, SqT.of upd_same, rfl, _, _, rfl, _, _, rfl, rfl, ?_⟩
        refine ⟨_, rfl, .inl ⟨rfl, _, SqL.of (sT _ _ h1)⟩, _, rfl, by show 1 ≤ sizeLine; decide, fun q hq => ?_⟩
        have sq := sT.trans (same_upd (o := .tup [V.int (i : Int)]) hq)
        refine ⟨r0, acc, .ref q, rfl, rfl, sq _ _ h1, sz2 (by rw [la]; show i + _ ≤ _; simp only [Nat.add_sub_cancel]; omega), ?_⟩
        have hP3 : ∀ u ∈ acc ++ [V.ref q], PathV (upd (upd (upd H1 Ta (.tup [V.int (i : Int), x2])) q (.tup [V.int (i : Int)])) r0 (.lst (acc ++ [V.ref q]))) (2 * (m + 1) + 1) u := by
          intro u hu
          refine PathV.keep (tk_upd (sq _ _ h1)) ?_
          rcases List.mem_append.mp hu with hu | hu
          · exact (hP u hu).keep (tk_same sq)
          · rw [List.mem_singleton.mp hu]
            refine ⟨q, [i], rfl, upd_same, by show 1 ≤ 1; decide, by show 1 ≤ _; omega, fun k hk => ?_⟩
            rw [List.mem_singleton.mp hk]
            have := (small_seq hv3 rfl).1
            omega
        have h4 : upd (upd (upd H1 Ta (.tup [V.int (i : Int), x2])) q (.tup [V.int (i : Int)])) r0 (.lst (acc ++ [V.ref q])) r0 = some (.lst (acc ++ [V.ref q])) := upd_same
        have s4 : Same H (upd (upd (upd H1 Ta (.tup [V.int (i : Int), x2])) q (.tup [V.int (i : Int)])) r0 (.lst (acc ++ [V.ref q]))) := same_over hr0 (s1.trans sq)
        have la4 : (acc ++ [V.ref q]).length = i + 1 + ((rows.take i).map fun r => ((bodiesD r).map (sizeF m)).sum).sum := by
          rw [List.length_append, la]
          show i + _ + 1 = _
          simp only [Nat.add_sub_cancel]
          omega
        generalize upd (upd (upd H1 Ta (.tup [V.int (i : Int), x2])) q (.tup [V.int (i : Int)])) r0 (.lst (acc ++ [V.ref q])) = H4 at hP3 h4 s4 ⊢
        generalize acc ++ [V.ref q] = acc4 at hP3 h4 la4
        refine ⟨_, rfl, x2, row, rfl, Is.same s4 hrow, ro, zr, fun r bs H5 s5 hn5 hr5 hA5 => ⟨r, bs, rfl, .inl (SqL.of hr5), fun J2 G2 hG2 wk2 => ?_⟩⟩
        have lb := hA5.length
        rw [List.length_map] at lb
        have h5 := s5 _ _ h4
        have nr : r ≠ r0 := fun z => by rw [z, h4] at hn5; cases hn5
        have hA6 := bodies_free h5 ro.body hA5
        have hS5 : ∀ b o, b ≠ r0 → H5 b = some o → hide (but r0) H5 b = some o := fun b o nb e => by
          rw [hide_ne (by simp [nb])]
          exact e
        refine for_it wk2 (fun j σ H' => ∃ (acc : List V) (t4 t5 t6 : Option V), σ = [some (.ref c), some (.ref r0), some (.int (i : Int)), some x2, t4, t5, t6] ∧ Same H H' ∧ Same (hide (but r0) H5) H' ∧ H' r0 = some (.lst acc) ∧
          acc.length = i + 1 + ((rows.take i).map fun r => ((bodiesD r).map (sizeF m)).sum).sum + (((bodiesD row).take j).map (sizeF m)).sum ∧ ∀ u ∈ acc, PathV H' (2 * (m + 1) + 1) u)
          ⟨acc4, t4, t5, t6, rfl, s4.trans s5, hide_sub, h5, by rw [la4]; rfl, fun u hu => (hP3 u hu).keep (tk_same s5)⟩ (fun j σ H' _ ⟨_, _, _, _, _, _, s', _⟩ => hG2 H' fun o e => ?_) ?_ ?_
        · exact s' _ _ (hS5 _ _ nr e)
        · rintro j x _ H6 H7 hj ⟨acc, t4, t5, t6, rfl, s6, s56, h6, la6, hP6⟩ ⟨Tb, x4, x5, rfl, nTb, rfl, e4, e5⟩
          cases e4
          have e5 : bs[j]? = some x5 := e5
          obtain ⟨bd, eb, hbd⟩ := hA6.at' e5
          rw [List.getElem?_map] at eb
          cases eb2 : (bodiesD row)[j]? with
          | none => rw [eb2] at eb; cases eb
          | some b =>
          rw [eb2] at eb
          cases eb
          have mb := List.mem_of_getElem? eb2
          have szj : i + 1 + ((rows.take i).map fun r => ((bodiesD r).map (sizeF m)).sum).sum + (((bodiesD row).take j).map (sizeF m)).sum + sizeF m b ≤ sizeF (m + 1) rows := by
            have := sum_take_le (sizeF m) (bodiesD row) (j + 1)
            rw [sum_take _ eb2] at this
            omega
          have sTb := same_upd (o := .tup [V.int (j : Int), x5]) nTb
          refine ⟨Tb, _, rfl, SqT.of upd_same, rfl, _, _, rfl, _, _, rfl, rfl, ?_⟩
          refine ⟨_, rfl, .inl ⟨rfl, _, SqL.of (sTb _ _ h6)⟩, _, rfl, ⟨x5, b, rfl, ⟨Is.same sTb (Is.same s56 hbd), ro.body b mb, small_body ro zr mb⟩, by omega, dp row mr b mb, by omega, fun rr ws H8 s8 hn8 h8 lw hPw => ?_⟩⟩
          refine ⟨rr, ws, rfl, .inl (SqL.of h8), fun J3 G3 hG3 wk3 Dd hDd => ?_⟩
          refine lc_it wk3 (fun l H9 => ∃ acc2 : List V, H9 Dd = some (.lst acc2) ∧ acc2.length = l ∧ (∀ u ∈ acc2, PathV H9 (2 * (m + 1) + 1) u) ∧ Same H8 H9) ⟨[], upd_same, rfl, fun u hu => (by cases hu), same_upd hDd⟩ (fun l H9 _ ⟨_, _, _, _, s'⟩ => hG3 H9 fun o e => s' _ _ e) ?_ ?_
          · rintro l x H9 _ hl ⟨acc2, hD9, ln, hP9, s9⟩ ⟨rfl, hx⟩
            obtain ⟨a8, ns, rfl, ha8, l1, l2, l3⟩ := hPw x (List.mem_of_getElem? hx)
            refine ⟨rfl, _, rfl, _, rfl, by show 2 ≤ sizeLine; decide, fun q2 hq2 => ⟨_, rfl, q_catT upd_same (same_upd hq2 _ _ (s9 _ _ ha8)) (sz3 (by rw [List.length_map]; show 2 + _ ≤ _; omega)) fun r9 H10 s10 h10 => ?_⟩⟩
            have s9t := (same_upd (o := .tup [V.int (i : Int), V.int (j : Int)]) hq2).trans s10
            refine ⟨acc2, s9t _ _ hD9, sz2 (by omega), acc2 ++ [.ref r9], upd_same, by rw [List.length_append, ln]; rfl, fun u hu => ?_, same_over hDd (s9.trans s9t)⟩
            refine PathV.keep (tk_upd (s9t _ _ hD9)) ?_
            rcases List.mem_append.mp hu with hu | hu
            · exact (hP9 u hu).keep (tk_same s9t)
            · rw [List.mem_singleton.mp hu]
              refine ⟨r9, i :: j :: ns, rfl, h10, by simp only [List.length_cons]; omega, by simp only [List.length_cons]; omega, fun k hk => ?_⟩
              have b1 := (small_seq hv3 rfl).1
              have b2 := bodies_len ro zr
              rcases List.mem_cons.mp hk with rfl | hk
              · omega
              · rcases List.mem_cons.mp hk with rfl | hk
                · omega
                · exact l3 k hk
          · rintro H9 ⟨acc2, hD9, ln, hP9, s9⟩
            have s69 := sTb.trans (s8.trans s9)
            have h9 := s69 _ _ h6
            refine ⟨r0, Dd, acc, acc2, rfl, rfl, h9, hD9, sz3 (by omega), ?_⟩
            refine ⟨acc ++ acc2, _, _, _, rfl, same_over hr0 (s6.trans s69), fun b o e => ?_, upd_same, by rw [List.length_append, la6, ln, lw, sum_take _ eb2]; omega, fun u hu => ?_⟩
            · have nb : b ≠ r0 := fun z => by
                rw [z] at e
                unfold hide at e
                rw [if_pos (by simp)] at e
                cases e
              rw [upd_ne nb]
              exact s69 _ _ (s56 _ _ e)
            · refine PathV.keep (tk_upd h9) ?_
              rcases List.mem_append.mp hu with hu | hu
              · exact (hP6 u hu).keep (tk_same s69)
              · exact hP9 u hu
        · rintro _ H6 ⟨acc, t4, t5, t6, rfl, s6, s56, h6, la6, hP6⟩
          refine ⟨acc, _, _, _, _, _, rfl, s6, h6, ?_, hP6⟩
          rw [la6, lb, List.take_length]
          simp only [Nat.add_sub_cancel]
          rw [sum_take _ er]
          omega
      · rintro _ H1 ⟨acc, t2, t3, t4, t5, t6, rfl, s1, h1, la, hP⟩
        refine ⟨_, rfl, k r0 acc H1 s1 hr0 h1 ?_ hP⟩
        rw [la, lx, List.take_length]
        cases n with
        | zero =>
          cases dp
          rfl
        | succ m => rfl
end
end K14
set_option Elab.async false
set_option linter.all false
set_option maxRecDepth 100000
set_option maxHeartbeats 4000000
namespace Gn
open PySem PySem.Spec PyProof.Rows L2 PySem.SeqAt Sem Quiet
/-- t != (), a tuple -/
def rNe0T : R2 := fun x y H Q => ∃ a b xs, x = .ref a ∧ y = .ref b ∧ H a = some (.tup xs) ∧ H b = some (.tup []) ∧ Q (.bl (!xs.isEmpty)) H
theorem op_ne0T {X : Cx} (hu : X.A.units + 64 < cLine) : OpR X (compareOp .NotEq) rNe0T := by
  intro pins s σ H x y v u Q I rx ry ⟨a, b, xs, e1, e2, ha, hb, q⟩
  subst e1 e2
  cases rx
  cases ry
  obtain ⟨us, r1, p1, _⟩ := I.tuple (SqT.of ha)
  obtain ⟨ws, r2, p2, _⟩ := I.tuple (SqT.of hb)
  cases r2
  have hu' : X.A.units < cLine := by omega
  have l1 := r1.length
  have e : (!((List.range (min us.toArray.size ([] : List Value).toArray.size)).all (fun _ => true) && us.toArray.size == ([] : List Value).toArray.size)) = !xs.isEmpty := by
    rw [List.size_toArray, ← l1]
    cases xs <;> simp
  refine RcNeAt.tuples (e := fun _ => true) p1 p2 hu' (fun j _ h2 => absurd h2 (Nat.not_lt_zero j)) _ _ _ _ ?_
  rw [e]
  exact ⟨.bl _, H, I, rfl, q⟩
end Gn
set_option Elab.async false
set_option linter.all false
set_option maxRecDepth 100000
set_option maxHeartbeats 4000000
namespace K14
open PySem PySem.Spec L2 Quiet Gn Rw

/-- all but lists stay -/
def Kp (H H' : Hp) : Prop := ∀ (b : Addr) (o : HO), H b = some o → (∀ xs, o ≠ .lst xs) → H' b = some o
theorem kp_same {H H' : Hp} (s : Same H H') : Kp H H' := fun b o e _ => s _ _ e
theorem Kp.trans {H H' H'' : Hp} (a : Kp H H') (b : Kp H' H'') : Kp H H'' := fun c o e n => b c o (a c o e n) n
theorem kp_upd {H : Hp} {r : Addr} {bs : List V} {o : HO} (h : H r = some (.lst bs)) : Kp H (upd H r o) := fun b u e n => by
  have : b ≠ r := fun z => by
    rw [z, h] at e
    cases e
    exact n _ rfl
  rw [upd_ne this]
  exact e
theorem kp_ext {p : Addr} {H H' : Hp} (hB : Bag H p) (x : Ext p H H') : Kp H H' := fun b o e n => by
  refine x.keep b o (fun z => ?_) e
  obtain ⟨q, b0, b1, b2, cs, h1, _⟩ := hB
  rw [z, h1] at e
  cases e
  exact n _ rfl
theorem Kp.tup {H H' : Hp} (k : Kp H H') {a : Addr} {xs : List V} (e : H a = some (.tup xs)) : H' a = some (.tup xs) := k _ _ e fun _ z => by cases z
theorem Kp.dic {H H' : Hp} (k : Kp H H') {a : Addr} {xs : List (Key × V)} (e : H a = some (.dK xs)) : H' a = some (.dK xs) := k _ _ e fun _ z => by cases z
theorem Kp.paths {H H' : Hp} (k : Kp H H') : TupKeep H H' := fun b xs e => k.tup e
/-- without lists -/
def noL (H : Hp) : Hp := fun b => match H b with
  | some (.lst _) => none
  | o => o
theorem noL_tup {H : Hp} {a : Addr} {xs : List V} (h : H a = some (.tup xs)) : noL H a = some (.tup xs) := by
  unfold noL
  rw [h]
theorem noL_kp {H H' : Hp} (k : Kp H H') : Same (noL H) H' := fun b o e => by
  unfold noL at e
  split at e
  · cases e
  · rename_i h
    exact k b o e fun xs z => h xs (by rw [e, z])
/-- rows stay where tuples do -/
theorem row_keep {H H' : Hp} (k : Kp H H') {d : PyData} (ro : RowOk d) : ∀ v, Is H v d → Is H' v d := by
  induction ro with
  | leaf hk hx =>
    intro v hd
    cases hd with
    | tup ha t =>
    cases t with
    | cons t1 t =>
    cases t with
    | cons t2 t =>
    cases t
    cases t1
    cases t2
    exact .tup (k.tup ha) (.cons (.str _) (.cons (.str _) .nil))
  | @doo s hs cs hn h ih =>
    intro v hd
    cases hd with
    | tup ha t =>
    cases t with
    | cons t1 t =>
    cases t with
    | cons t2 t =>
    cases t with
    | cons t3 t =>
    cases t
    cases t1
    cases t2
    cases t3 with
    | tup hc u =>
    refine .tup (k.tup ha) (.cons (.str _) (.cons (.str _) (.cons (.tup (k.tup hc) (are_imp ?_ u)) .nil)))
    intro d hd v' hv'
    obtain ⟨c, hc, rfl⟩ := List.mem_map.mp hd
    cases hv' with
    | tup e t =>
    cases t with
    | cons t1 t =>
    cases t with
    | cons t2 t =>
    cases t
    cases t1
    cases t2 with
    | tup e2 t2 =>
    exact .tup (k.tup e) (.cons (.str _) (.cons (.tup (k.tup e2) (are_imp (ih c hc) t2)) .nil))
  | iff ha0 hy hn ih1 ih2 =>
    intro v hd
    cases hd with
    | tup ha t =>
    cases t with
    | cons t1 t =>
    cases t with
    | cons t2 t =>
    cases t with
    | cons t3 t =>
    cases t with
    | cons t4 t =>
    cases t
    cases t1
    cases t2
    cases t3 with
    | tup e3 t3 =>
    cases t4 with
    | tup e4 t4 =>
    exact .tup (k.tup ha) (.cons (.str _) (.cons (.str _) (.cons (.tup (k.tup e3) (are_imp ih1 t3)) (.cons (.tup (k.tup e4) (are_imp ih2 t4)) .nil))))
  | loop hk hl hb ih =>
    intro v hd
    cases hd with
    | tup ha t =>
    cases t with
    | cons t1 t =>
    cases t with
    | cons t2 t =>
    cases t with
    | cons t3 t =>
    cases t
    cases t1
    cases t2
    cases t3 with
    | tup e3 t3 =>
    exact .tup (k.tup ha) (.cons (.str _) (.cons (.str _) (.cons (.tup (k.tup e3) (are_imp ih t3)) .nil)))
  | @trr b e hb cs hn h he ih1 ih2 ih3 =>
    intro v hd
    cases hd with
    | tup ha t =>
    cases t with
    | cons t1 t =>
    cases t with
    | cons t2 t =>
    cases t with
    | cons t3 t =>
    cases t with
    | cons t4 t =>
    cases t
    cases t1
    cases t2 with
    | tup e2 t2 =>
    cases t3 with
    | tup hc u =>
    cases t4 with
    | tup e4 t4 =>
    refine .tup (k.tup ha) (.cons (.str _) (.cons (.tup (k.tup e2) (are_imp ih1 t2)) (.cons (.tup (k.tup hc) (are_imp ?_ u)) (.cons (.tup (k.tup e4) (are_imp ih3 t4)) .nil))))
    intro d hd v' hv'
    obtain ⟨c, hc, rfl⟩ := List.mem_map.mp hd
    cases hv' with
    | tup e t =>
    cases t with
    | cons t1 t =>
    cases t with
    | cons t2 t =>
    cases t
    cases t1 with
    | tup e1 t1 =>
    cases t2 with
    | tup e2 t2 =>
    exact .tup (k.tup e) (.cons (.tup (k.tup e1) (are_strs t1)) (.cons (.tup (k.tup e2) (are_imp (ih2 c hc) t2)) .nil))
theorem rows_keep {H H' : Hp} (k : Kp H H') {ds : List PyData} (ro : ∀ d ∈ ds, RowOk d) {v : V} (h : Is H v (.tuple ds)) : Is H' v (.tuple ds) := by
  cases h with
  | tup e t => exact .tup (k.tup e) (are_imp (fun d hd => row_keep k (ro d hd)) t)
/-- a kit -/
structure Kit where
  (ad_s ad_a ad_w ad_e ad_l ad_c : Addr)
  st : List V
  (ks ws es ls cs : List Str)
def StepV (H : Hp) (v : V) : Prop := ∃ (a o : Addr) (x : Str) (os : List Str), v = .ref a ∧ H a = some (.tup [.str x, .ref o]) ∧ Nm x ∧ H o = some (.tup (os.map V.str)) ∧ 1 ≤ os.length ∧ os.length ≤ 3 ∧ ∀ y ∈ os, Nm y
structure KitAt (H : Hp) (kt : Addr) (q : Kit) : Prop where
  d : H kt = some (.dK [(.inr "steps", .ref q.ad_s), (.inr "asks", .ref q.ad_a), (.inr "words", .ref q.ad_w), (.inr "errors", .ref q.ad_e), (.inr "labels", .ref q.ad_l), (.inr "calls", .ref q.ad_c)])
  s : H q.ad_s = some (.tup q.st)
  sl : 1 ≤ q.st.length ∧ q.st.length ≤ 3
  sv : ∀ v ∈ q.st, StepV H v
  a : H q.ad_a = some (.tup (q.ks.map V.str))
  al : q.ks.length ≤ 3
  an : ∀ x ∈ q.ks, Nm x
  w : H q.ad_w = some (.tup (q.ws.map V.str))
  wl : 1 ≤ q.ws.length ∧ q.ws.length ≤ 3
  wn : ∀ x ∈ q.ws, Nm x
  e : H q.ad_e = some (.tup (q.es.map V.str))
  el : 1 ≤ q.es.length ∧ q.es.length ≤ 3
  en : ∀ x ∈ q.es, Nm x
  l : H q.ad_l = some (.tup (q.ls.map V.str))
  ll : 1 ≤ q.ls.length ∧ q.ls.length ≤ 3
  ln : ∀ x ∈ q.ls, Nm x
  c : H q.ad_c = some (.tup (q.cs.map V.str))
  cl : q.cs.length ≤ 3
  cn : ∀ x ∈ q.cs, Nm x
theorem StepV.keep {H H' : Hp} (k : Kp H H') {v : V} (h : StepV H v) : StepV H' v := by
  obtain ⟨a, o, x, os, e, h1, h2, h3, h4⟩ := h
  exact ⟨a, o, x, os, e, k.tup h1, h2, k.tup h3, h4⟩
theorem KitAt.keep {H H' : Hp} (k : Kp H H') {kt : Addr} {q : Kit} (h : KitAt H kt q) : KitAt H' kt q :=
  ⟨k.dic h.d, k.tup h.s, h.sl, fun v hv => (h.sv v hv).keep k, k.tup h.a, h.al, h.an, k.tup h.w, h.wl, h.wn, k.tup h.e, h.el, h.en, k.tup h.l, h.ll, h.ln, k.tup h.c, h.cl, h.cn⟩
/-- what is around a row: words and labels -/
def PairV (H : Hp) (v : V) (p : Str × Str) : Prop := ∃ a, v = .ref a ∧ H a = some (.tup [.str p.1, .str p.2])
def AroundAt (H : Hp) (va : Addr) (ps : List (Str × Str)) : Prop := ∃ vs, H va = some (.lst vs) ∧ PySem.Paired (PairV H) vs ps ∧ ps.length ≤ 20 ∧ ∀ p ∈ ps, Nm p.2
theorem ne_tup {H : Hp} {p a : Addr} {xs : List V} (hB : Bag H p) (h : H a = some (.tup xs)) : a ≠ p := fun z => by
  obtain ⟨q, b0, b1, b2, cs, h1, _⟩ := hB
  rw [z, h1] at h
  cases h
theorem pairs_keep {H H' : Hp} (k : Kp H H') : ∀ {vs : List V} {ps : List (Str × Str)}, PySem.Paired (PairV H) vs ps → PySem.Paired (PairV H') vs ps
  | _, _, .nil => .nil
  | _, _, .cons ⟨a, e, h⟩ t => .cons ⟨a, e, k.tup h⟩ (pairs_keep k t)
theorem AroundAt.ext {p va : Addr} {H H' : Hp} {ps : List (Str × Str)} (hB : Bag H p) (n : va ≠ p) (x : Ext p H H') (h : AroundAt H va ps) : AroundAt H' va ps := by
  obtain ⟨vs, h1, h2, h3⟩ := h
  exact ⟨vs, x.keep _ _ n h1, pairs_keep (kp_ext hB x) h2, h3⟩
def spLeaf : Sp := fun vs H Q _ => ∃ (p kt va : Addr) (q : Kit) (ps : List (Str × Str)), vs = [.ref p, .ref kt, .ref va] ∧ Bag H p ∧ KitAt H kt q ∧ AroundAt H va ps ∧ va ≠ p ∧
  ∀ (v : V) (d : PyData) (H' : Hp), Is H' v d → RowOk d → bodiesD d = [] → d.weight ≤ 100 → Ext p H H' → Q v H'
theorem str_at {K : PySem.W.Frag} {H : Hp} {a : Addr} {xs : List Str} {i : Nat} {v : V} (e : (xs.map V.str)[i]? = some v) : ∃ x ∈ xs, v = .str x := by
  rw [List.getElem?_map] at e
  cases h : xs[i]? with
  | none => rw [h] at e; cases e
  | some x =>
    rw [h] at e
    cases e
    exact ⟨x, List.mem_of_getElem? h, rfl⟩
section
variable {P : Program} {w : World} {K : PySem.W.Frag} {mg : Str → Option Value} {base : Heap} {A : Ad} {D : Fd}
theorem ok__law_leaf (T : Txt K mg A D) : FnOk P w K mg base CX0 3 A._law_leaf D._law_leaf ["bag", "kit", "around"] spLeaf := by
  refine T.f__law_leaf.ok sc__law_leaf (fun vs H Q E h => ?_) (fun cdv AA outer s H vs Q E hr h => ?_)
  · obtain ⟨p, kt, va, q, ps, rfl, _⟩ := h
    rfl
  · obtain ⟨p, kt, va, q, ps, rfl, hB, hK, hA, nv, k⟩ := h
    refine ⟨_, (pss_cons (ps_par (i := 3) (j := 4) (by rfl) sc__law_leaf.nd rfl rfl (by decide) rfl rfl (pa_cons (pe_call (ok__law_take T) (hr.mono (by decide)) rfl T.m__law_take T.f__law_take.kp (b__law_take T) .nil pass0 (pa_cons (pv 0) (pa_cons pe_int pa_nil))) (pa_cons (pe_lc (own := [("word", 5), ("label", 6)]) rfl sc__law_leaf.nd (pi_sq K rfl (pv 2)) (blkOk_by (own := [("word", 5), ("label", 6)]) (N := n__law_leaf) (sc := defScope s__law_leaf) (by decide +kernel)) (fun _ _ _ _ _ => (pg_tupK (n := 2) K rfl rfl (pgs_cons (pg_name (i := 5) sc__law_leaf.nd rfl (Or.inl rfl)) (pgs_cons (pg_name (i := 6) sc__law_leaf.nd rfl (Or.inl rfl)) pgs_nil)))) (fun _ _ _ _ _ => (pts_one (pt_cmpR (eqK K rfl (units_of hr)) (pv 5) pe_str (nomark _)))) (fun _ _ _ _ _ => (pv 6))) pa_nil)) (by rfl))
  (C8.pss_cut (ps_if (PW.pt (pw_and (pt_cmpR (eqK K rfl (units_of hr)) (pv 3) pe_int (nomark _)) (pw_and1 (pt_cmpR (op_ne0L (units_of hr)) (pv 2) (pe_lst pa_nil) (nomark _))))) (pss_one (ps_ret (pe_tup (pa_cons pe_str (pa_cons (pe_call (ok__law_one T) (hr.mono (by decide)) rfl T.m__law_one T.f__law_one.kp (b__law_one T) .nil pass0 (pa_cons (pv 0) (pa_cons (pe_lc (own := [("word", 5), ("label", 6)]) rfl sc__law_leaf.nd (pi_sq K rfl (pv 2)) (blkOk_by (own := [("word", 5), ("label", 6)]) (N := n__law_leaf) (sc := defScope s__law_leaf) (by decide +kernel)) (fun _ _ _ _ _ => (pg_tupK (n := 2) K rfl rfl (pgs_cons (pg_name (i := 5) sc__law_leaf.nd rfl (Or.inl rfl)) (pgs_cons (pg_name (i := 6) sc__law_leaf.nd rfl (Or.inl rfl)) pgs_nil)))) (fun _ _ _ _ _ => pts_nil) (fun _ _ _ _ _ => (pv 6))) pa_nil))) pa_nil))))) pss_nil)
  (C8.pss_cut (ps_if (PW.pt (pw_and (pt_cmpR (eqK K rfl (units_of hr)) (pv 3) pe_int (nomark _)) (pw_and1 (pt_cmpR (op_ne0L (units_of hr)) (pv 4) (pe_lst pa_nil) (nomark _))))) (pss_one (ps_ret (pe_tup (pa_cons pe_str (pa_cons (pe_call (ok__law_one T) (hr.mono (by decide)) rfl T.m__law_one T.f__law_one.kp (b__law_one T) .nil pass0 (pa_cons (pv 0) (pa_cons (pv 4) pa_nil))) pa_nil))))) pss_nil)
  (C8.pss_cut (ps_if (pt_cmpR (eqK K rfl (units_of hr)) (pv 3) pe_int (nomark _)) (pss_one (ps_ret (pe_tup (pa_cons pe_str (pa_cons (pe_call (ok__law_one T) (hr.mono (by decide)) rfl T.m__law_one T.f__law_one.kp (b__law_one T) .nil pass0 (pa_cons (pv 0) (pa_cons (pe_dget (hu_of hr) (pv 1) pe_str (fun _ _ => rfl)) pa_nil))) pa_nil))))) pss_nil)
  (C8.pss_cut (ps_if (PW.pt (pw_and (pt_cmpR (eqK K rfl (units_of hr)) (pv 3) pe_int (nomark _)) (pw_and1 (pt_cmpR (op_ne0T (units_of hr)) (pe_dget (hu_of hr) (pv 1) pe_str (fun _ _ => rfl)) (pe_tup pa_nil) (nomark _))))) (pss_one (ps_ret (pe_tup (pa_cons pe_str (pa_cons (pe_call (ok__law_one T) (hr.mono (by decide)) rfl T.m__law_one T.f__law_one.kp (b__law_one T) .nil pass0 (pa_cons (pv 0) (pa_cons (pe_dget (hu_of hr) (pv 1) pe_str (fun _ _ => rfl)) pa_nil))) pa_nil))))) pss_nil)
  (C8.pss_cut (ps_if (PW.pt (pw_and (pt_cmpR (eqK K rfl (units_of hr)) (pv 3) pe_int (nomark _)) (pw_and1 (pt_cmpR (eqK K rfl (units_of hr)) (pe_call (ok__law_take T) (hr.mono (by decide)) rfl T.m__law_take T.f__law_take.kp (b__law_take T) .nil pass0 (pa_cons (pv 0) (pa_cons pe_int pa_nil))) pe_int (nomark _))))) (pss_one (ps_ret (pe_tup (pa_cons pe_str (pa_cons (pe_call (ok__law_one T) (hr.mono (by decide)) rfl T.m__law_one T.f__law_one.kp (b__law_one T) .nil pass0 (pa_cons (pv 0) (pa_cons (pe_dget (hu_of hr) (pv 1) pe_str (fun _ _ => rfl)) pa_nil))) pa_nil))))) pss_nil)
  (C8.pss_cut (ps_if (PW.pt (pw_or (pt_cmpR op_lt (pv 3) pe_int (nomark _)) (pw_or1 (pt_cmpR (op_eq0T (units_of hr)) (pe_dget (hu_of hr) (pv 1) pe_str (fun _ _ => rfl)) (pe_tup pa_nil) (nomark _))))) (pss_one (ps_ret (pe_tup (pa_cons pe_str (pa_cons (pe_call (ok__law_one T) (hr.mono (by decide)) rfl T.m__law_one T.f__law_one.kp (b__law_one T) .nil pass0 (pa_cons (pv 0) (pa_cons (pe_dget (hu_of hr) (pv 1) pe_str (fun _ _ => rfl)) pa_nil))) pa_nil))))) pss_nil)
  (pss_one (ps_ret (pe_tup (pa_cons pe_str (pa_cons (pe_ix (ixK K rfl) (pe_call (ok__law_one T) (hr.mono (by decide)) rfl T.m__law_one T.f__law_one.kp (b__law_one T) .nil pass0 (pa_cons (pv 0) (pa_cons (pe_dget (hu_of hr) (pv 1) pe_str (fun _ _ => rfl)) pa_nil))) pe_int (fun _ _ => rfl)) (pa_cons (pe_tup pa_nil) pa_nil))))))))))))), ?_⟩
    -- the end: two texts
    have fin : ∀ (kk x : Str) (H' : Hp), kk ∈ leafK → Nm x → Ext p H H' → ∀ r, H' r = none → Q (.ref r) (upd H' r (.tup [.str kk, .str x])) := by
      intro kk x H' hk hx x1 r hr'
      refine k _ (.tuple [.str kk, .str x]) _ (.tup upd_same (.cons (.str _) (.cons (.str _) .nil))) (.leaf hk hx) (b_leaf hk) ?_ (x1.then (same_upd hr'))
      have h1 : kk.length ≤ 10 := by
        have : leafK.all (fun k => decide (k.length ≤ 10)) = true := by decide +kernel
        exact of_decide_eq_true (List.all_eq_true.mp this kk hk)
      have h2 := hx.2.1
      simp only [PyData.weight, PyData.weightAll, Str.length] at h1 h2 ⊢
      omega
    have low : ∀ (a : Addr) (xs : List Str) (H' : Hp), H a = some (.tup (xs.map V.str)) → Ext p H H' → H' a = some (.tup (xs.map V.str)) := fun a xs H' e x => (kp_ext hB x).tup e
    refine ⟨_, rfl, p, 10, rfl, by decide, by decide, hB, fun way H1 w0 w1 x1 => ?_⟩
    obtain ⟨vs, hva, hP, pl, pn⟩ := hA.ext hB nv x1
    have lp := PySem.Paired.length hP
    have hB1 := x1.bag
    -- labels of some of the pairs
    have labels : ∀ (f : Str × Str → Option V), (∀ q v, f q = some v → v = .str q.2) → ∀ v ∈ ps.filterMap f, ∃ x, v = .str x ∧ Nm x := by
      intro f hf v hv
      obtain ⟨q', hq', e⟩ := List.mem_filterMap.mp hv
      exact ⟨_, hf q' v e, pn q' hq'⟩
    refine ⟨_, rfl, va, vs, rfl, .inl (SqL.of hva), fun J G hG wk Dd hDd => ?_⟩
    refine comp_fm (G := G) (Y := YAt vs) ps (fun q => if q.1 = Str.ofString "loop" then some (.str q.2) else none) (by rw [← lp]; exact wk) hDd (sz2 (by omega)) (fun H' s' => hG H' fun o e => s' _ _ e) ?_ ?_
    · rintro i ⟨k1, l1⟩ y H2 H3 R hi s2 ⟨rfl, hx⟩ hR
      obtain ⟨a, rfl, ha⟩ := paired_get hP hx hi
      refine ⟨a, _, rfl, SqT.of (s2 _ _ ha), rfl, _, _, rfl, _, _, rfl, rfl, rfl, _, rfl, q_eqs ⟨_, rfl, if_b (fun e1 => ?_) (fun e1 => ?_)⟩⟩
      · have e1 := of_decide_eq_true e1
        have := hR _ (Same.refl _)
        rw [if_pos e1] at this
        exact ⟨_, rfl, this⟩
      · have e1 := of_decide_eq_false e1
        have := hR _ (Same.refl _)
        rw [if_neg e1] at this
        exact this
    · intro H2 s2 hl2
      have x2 := x1.then s2
      have hB2 := x2.bag
      have nD : Dd ≠ p := hB1.ne hDd
      have l1 : (ps.filterMap fun q => if q.1 = Str.ofString "loop" then some (V.str q.2) else none).length ≤ 20 := Nat.le_trans (List.length_filterMap_le _ _) pl
      have n1 := labels (fun q => if q.1 = Str.ofString "loop" then some (V.str q.2) else none) (fun q v e => by
        by_cases h : q.1 = Str.ofString "loop"
        · rw [if_pos h] at e
          exact (Option.some.inj e).symm
        · rw [if_neg h] at e
          cases e)
      generalize (ps.filterMap fun q => if q.1 = Str.ofString "loop" then some (V.str q.2) else none) = ls at hl2 l1 n1
      have hva2 := s2 _ _ hva
      have hP2 := pairs_keep (kp_same s2) hP
      have kit : ∀ H', Ext p H2 H' → KitAt H' kt q := fun H' x => hK.keep (kp_ext hB (x2.trans x))
      -- one of some names in the kit
      have pick : ∀ (kk : Str) (a : Addr) (xs : List Str) (H' : Hp), kk ∈ leafK → Ext p H2 H' → H' a = some (.tup (xs.map V.str)) → 1 ≤ xs.length → xs.length ≤ 3 → (∀ x ∈ xs, Nm x) →
          spOne K [.ref p, .ref a] H' (fun v H3 => 2 ≤ sizeLine ∧ ∀ r, H3 r = none → Q (.ref r) (upd H3 r (.tup [.str kk, v]))) E0 := by
        intro kk a xs H' hk x h1 h2 h3 h4
        refine ⟨p, .ref a, rfl, x.bag, .inl ⟨a, _, rfl, ne_tup x.bag h1, .inr (SqT.of h1), by rw [List.length_map]; exact h2, by rw [List.length_map]; omega, fun i v H3 hv x3 => ⟨by decide, fun r hr' => ?_⟩⟩⟩
        obtain ⟨x', hx', rfl⟩ := str_at (K := K) (H := H3) (a := a) hv
        exact fin kk x' H3 hk (h4 x' hx') (x2.trans (x.trans x3)) r hr'
      refine ⟨_, _, rfl, ?_⟩
      let Mid : L2.St → Hp → Prop := fun σ H' => (∃ t5 t6, σ = [some (.ref p), some (.ref kt), some (.ref va), some (.int way), some (.ref Dd), t5, t6]) ∧ Ext p H2 H'
      have mid0 : Mid [some (.ref p), some (.ref kt), some (.ref va), some (.int way), some (.ref Dd), none, none] H2 := ⟨⟨_, _, rfl⟩, .refl hB2⟩
      -- leave
      refine ⟨Mid, ?_, ?_⟩
      · refine ⟨_, rfl, q_eqi ⟨_, rfl, if_b (fun e => ?_) (fun _ => iteF mid0)⟩⟩
        refine ⟨_, rfl, Nat.zero_le _, fun q1 h1 => ⟨va, q1, vs, rfl, rfl, same_upd h1 _ _ hva2, upd_same, ⟨_, rfl, if_b (fun ne => ?_) (fun _ => ⟨⟨_, _, rfl⟩, .same hB2 (same_upd h1)⟩)⟩⟩⟩
        have sq := same_upd (o := .lst []) h1
        refine ⟨_, rfl, _, rfl, va, vs, rfl, .inl (SqL.of (sq _ _ hva2)), fun J2 G2 hG2 wk2 D2 hD2 => ?_⟩
        refine comp_map (G := G2) (Y := YAt vs) ps (fun q => V.str q.2) (by rw [← lp]; exact wk2) hD2 (sz2 (by omega)) (fun H' s' => hG2 H' fun o e => s' _ _ e) ?_ ?_
        · rintro i ⟨k1, l1⟩ y H4 H5 R hi s4 ⟨rfl, hx⟩ hR
          obtain ⟨a, rfl, ha⟩ := paired_get hP2 hx hi
          exact ⟨a, _, rfl, SqT.of (s4 _ _ (sq _ _ ha)), rfl, _, _, rfl, _, _, rfl, rfl, rfl, _, rfl, hR _ (Same.refl _)⟩
        · intro H4 s4 hl4
          have x4 := (Ext.same hB2 sq).then s4
          have vp : 0 < vs.length := by
            cases vs with
            | nil => cases ne
            | cons => exact Nat.zero_lt_succ _
          refine ⟨p, .ref D2, rfl, x4.bag, .inl ⟨D2, _, rfl, (hB2.same sq).ne hD2, .inl (SqL.of hl4), by rw [List.length_map]; omega, by rw [List.length_map]; omega, fun i v H5 hv x5 => ⟨by show 2 ≤ sizeLine; decide, fun r hr' => ?_⟩⟩⟩
          rw [List.getElem?_map] at hv
          cases hp : ps[i]? with
          | none => rw [hp] at hv; cases hv
          | some pr =>
          rw [hp] at hv
          cases hv
          exact fin "leave" pr.2 H5 (by decide +kernel) (pn pr (List.mem_of_getElem? hp)) (x2.trans (x4.trans x5)) r hr'
      rintro _ H3 ⟨⟨t5, t6, rfl⟩, x3⟩
      -- again
      refine ⟨Mid, ?_, ?_⟩
      · refine ⟨_, rfl, q_eqi ⟨_, rfl, if_b (fun e => ?_) (fun _ => iteF ⟨⟨_, _, rfl⟩, x3⟩)⟩⟩
        have hl3 := x3.keep _ _ nD hl2
        refine ⟨_, rfl, Nat.zero_le _, fun q1 h1 => ⟨Dd, q1, ls, rfl, rfl, same_upd h1 _ _ hl3, upd_same, ⟨_, rfl, if_b (fun ne => ?_) (fun _ => ⟨⟨_, _, rfl⟩, x3.then (same_upd h1)⟩)⟩⟩⟩
        have x4 := x3.then (same_upd (o := .lst []) h1)
        have vp : 0 < ls.length := by
          cases ls with
          | nil => cases ne
          | cons => exact Nat.zero_lt_succ _
        refine ⟨_, rfl, _, rfl, p, .ref Dd, rfl, x4.bag, .inl ⟨Dd, _, rfl, nD, .inl (SqL.of (same_upd h1 _ _ hl3)), vp, by omega, fun i v H5 hv x5 => ⟨by show 2 ≤ sizeLine; decide, fun r hr' => ?_⟩⟩⟩
        obtain ⟨x', rfl, hx'⟩ := n1 v (List.mem_of_getElem? hv)
        exact fin "again" x' H5 (by decide +kernel) hx' (x2.trans (x4.trans x5)) r hr'
      rintro _ H4 ⟨⟨t5', t6', rfl⟩, x4⟩
      -- raise
      refine ⟨Mid, ?_, ?_⟩
      · refine ⟨_, rfl, q_eqi ⟨_, rfl, if_b (fun e => ?_) (fun _ => ⟨⟨_, _, rfl⟩, x4⟩)⟩⟩
        have kk := kit _ x4
        exact ⟨_, rfl, _, rfl, kt, _, rfl, DGet.k (k := Sum.inr "errors") kk.d, pick "raise" _ _ _ (by decide +kernel) x4 kk.e kk.el.1 kk.el.2 kk.en⟩
      rintro _ H5 ⟨⟨t5'', t6'', rfl⟩, x5⟩
      -- call
      refine ⟨Mid, ?_, ?_⟩
      · refine ⟨_, rfl, q_eqi ⟨_, rfl, if_b (fun e => ?_) (fun _ => iteF ⟨⟨_, _, rfl⟩, x5⟩)⟩⟩
        have kk := kit _ x5
        refine ⟨_, rfl, kt, _, rfl, DGet.k (k := Sum.inr "calls") kk.d, Nat.zero_le _, fun q1 h1 => ⟨_, q1, _, rfl, rfl, same_upd h1 _ _ kk.c, upd_same, ⟨_, rfl, if_b (fun ne => ?_) (fun _ => ⟨⟨_, _, rfl⟩, x5.then (same_upd h1)⟩)⟩⟩⟩
        have x6 := x5.then (same_upd (o := .tup []) h1)
        have k6 := kit _ x6
        have vp : 1 ≤ q.cs.length := by
          cases h : q.cs with
          | nil => rw [h] at ne; cases ne
          | cons => exact Nat.succ_le_succ (Nat.zero_le _)
        exact ⟨_, rfl, _, rfl, kt, _, rfl, DGet.k (k := Sum.inr "calls") k6.d, pick "call" _ _ _ (by decide +kernel) x6 k6.c vp k6.cl k6.cn⟩
      rintro _ H6 ⟨⟨t51, t61, rfl⟩, x6⟩
      -- stop
      refine ⟨Mid, ?_, ?_⟩
      · refine ⟨_, rfl, q_eqi ⟨_, rfl, if_b (fun e => ?_) (fun _ => iteF ⟨⟨_, _, rfl⟩, x6⟩)⟩⟩
        refine ⟨_, rfl, p, 3, rfl, by decide, by decide, x6.bag, fun v H7 v0 v1 x7' => q_eqi ⟨_, rfl, if_b (fun e => ?_) (fun _ => ⟨⟨_, _, rfl⟩, x6.trans x7'⟩)⟩⟩
        have x7 := x6.trans x7'
        have kk := kit _ x7
        exact ⟨_, rfl, _, rfl, kt, _, rfl, DGet.k (k := Sum.inr "words") kk.d, pick "stop" _ _ _ (by decide +kernel) x7 kk.w kk.wl.1 kk.wl.2 kk.wn⟩
      rintro _ H7 ⟨⟨t52, t62, rfl⟩, x7⟩
      -- mark
      have mark : ∀ H', Ext p H2 H' → ∀ (t5 t6 : Option V), tRet (tTup (tCons (tC (.str "mark")) (tCons (tCall (spOne K) [] E0 (tCons (tVar 0) (tCons (tDGet (tVar 1) (tC (.str "words"))) tNil))) tNil))) { nx := fun x H' => Q V.non H', rt := Q } [some (.ref p), some (.ref kt), some (.ref va), some (.int way), some (.ref Dd), t5, t6] H' := fun H' x t5 t6 => by
        have kk := kit _ x
        exact ⟨_, rfl, _, rfl, kt, _, rfl, DGet.k (k := Sum.inr "words") kk.d, pick "mark" _ _ _ (by decide +kernel) x kk.w kk.wl.1 kk.wl.2 kk.wn⟩
      refine ⟨Mid, ?_, ?_⟩
      · refine ⟨_, rfl, _, _, rfl, rfl, ⟨_, rfl, if_b (fun e => iteT (mark _ x7 _ _)) (fun _ => ?_)⟩⟩
        have kk := kit _ x7
        refine ⟨_, rfl, kt, _, rfl, DGet.k (k := Sum.inr "steps") kk.d, Nat.zero_le _, fun q1 h1 => ⟨_, q1, _, rfl, rfl, same_upd h1 _ _ kk.s, upd_same, ⟨_, rfl, if_b (fun ne => mark _ (x7.then (same_upd h1)) _ _) (fun _ => ⟨⟨_, _, rfl⟩, x7.then (same_upd h1)⟩)⟩⟩⟩
      rintro _ H8 ⟨⟨t53, t63, rfl⟩, x8⟩
      -- do
      have kk := kit _ x8
      refine ⟨_, rfl, _, rfl, kt, _, rfl, DGet.k (k := Sum.inr "steps") kk.d, ⟨p, .ref q.ad_s, rfl, x8.bag, .inl ⟨_, _, rfl, ne_tup x8.bag kk.s, .inr (SqT.of kk.s), kk.sl.1, by have := kk.sl.2; omega, fun i v H9 hv x9' => ?_⟩⟩⟩
      have x9 := x8.trans x9'
      obtain ⟨a, o, x, os, rfl, ha, hx, _⟩ := (kit _ x9).sv v (List.mem_of_getElem? hv)
      refine q_ix (i := 0) (.inr (SqT.of ha)) rfl rfl ⟨Nat.zero_le _, fun q1 h1 => ⟨by show 3 ≤ sizeLine; decide, fun r hr' => ?_⟩⟩
      have s9 := same_upd (o := .tup []) h1
      have s10 := same_upd (o := .tup [V.str "do", V.str x, V.ref q1]) hr'
      refine k _ (.tuple [.str "do", .str x, .tuple (([] : List (Str × List PyData)).map doC)]) _ (.tup upd_same (.cons (.str _) (.cons (.str _) (.cons (.tup (s10 _ _ upd_same) .nil) .nil)))) (.doo hx (fun c hc => by cases hc) fun c hc => by cases hc) b_do ?_ (x2.trans (x9.then (s9.trans s10)))
      have h2 := hx.2.1
      have h3 : (Str.ofString "do").cps.size = 2 := by decide +kernel
      simp only [PyData.weight, PyData.weightAll, Str.length, List.map_nil] at h2 h3 ⊢
      omega
end
end K14
set_option Elab.async false
set_option linter.all false
set_option maxRecDepth 100000
set_option maxHeartbeats 4000000
namespace Rw
open PySem PySem.Spec L2 Quiet Gn
/-- how many rows; a row and those in it -/
def szs (rows : List PyData) : Nat := sizeF 7 rows
def szr (d : PyData) : Nat := 1 + ((bodiesD d).map szs).sum
def deep1 (n : Nat) (d : PyData) : Prop := ∀ b ∈ bodiesD d, deepR n b
theorem sz_rows {n : Nat} {rows : List PyData} (h : deepR (n + 1) rows) (hn : n ≤ 6) : szs rows = (rows.map szr).sum := by
  have key : ∀ {rs : List PyData}, (∀ r ∈ rs, deep1 n r) → rs.length + (rs.map fun r => ((bodiesD r).map (sizeF 6)).sum).sum = (rs.map szr).sum := by
    intro rs
    induction rs with
    | nil => intro _; rfl
    | cons r rs ih =>
      intro h
      have e : (bodiesD r).map (sizeF 6) = (bodiesD r).map szs := List.map_congr_left fun b hb => by
        have d := deepR_mono (show n ≤ 6 from hn) (h r List.mem_cons_self b hb)
        exact (sizeF_succ d).symm
      have := ih fun r' hr' => h r' (List.mem_cons_of_mem _ hr')
      simp only [List.length_cons, List.map_cons, List.sum_cons, e, szr]
      omega
  exact key h
theorem sz_of {n : Nat} {rows : List PyData} (h : deepR n rows) (hn : n ≤ 7) : szs rows = sizeF n rows := sizeF_mono hn h
theorem wt_rows {rows : List PyData} (h : ∀ r ∈ rows, r.weight + 1 ≤ 200 * szr r) : PyData.weightAll rows ≤ 200 * (rows.map szr).sum := by
  induction rows with
  | nil => exact Nat.zero_le _
  | cons r rs ih =>
    have h1 := h r List.mem_cons_self
    have h2 := ih fun r' hr' => h r' (List.mem_cons_of_mem _ hr')
    simp only [PyData.weightAll, List.map_cons, List.sum_cons]
    omega
theorem deepR_app {n : Nat} {a : List PyData} {d : PyData} (h : deepR (n + 1) a) (k : deep1 n d) : deepR (n + 1) (a ++ [d]) := fun r hr => by
  rcases List.mem_append.mp hr with hr | hr
  · exact h r hr
  · rw [List.mem_singleton.mp hr]
    exact k
end Rw
set_option Elab.async false
set_option linter.all false
set_option maxRecDepth 100000
set_option maxHeartbeats 4000000
namespace K14
open PySem PySem.Spec L2 Quiet Gn Rw

/-- rows, drawn: at most room of them, n deep -/
structure RowsD (n : Nat) (room : Int) (rows : List PyData) : Prop where
  ok : ∀ r ∈ rows, RowOk r
  deep : deepR n rows
  size : (szs rows : Int) ≤ max room 0
  wt : PyData.weightAll rows ≤ 200 * szs rows
structure RowD (n : Nat) (room : Int) (d : PyData) : Prop where
  ok : RowOk d
  deep : deep1 n d
  size : (szr d : Int) ≤ max room 1
  wt : d.weight + 1 ≤ 200 * szr d
theorem len_sum : ∀ rows : List PyData, rows.length ≤ (rows.map szr).sum
  | [] => Nat.le_refl _
  | r :: rs => by
    have := len_sum rs
    simp only [List.length_cons, List.map_cons, List.sum_cons, szr]
    omega
/-- what all these defs are handed -/
def Draw (H : Hp) (p kt va : Addr) (q : Kit) (ps : List (Str × Str)) : Prop := Bag H p ∧ KitAt H kt q ∧ AroundAt H va ps ∧ va ≠ p
theorem Draw.ext {p kt va : Addr} {q : Kit} {ps : List (Str × Str)} {H H' : Hp} (h : Draw H p kt va q ps) (x : Ext p H H') : Draw H' p kt va q ps :=
  ⟨x.bag, h.2.1.keep (kp_ext h.1 x), h.2.2.1.ext h.1 h.2.2.2 x, h.2.2.2⟩
/-- ps.length + n ≤ 20: what is around grows by one a level -/
def spRows : Nat → Sp
  | 0 => fun _ _ _ _ => False
  | n + 1 => fun vs H Q _ => ∃ (p kt va : Addr) (room deep : Int) (q : Kit) (ps : List (Str × Str)), vs = [.ref p, .ref kt, .int room, .int deep, .ref va] ∧ Draw H p kt va q ps ∧ ps.length + (n + 1) ≤ 20 ∧ n ≤ 5 ∧ room ≤ 20 ∧ 0 ≤ deep ∧ deep ≤ n ∧
    ∀ (v : V) (rows : List PyData) (H' : Hp), Is H' v (.tuple rows) → RowsD (n + 1) room rows → Ext p H H' → Q v H'
def spTry : Nat → Sp
  | 0 => fun _ _ _ _ => False
  | n + 1 => fun vs H Q _ => ∃ (p kt va : Addr) (room deep : Int) (q : Kit) (ps : List (Str × Str)), vs = [.ref p, .ref kt, .int room, .int deep, .ref va] ∧ Draw H p kt va q ps ∧ ps.length + (n + 1) ≤ 20 ∧ n ≤ 5 ∧ 1 ≤ room ∧ room ≤ 20 ∧ 0 ≤ deep ∧ deep ≤ n ∧
    ∀ (v : V) (d : PyData) (H' : Hp), Is H' v d → RowD (n + 1) (room + 1) d → Ext p H H' → Q v H'
/-- a row whose bodies are n deep -/
def spRow (n : Nat) : Sp := fun vs H Q _ => ∃ (p kt va : Addr) (room deep : Int) (q : Kit) (ps : List (Str × Str)), vs = [.ref p, .ref kt, .int room, .int deep, .ref va] ∧ Draw H p kt va q ps ∧ ps.length + n < 20 ∧ n ≤ 5 ∧ room ≤ 20 ∧ 0 ≤ deep ∧ deep ≤ n ∧
    ∀ (v : V) (d : PyData) (H' : Hp), Is H' v d → RowD n room d → Ext p H H' → Q v H'
section
variable {P : Program} {w : World} {K : PySem.W.Frag} {mg : Str → Option Value} {base : Heap} {A : Ad} {D : Fd}
theorem rows_n (T : Txt K mg A D) {n k : Nat} (ih : FnOk P w K mg base CX0 (k + 9) A._law_row D._law_row ["bag", "kit", "room", "deep", "around"] (spRow n)) : FnOk P w K mg base CX0 (k + 10) A._law_rows D._law_rows ["bag", "kit", "room", "deep", "around"] (spRows (n + 1)) := by
  refine T.f__law_rows.ok sc__law_rows (fun vs H Q E h => ?_) (fun cdv AA outer s H vs Q E hr h => ?_)
  · obtain ⟨p, kt, va, room, deep, q, ps, rfl, _⟩ := h
    rfl
  · obtain ⟨p, kt, va, room, deep, q, ps, rfl, hd, pl, nl, rl, d0, d1, k⟩ := h
    refine ⟨_, (pss_cons (ps_par (i := 5) (j := 6) (by rfl) sc__law_rows.nd rfl rfl (by decide) rfl rfl (pa_cons (pe_lst pa_nil) (pa_cons (pv 2) pa_nil)) (by rfl))
  (pss_cons (ps_while PassesOwn.never (PW.pt (pw_and (pt_cmpR op_gt (pv 6) pe_int (nomark _)) (pw_and1 (pt_cmpR op_gt (pe_call (ok__law_take T) (hr.mono (by omega)) rfl T.m__law_take T.f__law_take.kp (b__law_take T) .nil pass0 (pa_cons (pv 0) (pa_cons pe_int pa_nil))) pe_int (nomark _))))) (pss_cons (ps_set (i := 7) sc__law_rows.nd rfl (Or.inl rfl) (by exact (pe_call ih (hr.mono (by omega)) rfl T.m__law_row T.f__law_row.kp (b__law_row T) .nil pass0 (pa_cons (pv 0) (pa_cons (pv 1) (pa_cons (pv 6) (pa_cons (pv 3) (pa_cons (pv 4) pa_nil))))))))
  (pss_cons (ps_expr (pe_bm PySem.F.plainAttrs_list PySem.F.slot_list_append PySem.F.type_list_append mt_append (pv 5) (pa_cons (pv 7) pa_nil)))
  (pss_one (ps_set (i := 6) sc__law_rows.nd rfl (Or.inl rfl) (by exact (pe_op op_sub (pv 6) (pe_call (ok_size_n T 8) (hr.mono (by omega)) rfl T.m__law_size T.f__law_size.kp (b__law_size T) .nil pass0 (pa_cons (pe_lst (pa_cons (pv 7) pa_nil)) pa_nil)))))))))
  (pss_one (ps_ret (pe_callTy (tupleK K rfl) (by rfl) T.b_tuple (by decide +kernel) (pa_cons (pv 5) pa_nil)))))), ?_⟩
    refine ⟨Nat.zero_le _, fun f hf => ⟨_, rfl, _, _, rfl, ?_⟩⟩
    have nfp := hd.1.ne hf
    have x0 : Ext p H (upd H f (.lst [])) := .same hd.1 (same_upd hf)
    let W : Nat → L2.St → Hp → Prop := fun m σ H' => ∃ (acc : List V) (rows : List PyData) (left : Int) (t7 : Option V), σ = [some (.ref p), some (.ref kt), some (.int room), some (.int deep), some (.ref va), some (.ref f), some (.int left), t7] ∧ m = left.toNat ∧ left ≤ 20 ∧
      Ext p H H' ∧ H' f = some (.lst acc) ∧ Are H' acc rows ∧ (∀ r ∈ rows, RowOk r) ∧ deepR (n + 1) rows ∧ (∀ r ∈ rows, r.weight + 1 ≤ 200 * szr r) ∧ left = room - ((rows.map szr).sum : Nat) ∧ (((rows.map szr).sum : Nat) : Int) ≤ max room 0
    refine ⟨W, ⟨_, [], [], room, none, rfl, rfl, rl, x0, upd_same, .nil, (fun r hr => by cases hr), deepR_nil _, (fun r hr => by cases hr), by show room = room - ((0 : Nat) : Int); omega, by show ((0 : Nat) : Int) ≤ max room 0; omega⟩, ?_⟩
    rintro m _ H1 ⟨acc, rows, left, t7, rfl, rfl, l20, x1, h1, hA, ro, dp, wt, el, le⟩
    have done : ∀ (H2 : Hp), Ext p H1 H2 → ∀ t7, tRet (tCB (rTupleOf K) (tCons (tVar 5) tNil)) { nx := fun x H' => Q V.non H', rt := Q } [some (.ref p), some (.ref kt), some (.int room), some (.int deep), some (.ref va), some (.ref f), some (.int left), t7] H2 := fun H2 x2 t7 => by
      have h2 := x2.keep _ _ nfp h1
      refine ⟨_, rfl, f, acc, rfl, .inl ⟨SqL.of h2, fun r hr' => ?_⟩⟩
      have s3 := same_upd (o := .tup acc) hr'
      have kp := (kp_ext x1.bag x2).trans (kp_same s3)
      have hz := sz_rows dp (show n ≤ 6 by omega)
      refine k _ rows _ (.tup upd_same (are_imp (fun d hd => row_keep kp (ro d hd)) hA)) ⟨ro, dp, by rw [hz]; exact le, by rw [hz]; exact wt_rows wt⟩ ((x1.trans x2).then s3)
    refine ⟨_, rfl, _, _, rfl, rfl, ⟨_, rfl, if_b (fun e1 => ?_) (fun _ => iteF (done H1 (.refl x1.bag) _))⟩⟩
    have e1 : 0 < left := of_decide_eq_true e1
    refine ⟨_, rfl, p, 5, rfl, by decide, by decide, x1.bag, fun v H2 v0 v1 x2 => ⟨_, _, rfl, rfl, ⟨_, rfl, if_b (fun _ => ?_) (fun _ => done H2 x2 _)⟩⟩⟩
    refine ⟨fun σ' H' => ∃ m', m' < left.toNat ∧ W m' σ' H', fun σ' H' h => h, ?_⟩
    have x12 := x1.trans x2
    refine ⟨_, rfl, _, rfl, _, rfl, _, rfl, _, rfl, p, kt, va, left, deep, q, ps, rfl, hd.ext x12, by omega, nl, l20, d0, d1, fun u d H3 hu hD x3 => ?_⟩
    have x13 := x12.trans x3
    have h3 := x3.keep _ _ nfp (x2.keep _ _ nfp h1)
    have hA3 := are_imp (fun d hd => row_keep ((kp_ext x1.bag x2).trans (kp_ext x12.bag x3)) (ro d hd)) hA
    have la := hA3.length
    have ln := len_sum rows
    have sd := hD.size
    refine ⟨_, rfl, .inl ⟨rfl, _, SqL.of h3⟩, _, rfl, f, acc, u, rfl, rfl, h3, sz2 (by omega), ?_⟩
    have kf := kp_upd (o := .lst (acc ++ [u])) h3
    have x4 : Ext p H (upd H3 f (.lst (acc ++ [u]))) := x13.over hd.1 hf
    have hA4 : Are (upd H3 f (.lst (acc ++ [u]))) (acc ++ [u]) (rows ++ [d]) := Are.append (are_imp (fun d hd => row_keep kf (ro d hd)) hA3) (.cons (row_keep kf hD.ok _ hu) .nil)
    have hu4 := row_keep kf hD.ok _ hu
    have h4 : upd H3 f (.lst (acc ++ [u])) f = some (.lst (acc ++ [u])) := upd_same
    generalize upd H3 f (.lst (acc ++ [u])) = H4 at x4 hA4 hu4 h4 ⊢
    have dd : deepR (n + 1) [d] := fun r hr => by
      rw [List.mem_singleton.mp hr]
      exact hD.deep
    have zd : sizeF 7 [d] = szr d := by
      show szs [d] = _
      rw [sz_rows dd (by omega)]
      simp
    refine ⟨_, rfl, _, rfl, by show 1 ≤ sizeLine; decide, fun l hl => ⟨l, [u], [d], rfl, .inl (SqL.of upd_same), .cons (Is.same (same_upd hl) hu4) .nil, fun r hr => ?_, deepR_mono (show n + 1 ≤ 7 from by omega) dd, fun H5 s5 => ⟨_, _, rfl, rfl, ?_⟩⟩⟩
    · rw [List.mem_singleton.mp hr]
      refine ⟨hD.ok, ?_⟩
      have := hD.wt
      show d.weight ≤ 1000000
      omega
    have s45 := (same_upd (o := .lst [u]) hl).trans s5
    rw [zd]
    refine ⟨(left - (szr d : Int)).toNat, ?_, acc ++ [u], rows ++ [d], left - (szr d : Int), some u, rfl, rfl, by omega, x4.then s45, s45 _ _ h4, Are.same s45 hA4, fun r hr => ?_, deepR_app dp hD.deep, fun r hr => ?_, ?_, ?_⟩
    · have : 1 ≤ szr d := Nat.le_add_right _ _
      omega
    · rcases List.mem_append.mp hr with hr | hr
      · exact ro r hr
      · rw [List.mem_singleton.mp hr]
        exact hD.ok
    · rcases List.mem_append.mp hr with hr | hr
      · exact wt r hr
      · rw [List.mem_singleton.mp hr]
        exact hD.wt
    · rw [List.map_append, List.sum_append]
      simp only [List.map_cons, List.map_nil, List.sum_cons, List.sum_nil]
      omega
    · rw [List.map_append, List.sum_append]
      simp only [List.map_cons, List.map_nil, List.sum_cons, List.sum_nil]
      omega
end
end K14
set_option Elab.async false
set_option linter.all false
set_option maxRecDepth 100000
set_option maxHeartbeats 4000000
namespace K14
open PySem PySem.Spec L2 Quiet Gn Rw

theorem str_len {x : Str} (h : Nm x) : (PyData.str x).weight ≤ 8 := h.2.1
theorem RowD.of_leaf {n : Nat} {room : Int} {d : PyData} (ro : RowOk d) (hb : bodiesD d = []) (hw : d.weight ≤ 100) : RowD n room d := by
  have e : szr d = 1 := by
    rw [szr, hb]
    rfl
  refine ⟨ro, (fun b h => by rw [hb] at h; cases h), by rw [e]; omega, by rw [e]; omega⟩
theorem paired_app {α β : Type} {F : α → β → Prop} : ∀ {xs : List α} {ys : List β} {as : List α} {bs : List β}, PySem.Paired F xs ys → PySem.Paired F as bs → PySem.Paired F (xs ++ as) (ys ++ bs)
  | _, _, _, _, .nil, h => h
  | _, _, _, _, .cons a b, h => .cons a (paired_app b h)
theorem cases_keep {H H' : Hp} (k : Kp H H') {cs : List (Str × List PyData)} {vs : List V} (ro : ∀ c ∈ cs, ∀ r ∈ c.2, RowOk r) (h : Are H vs (cs.map doC)) : Are H' vs (cs.map doC) := by
  refine are_imp (fun d hd v hv => ?_) h
  obtain ⟨c, hc, rfl⟩ := List.mem_map.mp hd
  cases hv with
  | tup e t =>
  cases t with
  | cons t1 t =>
  cases t with
  | cons t2 t =>
  cases t
  cases t1
  exact .tup (k.tup e) (.cons (.str _) (.cons (rows_keep k (ro c hc) t2) .nil))
theorem wt_cases : ∀ {cs : List (Str × List PyData)}, (∀ c ∈ cs, Nm c.1 ∧ PyData.weightAll c.2 ≤ 200 * szs c.2) → PyData.weightAll (cs.map doC) ≤ 11 * cs.length + 200 * (cs.map fun c => szs c.2).sum
  | [], _ => Nat.zero_le _
  | c :: cs, h => by
    have ih := wt_cases fun c' hc' => h c' (List.mem_cons_of_mem _ hc')
    obtain ⟨h1, h2⟩ := h c List.mem_cons_self
    have h3 := str_len h1
    simp only [doC, PyData.weightAll, PyData.weight, List.map_cons, List.sum_cons, List.length_cons] at ih h3 ⊢
    omega
section
variable {P : Program} {w : World} {K : PySem.W.Frag} {mg : Str → Option Value} {base : Heap} {A : Ad} {D : Fd}
theorem row_n (T : Txt K mg A D) {n k : Nat} (ihR : FnOk P w K mg base CX0 (k + 9) A._law_rows D._law_rows ["bag", "kit", "room", "deep", "around"] (spRows n)) (ihT : FnOk P w K mg base CX0 (k + 10) A._law_try D._law_try ["bag", "kit", "room", "deep", "around"] (spTry n)) :
    FnOk P w K mg base CX0 (k + 11) A._law_row D._law_row ["bag", "kit", "room", "deep", "around"] (spRow n) := by
  refine T.f__law_row.ok sc__law_row (fun vs H Q E h => ?_) (fun cdv AA outer s H vs Q E hr h => ?_)
  · obtain ⟨p, kt, va, room, deep, q, ps, rfl, _⟩ := h
    rfl
  · obtain ⟨p, kt, va, room, deep, q, ps, rfl, hd, pl, nl, rl, d0, d1, k⟩ := h
    refine ⟨_, (pss_cons (ps_par (i := 5) (j := 6) (by rfl) sc__law_row.nd rfl rfl (by decide) rfl rfl (pa_cons (pe_call (ok__law_take T) (hr.mono (by omega)) rfl T.m__law_take T.f__law_take.kp (b__law_take T) .nil pass0 (pa_cons (pv 0) (pa_cons pe_int pa_nil))) (pa_cons (pe_op op_fdiv (pe_callTy call_int1 (by rfl) T.b_int (by decide +kernel) (pa_cons (pe_op op_sub (pv 2) pe_int) pa_nil)) pe_int) pa_nil)) (by rfl))
  (C8.pss_cut (ps_if (PW.pt (pw_or (pt_cmpR op_lt (pv 5) pe_int (nomark _)) (pw_or (pt_cmpR op_lt (pv 3) pe_int (nomark _)) (pw_or1 (pt_cmpR op_lt (pv 2) pe_int (nomark _)))))) (pss_one (ps_ret (pe_call (ok__law_leaf T) (hr.mono (by omega)) rfl T.m__law_leaf T.f__law_leaf.kp (b__law_leaf T) .nil pass0 (pa_cons (pv 0) (pa_cons (pv 1) (pa_cons (pv 4) pa_nil)))))) pss_nil)
  (C8.pss_cut (ps_if (PW.pt (pw_and (pt_cmpR op_lt (pv 5) pe_int (nomark _)) (pw_and1 (pt_cmpR (op_ne0T (units_of hr)) (pe_dget (hu_of hr) (pv 1) pe_str (fun _ _ => rfl)) (pe_tup pa_nil) (nomark _))))) (pss_cons (ps_par (i := 7) (j := 8) (by rfl) sc__law_row.nd rfl rfl (by decide) rfl rfl (pa_cons (pe_call (ok__law_one T) (hr.mono (by omega)) rfl T.m__law_one T.f__law_one.kp (b__law_one T) .nil pass0 (pa_cons (pv 0) (pa_cons (pe_dget (hu_of hr) (pv 1) pe_str (fun _ _ => rfl)) pa_nil))) (pa_cons (pe_call ihR (hr.mono (by omega)) rfl T.m__law_rows T.f__law_rows.kp (b__law_rows T) .nil pass0 (pa_cons (pv 0) (pa_cons (pv 1) (pa_cons (pv 6) (pa_cons (pe_op op_sub (pv 3) pe_int) (pa_cons (pv 4) pa_nil)))))) pa_nil)) (by rfl))
  (pss_one (ps_ret (pe_tup (pa_cons pe_str (pa_cons (pv 7) (pa_cons (pv 8) (pa_cons (pe_call ihR (hr.mono (by omega)) rfl T.m__law_rows T.f__law_rows.kp (b__law_rows T) .nil pass0 (pa_cons (pv 0) (pa_cons (pv 1) (pa_cons (pv 6) (pa_cons (pe_op op_sub (pv 3) pe_int) (pa_cons (pv 4) pa_nil)))))) pa_nil)))))))) pss_nil)
  (C8.pss_cut (ps_if (pt_cmpR op_lt (pv 5) pe_int (nomark _)) (pss_cons (ps_par (i := 9) (j := 10) (by rfl) sc__law_row.nd rfl rfl (by decide) rfl rfl (pa_cons (pe_ix (ixK K rfl) (pe_lst (pa_cons pe_str (pa_cons pe_str pa_nil))) (pe_call (ok__law_take T) (hr.mono (by omega)) rfl T.m__law_take T.f__law_take.kp (b__law_take T) .nil pass0 (pa_cons (pv 0) (pa_cons pe_int pa_nil))) (fun _ _ => rfl)) (pa_cons (pe_call (ok__law_one T) (hr.mono (by omega)) rfl T.m__law_one T.f__law_one.kp (b__law_one T) .nil pass0 (pa_cons (pv 0) (pa_cons (pe_dget (hu_of hr) (pv 1) pe_str (fun _ _ => rfl)) pa_nil))) pa_nil)) (by rfl))
  (pss_one (ps_ret (pe_tup (pa_cons (pv 9) (pa_cons (pv 10) (pa_cons (pe_call ihR (hr.mono (by omega)) rfl T.m__law_rows T.f__law_rows.kp (b__law_rows T) .nil pass0 (pa_cons (pv 0) (pa_cons (pv 1) (pa_cons (pe_op op_sub (pv 2) pe_int) (pa_cons (pe_op op_sub (pv 3) pe_int) (pa_cons (pe_op (addK K rfl) (pv 4) (pe_lst (pa_cons (pe_tup (pa_cons (pv 9) (pa_cons (pv 10) pa_nil))) pa_nil))) pa_nil)))))) pa_nil))))))) pss_nil)
  (C8.pss_cut (ps_if (PW.pt (pw_and (pt_cmpR op_lt (pv 5) pe_int (nomark _)) (pw_and1 (pt_cmpR (op_ne0T (units_of hr)) (pe_dget (hu_of hr) (pv 1) pe_str (fun _ _ => rfl)) (pe_tup pa_nil) (nomark _))))) (pss_cons (ps_asg (by exact (pe_call (ok__law_one T) (hr.mono (by omega)) rfl T.m__law_one T.f__law_one.kp (b__law_one T) .nil pass0 (pa_cons (pv 0) (pa_cons (pe_dget (hu_of hr) (pv 1) pe_str (fun _ _ => rfl)) pa_nil)))) (pg_tupK (n := 2) K rfl rfl (pgs_cons (pg_name (i := 11) sc__law_row.nd rfl (Or.inl rfl)) (pgs_cons (pg_name (i := 12) sc__law_row.nd rfl (Or.inl rfl)) pgs_nil))))
  (pss_cons (ps_par (i := 14) (j := 15) (by rfl) sc__law_row.nd rfl rfl (by decide) rfl rfl (pa_cons (pe_lc (own := [("one", 13)]) rfl sc__law_row.nd (pi_sq K rfl (pv 12)) (blkOk_by (own := [("one", 13)]) (N := n__law_row) (sc := defScope s__law_row) (by decide +kernel)) (fun _ _ _ _ _ => (pg_name (i := 13) sc__law_row.nd rfl (Or.inl rfl))) (fun _ _ _ _ _ => (pts_one (pt_cmpR op_gt (pe_call (ok__law_take T) (hr.mono (by omega)) rfl T.m__law_take T.f__law_take.kp (b__law_take T) .nil pass0 (pa_cons (pv 0) (pa_cons pe_int pa_nil))) pe_int (nomark _)))) (fun _ _ _ _ _ => (pv 13))) (pa_cons (pe_lst pa_nil) pa_nil)) (by rfl))
  (pss_cons (ps_for PassesOwn.never rfl (pi_sq K rfl (pv 14)) (pg_name (i := 13) sc__law_row.nd rfl (Or.inl rfl))
 (pss_one (ps_expr (pe_bm PySem.F.plainAttrs_list PySem.F.slot_list_append PySem.F.type_list_append mt_append (pv 15) (pa_cons (pe_tup (pa_cons (pv 13) (pa_cons (pe_call ihR (hr.mono (by omega)) rfl T.m__law_rows T.f__law_rows.kp (b__law_rows T) .nil pass0 (pa_cons (pv 0) (pa_cons (pv 1) (pa_cons (pe_op op_fdiv (pe_callTy call_int1 (by rfl) T.b_int (by decide +kernel) (pa_cons (pe_op op_sub (pv 2) pe_int) pa_nil)) (pe_callB (lenK K rfl) (by rfl) T.b_len (by decide +kernel) (pa_cons (pv 14) pa_nil))) (pa_cons (pe_op op_sub (pv 3) pe_int) (pa_cons (pv 4) pa_nil)))))) pa_nil))) pa_nil)))))
  (pss_one (ps_ret (pe_tup (pa_cons pe_str (pa_cons (pv 11) (pa_cons (pe_callTy (tupleK K rfl) (by rfl) T.b_tuple (by decide +kernel) (pa_cons (pv 15) pa_nil)) pa_nil))))))))) pss_nil)
  (pss_one (ps_ret (pe_call ihT (hr.mono (by omega)) rfl T.m__law_try T.f__law_try.kp (b__law_try T) .nil pass0 (pa_cons (pv 0) (pa_cons (pv 1) (pa_cons (pe_op op_sub (pv 2) pe_int) (pa_cons (pe_op op_sub (pv 3) pe_int) (pa_cons (pv 4) pa_nil))))))))))))), ?_⟩
    refine ⟨_, rfl, p, 14, rfl, by decide, by decide, hd.1, fun way H1 w0 w1 x1 => ⟨_, rfl, _, _, rfl, rfl, .inl ⟨_, rfl, ⟨_, _, rfl, rfl, ⟨by decide, by decide⟩, ⟨_, _, rfl, ?_⟩⟩⟩⟩⟩
    let Mid : L2.St → Hp → Prop := fun σ H' => σ = [some (.ref p), some (.ref kt), some (.int room), some (.int deep), some (.ref va), some (.int way), some (.int ((room - 1) / 2)), none, none, none, none, none, none, none, none, none] ∧ Ext p H H' ∧ 2 ≤ room ∧ 1 ≤ deep
    -- a leaf
    refine ⟨Mid, ?_, ?_⟩
    · have leaf : tRet (tCall spLeaf [] E0 (tCons (tVar 0) (tCons (tVar 1) (tCons (tVar 4) tNil)))) { nx := Mid, rt := Q } [some (.ref p), some (.ref kt), some (.int room), some (.int deep), some (.ref va), some (.int way), some (.int ((room - 1) / 2)), none, none, none, none, none, none, none, none, none] H1 := by
        have hd1 := hd.ext x1
        exact ⟨_, rfl, _, rfl, _, rfl, p, kt, va, q, ps, rfl, hd1.1, hd1.2.1, hd1.2.2.1, hd1.2.2.2, fun v d H2 hv ro hb hw x2 => k v d H2 hv (.of_leaf ro hb hw) (x1.trans x2)⟩
      refine ⟨_, rfl, _, _, rfl, rfl, ⟨_, rfl, if_b (fun _ => iteT leaf) (fun _ => ?_)⟩⟩
      refine ⟨_, rfl, _, _, rfl, rfl, ⟨_, rfl, if_b (fun _ => iteT leaf) (fun e1 => ?_)⟩⟩
      refine ⟨_, rfl, _, _, rfl, rfl, ⟨_, rfl, if_b (fun _ => leaf) (fun e2 => ?_)⟩⟩
      have e1 := of_decide_eq_false e1
      have e2 := of_decide_eq_false e2
      exact ⟨rfl, x1, by omega, by omega⟩
    rintro _ H2 ⟨rfl, x2, r2, dp1⟩
    obtain ⟨m, rfl⟩ : ∃ m, n = m + 1 := ⟨n - 1, by omega⟩
    have dm : deep - 1 ≤ (m : Int) := by omega
    -- if
    refine ⟨Mid, ?_, ?_⟩
    · refine ⟨_, rfl, _, _, rfl, rfl, ⟨_, rfl, if_b (fun _ => ?_) (fun _ => iteF ⟨rfl, x2, r2, dp1⟩)⟩⟩
      have kk := (hd.ext x2).2.1
      refine ⟨_, rfl, kt, _, rfl, DGet.k (k := Sum.inr "asks") kk.d, Nat.zero_le _, fun q1 h1 => ⟨_, q1, _, rfl, rfl, same_upd h1 _ _ kk.a, upd_same, ⟨_, rfl, if_b (fun ne => ?_) (fun _ => ⟨rfl, x2.then (same_upd h1), r2, dp1⟩)⟩⟩⟩
      have x3 := x2.then (same_upd (o := .tup []) h1)
      have hd3 := hd.ext x3
      have kk := hd3.2.1
      have vp : 1 ≤ q.ks.length := by
        cases h : q.ks with
        | nil => rw [h] at ne; cases ne
        | cons => exact Nat.succ_le_succ (Nat.zero_le _)
      refine ⟨_, rfl, _, rfl, kt, _, rfl, DGet.k (k := Sum.inr "asks") kk.d, ⟨p, .ref q.ad_a, rfl, x3.bag, .inl ⟨_, _, rfl, ne_tup x3.bag kk.a, .inr (SqT.of kk.a), by rw [List.length_map]; exact vp, by have := kk.al; rw [List.length_map]; omega, fun i v H4 hv x4' => ?_⟩⟩⟩
      obtain ⟨ask, ha, rfl⟩ := str_at (K := K) (H := H4) (a := q.ad_a) hv
      have an := kk.an ask ha
      have x4 := x3.trans x4'
      refine ⟨_, rfl, _, rfl, _, rfl, _, rfl, _, _, rfl, rfl, _, rfl, p, kt, va, (room - 1) / 2, deep - 1, q, ps, rfl, hd.ext x4, by omega, by omega, by omega, by omega, dm, fun yv y H5 hy hY x5' => ⟨_, _, rfl, ?_⟩⟩
      have x5 := x4.trans x5'
      refine ⟨_, rfl, _, rfl, _, rfl, _, rfl, _, rfl, _, rfl, _, _, rfl, rfl, _, rfl, p, kt, va, (room - 1) / 2, deep - 1, q, ps, rfl, hd.ext x5, by omega, by omega, by omega, by omega, dm, fun nv n H6 hn hN x6' => ⟨by show 4 ≤ sizeLine; decide, fun r hr' => ?_⟩⟩
      have s7 := same_upd (o := .tup [V.str "if", V.str ask, yv, nv]) hr'
      have x7 := (x5.trans x6').then s7
      have sy := hY.size
      have sn := hN.size
      have wy := hY.wt
      have wn := hN.wt
      have wa := str_len an
      have e : szr (.tuple [.str "if", .str ask, .tuple y, .tuple n]) = 1 + (szs y + szs n) := by
        rw [szr, b_if]
        simp
      refine k _ (.tuple [.str "if", .str ask, .tuple y, .tuple n]) _ (.tup upd_same (.cons (.str _) (.cons (.str _) (.cons (rows_keep ((kp_ext x5.bag x6').trans (kp_same s7)) hY.ok hy) (.cons (rows_keep (kp_same s7) hN.ok hn) .nil))))) ⟨.iff an hY.ok hN.ok, fun b hb => ?_, by rw [e]; omega, ?_⟩ x7
      · rw [b_if] at hb
        simp only [List.mem_cons, List.not_mem_nil, or_false] at hb
        rcases hb with rfl | rfl
        · exact hY.deep
        · exact hN.deep
      · rw [e]
        have h2 : (Str.ofString "if").cps.size = 2 := by decide +kernel
        simp only [PyData.weight, PyData.weightAll, h2] at wa ⊢
        omega
    rintro _ H3 ⟨rfl, x3, _, _⟩
    -- loop, block
    refine ⟨Mid, ?_, ?_⟩
    · refine ⟨_, rfl, _, _, rfl, rfl, ⟨_, rfl, if_b (fun _ => ?_) (fun _ => ⟨rfl, x3, r2, dp1⟩)⟩⟩
      refine ⟨by show 2 ≤ sizeLine; decide, fun l hl => ⟨_, rfl, p, 2, rfl, by decide, by decide, (x3.then (same_upd hl)).bag, fun v H4 v0 v1 x4' => ?_⟩⟩
      have x3' := x3.then (same_upd (o := .lst [V.str "loop", V.str "block"]) hl)
      have x4 := x3'.trans x4'
      have nl' : l ≠ p := x3.bag.ne hl
      obtain ⟨word, hwd, gw⟩ : ∃ word ∈ ([Str.ofString "loop", Str.ofString "block"] : List Str), ([V.str "loop", V.str "block"] : List V)[v.toNat]? = some (.str word) := by
        have : v = 0 ∨ v = 1 := by omega
        rcases this with rfl | rfl
        · exact ⟨_, by decide +kernel, rfl⟩
        · exact ⟨_, by decide +kernel, rfl⟩
      refine q_ix (i := v.toNat) (.inl (SqL.of (x4'.keep _ _ nl' upd_same))) (by omega) gw ?_
      have kk := (hd.ext x4).2.1
      refine ⟨_, rfl, _, rfl, kt, _, rfl, DGet.k (k := Sum.inr "labels") kk.d, ⟨p, .ref q.ad_l, rfl, x4.bag, .inl ⟨_, _, rfl, ne_tup x4.bag kk.l, .inr (SqT.of kk.l), by rw [List.length_map]; exact kk.ll.1, by have := kk.ll.2; rw [List.length_map]; omega, fun i u H5 hu x5' => ?_⟩⟩⟩
      obtain ⟨label, hl', rfl⟩ := str_at (K := K) (H := H5) (a := q.ad_l) hu
      have an := kk.ln label hl'
      have x5 := x4.trans x5'
      refine ⟨_, _, rfl, ?_⟩
      obtain ⟨b1, b2, ⟨vs, hva, hP, pl2, pn⟩, b4⟩ := hd.ext x5
      refine ⟨_, rfl, _, rfl, _, rfl, _, rfl, _, rfl, _, _, rfl, rfl, _, rfl, _, _, rfl, rfl, _, rfl, _, rfl, _, rfl, by show 2 ≤ sizeLine; decide, fun t ht => ⟨by show 1 ≤ sizeLine; decide, fun l2 hl2 => ?_⟩⟩
      have s6 := (same_upd (o := .tup [V.str word, V.str label]) ht).trans (same_upd (o := .lst [V.ref t]) hl2)
      refine q_catL (s6 _ _ hva) upd_same (sz3 (by have := PySem.Paired.length hP; show _ + 1 ≤ _; omega)) fun r hr' => ?_
      have s7 := s6.trans (same_upd (o := .lst (vs ++ [V.ref t])) hr')
      have x7 := x5.then s7
      have hd7 : Draw (upd (upd (upd H5 t (.tup [V.str word, V.str label])) l2 (.lst [V.ref t])) r (.lst (vs ++ [V.ref t]))) p kt r q (ps ++ [(word, label)]) := by
        refine ⟨x7.bag, (hd.ext x7).2.1, ⟨_, upd_same, paired_app (pairs_keep (kp_same s7) hP) (.cons ⟨t, rfl, ?_⟩ .nil), ?_, ?_⟩, (x5.then s6).bag.ne hr'⟩
        · exact same_upd hr' _ _ (same_upd hl2 _ _ upd_same)
        · rw [List.length_append]
          show _ + 1 ≤ _
          omega
        · intro pr hpr
          rcases List.mem_append.mp hpr with hpr | hpr
          · exact pn pr hpr
          · rw [List.mem_singleton.mp hpr]
            exact an
      generalize upd (upd (upd H5 t (.tup [V.str word, V.str label])) l2 (.lst [V.ref t])) r (.lst (vs ++ [V.ref t])) = H7 at s7 x7 hd7 ⊢
      refine ⟨p, kt, r, room - 1, deep - 1, q, _, rfl, hd7, by rw [List.length_append]; show _ + 1 + _ ≤ _; omega, by omega, by omega, by omega, dm, fun bv b H8 hb hY x8' => ⟨by show 3 ≤ sizeLine; decide, fun r9 hr9 => ?_⟩⟩
      have s9 := same_upd (o := .tup [V.str word, V.str label, bv]) hr9
      have sy := hY.size
      have wy := hY.wt
      have wa := str_len an
      have ww : (PyData.str word).weight ≤ 5 := by
        simp only [List.mem_cons, List.not_mem_nil, or_false] at hwd
        rcases hwd with rfl | rfl <;> decide +kernel
      have e : szr (.tuple [.str word, .str label, .tuple b]) = 1 + szs b := by
        rw [szr, b_loop hwd]
        simp
      refine k _ (.tuple [.str word, .str label, .tuple b]) _ (.tup upd_same (.cons (.str _) (.cons (.str _) (.cons (rows_keep (kp_same s9) hY.ok hb) .nil)))) ⟨.loop hwd an hY.ok, fun b' hb' => ?_, by rw [e]; omega, ?_⟩ ((x7.trans x8').then s9)
      · rw [b_loop hwd] at hb'
        rw [List.mem_singleton.mp hb']
        exact hY.deep
      · rw [e]
        simp only [PyData.weight, PyData.weightAll] at wa ww ⊢
        omega
    rintro _ H4 ⟨rfl, x4, _, _⟩
    -- do
    refine ⟨Mid, ?_, ?_⟩
    · refine ⟨_, rfl, _, _, rfl, rfl, ⟨_, rfl, if_b (fun _ => ?_) (fun _ => iteF ⟨rfl, x4, r2, dp1⟩)⟩⟩
      have kk := (hd.ext x4).2.1
      refine ⟨_, rfl, kt, _, rfl, DGet.k (k := Sum.inr "steps") kk.d, Nat.zero_le _, fun q1 h1 => ⟨_, q1, _, rfl, rfl, same_upd h1 _ _ kk.s, upd_same, ⟨_, rfl, if_b (fun ne => ?_) (fun _ => ⟨rfl, x4.then (same_upd h1), r2, dp1⟩)⟩⟩⟩
      have x5 := x4.then (same_upd (o := .tup []) h1)
      have kk := (hd.ext x5).2.1
      refine ⟨_, rfl, _, rfl, kt, _, rfl, DGet.k (k := Sum.inr "steps") kk.d, ⟨p, .ref q.ad_s, rfl, x5.bag, .inl ⟨_, _, rfl, ne_tup x5.bag kk.s, .inr (SqT.of kk.s), kk.sl.1, by have := kk.sl.2; omega, fun i v H6 hv x6' => ?_⟩⟩⟩
      have x6 := x5.trans x6'
      obtain ⟨a, o, step, os, rfl, ha, hx, ho, os1, os3, osn⟩ := (hd.ext x6).2.1.sv v (List.mem_of_getElem? hv)
      refine ⟨a, _, rfl, SqT.of ha, rfl, _, _, rfl, _, _, rfl, rfl, ?_⟩
      refine ⟨_, rfl, o, os.map V.str, rfl, .inr (SqT.of ho), fun J G hG wk Dd hDd => ?_⟩
      have nDp := x6.bag.ne hDd
      refine lc_it wk (fun i H' => ∃ zs : List Str, H' Dd = some (.lst (zs.map V.str)) ∧ zs.length ≤ i ∧ (∀ z ∈ zs, Nm z) ∧ Ext p H6 H') ⟨[], upd_same, Nat.le_refl _, (fun z hz => by cases hz), .same x6.bag (same_upd hDd)⟩ (fun i H' _ ⟨_, _, _, _, x'⟩ => hG H' fun u e => ?_) ?_ ?_
      · exact x'.keep _ _ (ne_tup x6.bag ho) e
      · rintro i x H7 _ hi ⟨zs, hz, zl, zn, x7⟩ ⟨rfl, hx'⟩
        obtain ⟨z, mz, rfl⟩ := str_at (K := K) (H := H) (a := o) hx'
        rw [List.length_map] at hi
        refine ⟨rfl, _, rfl, p, 3, rfl, by decide, by decide, x7.bag, fun v H8 v0 v1 x8 => ⟨_, _, rfl, rfl, ⟨_, rfl, if_b (fun _ => ?_) (fun _ => ?_)⟩⟩⟩
        · have h8 := x8.keep _ _ nDp hz
          refine ⟨_, rfl, _, h8, sz2 (by rw [List.length_map]; omega), zs ++ [z], by rw [upd_same, List.map_append]; rfl, by rw [List.length_append]; show _ + 1 ≤ _; omega, fun y hy => ?_, (x7.trans x8).over x6.bag hDd⟩
          rcases List.mem_append.mp hy with hy | hy
          · exact zn y hy
          · rw [List.mem_singleton.mp hy]
            exact osn z mz
        · exact ⟨zs, x8.keep _ _ nDp hz, by omega, zn, x7.trans x8⟩
      · rintro H7 ⟨zs, hz, zl, zn, x7'⟩
        rw [List.length_map] at zl
        have x7 := x6.trans x7'
        refine ⟨Nat.zero_le _, fun cl hcl => ⟨_, _, rfl, ?_⟩⟩
        have s8 := same_upd (o := .lst []) hcl
        have ncl := x7.bag.ne hcl
        have x8 := x7.then s8
        have z8 := s8 _ _ hz
        have c8 : upd H7 cl (.lst []) cl = some (.lst []) := upd_same
        have nDc : Dd ≠ cl := ne_of_none hz hcl
        generalize upd H7 cl (.lst []) = H8 at x8 z8 c8 ⊢
        refine ⟨_, rfl, Dd, _, rfl, .inl (SqL.of z8), fun J2 G2 hG2 wk2 => ?_⟩
        have sh : ∀ z : Str, z ∈ zs → (1 : Int) ≤ (zs.length : Int) := fun z h => by
          have := List.length_pos_of_mem h
          omega
        refine for_it wk2 (fun i σ H' => ∃ (acc : List V) (cs : List (Str × List PyData)) (t7 t8 t9 t10 t13 : Option V), σ = [some (.ref p), some (.ref kt), some (.int room), some (.int deep), some (.ref va), some (.int way), some (.int ((room - 1) / 2)), t7, t8, t9, t10, some (.str step), some (.ref o), t13, some (.ref Dd), some (.ref cl)] ∧
          Ext p H H' ∧ H' Dd = some (.lst (zs.map V.str)) ∧ H' cl = some (.lst acc) ∧ Are H' acc (cs.map doC) ∧ (∀ c ∈ cs, Nm c.1) ∧ (∀ c ∈ cs, ∃ rm, RowsD (m + 1) rm c.2) ∧ cs.length = i ∧ (((cs.map fun c => szs c.2).sum : Nat) : Int) ≤ (i : Int) * ((room - 1) / (zs.length : Int)))
          ⟨[], [], _, _, _, _, _, rfl, x8, z8, c8, .nil, (fun c hc => by cases hc), (fun c hc => by cases hc), rfl, by simp⟩ (fun i σ H' _ ⟨_, _, _, _, _, _, _, _, _, h', _⟩ => hG2 H' fun u e => ?_) ?_ ?_
        · rw [z8] at e
          cases e
          exact h'
        · rintro i x _ H9 _ hi ⟨acc, cs, t7, t8, t9, t10, t13, rfl, x9, z9, c9, hA9, cn, cd, ci, cz⟩ ⟨rfl, hx'⟩
          obtain ⟨z, mz, rfl⟩ := str_at (K := K) (H := H) (a := Dd) hx'
          rw [List.length_map] at hi
          have lz := sh z mz
          have la := hA9.length
          rw [List.length_map] at la
          have sp : 0 ≤ (room - 1) / (zs.length : Int) := Int.ediv_nonneg (by omega) (by omega)
          have sq : (room - 1) / (zs.length : Int) ≤ room - 1 := Int.ediv_le_self _ (by omega)
          refine ⟨_, rfl, .inl ⟨rfl, _, SqL.of c9⟩, _, rfl, _, rfl, _, rfl, _, rfl, _, _, rfl, rfl, .inl ⟨_, rfl, _, rfl, q_lenSq (.inl (SqL.of z9)) ⟨_, _, rfl, rfl, ⟨by rw [List.length_map]; omega, by rw [List.length_map]; omega⟩, ?_⟩⟩⟩
          rw [List.length_map]
          refine ⟨_, rfl, _, _, rfl, rfl, _, rfl, p, kt, va, (room - 1) / (zs.length : Int), deep - 1, q, ps, rfl, hd.ext x9, by omega, by omega, by omega, by omega, dm, fun bv b H10 hb hY x10' => ⟨by show 2 ≤ sizeLine; decide, fun t ht => ?_⟩⟩
          have x10 := x9.trans x10'
          have s11 := same_upd (o := .tup [V.str z, bv]) ht
          have c11 := s11 _ _ (x10'.keep _ _ ncl c9)
          refine ⟨cl, acc, .ref t, rfl, rfl, c11, sz2 (by omega), acc ++ [.ref t], cs ++ [(z, b)], _, _, _, _, _, rfl, (x10.then s11).over hd.1 ?_, ?_, upd_same, ?_, fun c hc => ?_, fun c hc => ?_, by rw [List.length_append, ci]; rfl, ?_⟩
          · exact Dom.ext x7 _ hcl
          · rw [upd_ne nDc]
            exact s11 _ _ (x10'.keep _ _ nDp z9)
          · have kp := (kp_same s11).trans (kp_upd (o := .lst (acc ++ [V.ref t])) c11)
            rw [List.map_append]
            refine Are.append (cases_keep ((kp_ext x9.bag x10').trans kp) (fun c hc => (cd c hc).elim fun _ h => h.ok) hA9) (.cons (.tup ((kp_upd (o := .lst (acc ++ [V.ref t])) c11).tup upd_same) (.cons (.str _) (.cons (rows_keep kp hY.ok hb) .nil))) .nil)
          · rcases List.mem_append.mp hc with hc | hc
            · exact cn c hc
            · rw [List.mem_singleton.mp hc]
              exact zn z mz
          · rcases List.mem_append.mp hc with hc | hc
            · exact cd c hc
            · rw [List.mem_singleton.mp hc]
              exact ⟨_, hY⟩
          · have sy := hY.size
            have e : ((i + 1 : Nat) : Int) * ((room - 1) / (zs.length : Int)) = (i : Int) * ((room - 1) / (zs.length : Int)) + (room - 1) / (zs.length : Int) := by
              rw [Int.natCast_add, Int.add_mul]
              simp
            rw [e, List.map_append, List.sum_append]
            simp only [List.map_cons, List.map_nil, List.sum_cons, List.sum_nil]
            omega
        · rintro _ H9 ⟨acc, cs, t7, t8, t9, t10, t13, rfl, x9, z9, c9, hA9, cn, cd, ci, cz⟩
          rw [List.length_map] at ci cz
          have sm : (((cs.map fun c => szs c.2).sum : Nat) : Int) ≤ room - 1 := by
            refine Int.le_trans cz ?_
            by_cases h0 : zs.length = 0
            · rw [h0]
              simp
              omega
            · have := Int.mul_ediv_self_le (x := room - 1) (k := (zs.length : Int)) (by omega)
              exact this
          refine ⟨_, rfl, _, rfl, cl, acc, rfl, .inl ⟨SqL.of c9, fun t ht => ⟨by show 3 ≤ sizeLine; decide, fun r hr' => ?_⟩⟩⟩
          have s10 := same_upd (o := .tup acc) ht
          have s11 := same_upd (o := .tup [V.str "do", V.str step, V.ref t]) hr'
          have e : szr (.tuple [.str "do", .str step, .tuple (cs.map doC)]) = 1 + (cs.map fun c => szs c.2).sum := by
            rw [szr, b_do, List.map_map]
            rfl
          have wc := wt_cases fun c hc => ⟨cn c hc, (cd c hc).elim fun _ h => h.wt⟩
          have wa := str_len hx
          refine k _ (.tuple [.str "do", .str step, .tuple (cs.map doC)]) _ (.tup upd_same (.cons (.str _) (.cons (.str _) (.cons (.tup (s11 _ _ upd_same) (Are.same (s10.trans s11) hA9)) .nil)))) ⟨.doo hx cn fun c hc => (cd c hc).elim fun _ h => h.ok, fun b hb => ?_, by rw [e]; omega, ?_⟩ ((x9.then s10).then s11)
          · rw [b_do] at hb
            obtain ⟨c, hc, rfl⟩ := List.mem_map.mp hb
            exact (cd c hc).elim fun _ h => h.deep
          · rw [e]
            have h2 : (Str.ofString "do").cps.size = 2 := by decide +kernel
            simp only [PyData.weight, PyData.weightAll, h2] at wa ⊢
            omega
    rintro _ H5 ⟨rfl, x5, _, _⟩
    -- try
    refine ⟨_, rfl, _, rfl, _, rfl, _, _, rfl, rfl, _, rfl, _, _, rfl, rfl, _, rfl, p, kt, va, room - 1, deep - 1, q, ps, rfl, hd.ext x5, by omega, by omega, by omega, by omega, by omega, dm, fun v d H6 hv hD x6 => ?_⟩
    rw [show room - 1 + 1 = room by omega] at hD
    exact k v d H6 hv hD (x5.trans x6)
end
end K14
set_option Elab.async false
set_option linter.all false
set_option maxRecDepth 100000
set_option maxHeartbeats 4000000
namespace K14
open PySem PySem.Spec L2 Quiet Gn Rw

theorem catches_keep {H H' : Hp} (k : Kp H H') {cs : List (List Str × List PyData)} {vs : List V} (ro : ∀ c ∈ cs, ∀ r ∈ c.2, RowOk r) (h : Are H vs (cs.map trC)) : Are H' vs (cs.map trC) := by
  refine are_imp (fun d hd v hv => ?_) h
  obtain ⟨c, hc, rfl⟩ := List.mem_map.mp hd
  cases hv with
  | tup e t =>
  cases t with
  | cons t1 t =>
  cases t with
  | cons t2 t =>
  cases t
  cases t1 with
  | tup e1 t1 =>
  exact .tup (k.tup e) (.cons (.tup (k.tup e1) (are_strs t1)) (.cons (rows_keep k (ro c hc) t2) .nil))
theorem strs_are {H : Hp} : ∀ ks : List Str, Are H (ks.map V.str) (ks.map PyData.str)
  | [] => .nil
  | k :: ks => .cons (.str k) (strs_are ks)
theorem wt_names : ∀ {xs : List Str}, (∀ x ∈ xs, Nm x) → PyData.weightAll (xs.map PyData.str) ≤ 9 * xs.length
  | [], _ => Nat.zero_le _
  | x :: xs, h => by
    have ih := wt_names fun c' hc' => h c' (List.mem_cons_of_mem _ hc')
    have h3 := str_len (h x List.mem_cons_self)
    simp only [PyData.weightAll, List.map_cons, List.length_cons] at ih h3 ⊢
    omega
theorem wt_catches : ∀ {cs : List (List Str × List PyData)}, (∀ c ∈ cs, (c.1.length ≤ 3 ∧ ∀ x ∈ c.1, Nm x) ∧ PyData.weightAll c.2 ≤ 200 * szs c.2) → PyData.weightAll (cs.map trC) ≤ 30 * cs.length + 200 * (cs.map fun c => szs c.2).sum
  | [], _ => Nat.zero_le _
  | c :: cs, h => by
    have ih := wt_catches fun c' hc' => h c' (List.mem_cons_of_mem _ hc')
    obtain ⟨⟨h0, h1⟩, h2⟩ := h c List.mem_cons_self
    have h3 := wt_names h1
    simp only [trC, PyData.weightAll, PyData.weight, List.map_cons, List.sum_cons, List.length_cons] at ih h3 ⊢
    omega
section
variable {P : Program} {w : World} {K : PySem.W.Frag} {mg : Str → Option Value} {base : Heap} {A : Ad} {D : Fd}
theorem try_n (T : Txt K mg A D) {n k : Nat} (ihR : FnOk P w K mg base CX0 (k + 9) A._law_rows D._law_rows ["bag", "kit", "room", "deep", "around"] (spRows (n + 1))) :
    FnOk P w K mg base CX0 (k + 10) A._law_try D._law_try ["bag", "kit", "room", "deep", "around"] (spTry (n + 1)) := by
  refine T.f__law_try.ok sc__law_try (fun vs H Q E h => ?_) (fun cdv AA outer s H vs Q E hr h => ?_)
  · obtain ⟨p, kt, va, room, deep, q, ps, rfl, _⟩ := h
    rfl
  · obtain ⟨p, kt, va, room, deep, q, ps, rfl, hd, pl, nl, r1, rl, d0, d1, k⟩ := h
    refine ⟨_, (pss_cons (ps_set (i := 5) sc__law_try.nd rfl (Or.inl rfl) (by exact (pe_op op_fdiv (pe_callTy call_int1 (by rfl) T.b_int (by decide +kernel) (pa_cons (pe_op (addK K rfl) (pv 2) pe_int) pa_nil)) pe_int)))
  (pss_cons (ps_par (i := 6) (j := 7) (by rfl) sc__law_try.nd rfl rfl (by decide) rfl rfl (pa_cons (pe_call ihR (hr.mono (by omega)) rfl T.m__law_rows T.f__law_rows.kp (b__law_rows T) .nil pass0 (pa_cons (pv 0) (pa_cons (pv 1) (pa_cons (pv 5) (pa_cons (pv 3) (pa_cons (pv 4) pa_nil)))))) (pa_cons (pe_lst pa_nil) pa_nil)) (by rfl))
  (pss_cons (ps_for PassesOwn.never rfl (pi_range1 rfl T.b_range (pa_cons (pe_call (ok__law_take T) (hr.mono (by omega)) rfl T.m__law_take T.f__law_take.kp (b__law_take T) .nil pass0 (pa_cons (pv 0) (pa_cons pe_int pa_nil))) pa_nil)) (pg_name (i := 8) sc__law_try.nd rfl (Or.inl rfl))
 (pss_cons (ps_set (i := 9) sc__law_try.nd rfl (Or.inl rfl) (by exact (pe_callTy (tupleK K rfl) (by rfl) T.b_tuple (by decide +kernel) (pa_cons (pe_lc (own := [("error", 11)]) rfl sc__law_try.nd (pi_sq K rfl (pe_dget (hu_of hr) (pv 1) pe_str (fun _ _ => rfl))) (blkOk_by (own := [("error", 11)]) (N := n__law_try) (sc := defScope s__law_try) (by decide +kernel)) (fun _ _ _ _ _ => (pg_name (i := 11) sc__law_try.nd rfl (Or.inl rfl))) (fun _ _ _ _ _ => (pts_one (pt_cmpR (eqK K rfl (units_of hr)) (pe_call (ok__law_take T) (hr.mono (by omega)) rfl T.m__law_take T.f__law_take.kp (b__law_take T) .nil pass0 (pa_cons (pv 0) (pa_cons pe_int pa_nil))) pe_int (nomark _)))) (fun _ _ _ _ _ => (pv 11))) pa_nil))))
  (pss_one (ps_expr (pe_bm PySem.F.plainAttrs_list PySem.F.slot_list_append PySem.F.type_list_append mt_append (pv 7) (pa_cons (pe_tup (pa_cons (pv 9) (pa_cons (pe_call ihR (hr.mono (by omega)) rfl T.m__law_rows T.f__law_rows.kp (b__law_rows T) .nil pass0 (pa_cons (pv 0) (pa_cons (pv 1) (pa_cons (pe_op op_fdiv (pe_callTy call_int1 (by rfl) T.b_int (by decide +kernel) (pa_cons (pv 5) pa_nil)) pe_int) (pa_cons (pv 3) (pa_cons (pv 4) pa_nil)))))) pa_nil))) pa_nil))))))
  (pss_cons (ps_set (i := 10) sc__law_try.nd rfl (Or.inl rfl) (by exact (pe_op op_sub (pe_op op_sub (pv 2) (pe_call (ok_size_n T 8) (hr.mono (by omega)) rfl T.m__law_size T.f__law_size.kp (b__law_size T) .nil pass0 (pa_cons (pv 6) pa_nil))) (pe_callB (sumK K rfl rfl) (by rfl) T.b_sum (by decide +kernel) (pa_cons (pe_lc (own := [("errors", 9), ("some", 12)]) rfl sc__law_try.nd (pi_sq K rfl (pv 7)) (blkOk_by (own := [("errors", 9), ("some", 12)]) (N := n__law_try) (sc := defScope s__law_try) (by decide +kernel)) (fun _ _ _ _ _ => (pg_tupK (n := 2) K rfl rfl (pgs_cons (pg_name (i := 9) sc__law_try.nd rfl (Or.inl rfl)) (pgs_cons (pg_name (i := 12) sc__law_try.nd rfl (Or.inl rfl)) pgs_nil)))) (fun _ _ _ _ _ => pts_nil) (fun _ _ _ _ _ => (pe_call (ok_size_n T 8) (hr.mono (by omega)) rfl T.m__law_size T.f__law_size.kp (b__law_size T) .nil pass0 (pa_cons (pv 12) pa_nil)))) pa_nil)))))
  (pss_one (ps_ret (pe_tup (pa_cons pe_str (pa_cons (pv 6) (pa_cons (pe_callTy (tupleK K rfl) (by rfl) T.b_tuple (by decide +kernel) (pa_cons (pv 7) pa_nil)) (pa_cons (pe_call ihR (hr.mono (by omega)) rfl T.m__law_rows T.f__law_rows.kp (b__law_rows T) .nil pass0 (pa_cons (pv 0) (pa_cons (pv 1) (pa_cons (pe_callB (call_max2 rfl) (by rfl) T.b_max (by decide +kernel) (pa_cons pe_int (pa_cons (pe_callB (call_min2 rfl) (by rfl) T.b_min (by decide +kernel) (pa_cons (pv 5) (pa_cons (pv 10) pa_nil))) pa_nil))) (pa_cons (pv 3) (pa_cons (pv 4) pa_nil)))))) pa_nil))))))))))), ?_⟩
    refine ⟨_, rfl, .inl ⟨_, _, rfl, rfl, .inl ⟨_, rfl, ⟨_, _, rfl, rfl, ⟨by decide, by decide⟩, ?_⟩⟩⟩⟩
    have f1 : 1 ≤ (room + 2) / 3 ∧ (room + 2) / 3 ≤ 8 := by omega
    refine ⟨_, rfl, _, rfl, _, rfl, _, rfl, _, rfl, p, kt, va, (room + 2) / 3, deep, q, ps, rfl, hd, pl, nl, by omega, d0, d1, fun rv rows H1 hrv hR x1 => ⟨Nat.zero_le _, fun cl hcl => ⟨_, _, rfl, ?_⟩⟩⟩
    have s2 := same_upd (o := .lst []) hcl
    have ncl := x1.bag.ne hcl
    have clH : H cl = none := Dom.ext x1 _ hcl
    have x2 := x1.then s2
    have c2 : upd H1 cl (.lst []) cl = some (.lst []) := upd_same
    have hr2 := Is.same s2 hrv
    generalize upd H1 cl (.lst []) = H2 at x2 c2 hr2 ⊢
    refine ⟨_, rfl, p, 3, rfl, by decide, by decide, x2.bag, fun v H3 v0 v1 x3' => ?_⟩
    obtain ⟨cnt, rfl⟩ := Int.eq_ofNat_of_zero_le v0
    have x3 := x2.trans x3'
    have hr3 := rows_keep (kp_ext x2.bag x3') hR.ok hr2
    have c3 := x3'.keep _ _ ncl c2
    have few2 : 0 ≤ (room + 2) / 3 / 2 ∧ (room + 2) / 3 / 2 ≤ 4 := by omega
    refine ⟨cnt, rfl, by omega, by omega, for_range (fun i σ H' => ∃ (acc : List V) (cs : List (List Str × List PyData)) (t8 t9 t10 t11 t12 : Option V), σ = [some (.ref p), some (.ref kt), some (.int room), some (.int deep), some (.ref va), some (.int ((room + 2) / 3)), some rv, some (.ref cl), t8, t9, t10, t11, t12] ∧
      Ext p H H' ∧ Is H' rv (.tuple rows) ∧ H' cl = some (.lst acc) ∧ Are H' acc (cs.map trC) ∧ (∀ c ∈ cs, c.1.length ≤ 3 ∧ ∀ x ∈ c.1, Nm x) ∧ (∀ c ∈ cs, RowsD (n + 1) ((room + 2) / 3 / 2) c.2) ∧ cs.length = i ∧ (((cs.map fun c => szs c.2).sum : Nat) : Int) ≤ (i : Int) * ((room + 2) / 3 / 2))
      ⟨[], [], _, _, _, _, _, rfl, x3, hr3, c3, .nil, (fun c hc => by cases hc), (fun c hc => by cases hc), rfl, by simp⟩ ?_ ?_⟩
    · rintro i _ H4 hi ⟨acc, cs, t8, t9, t10, t11, t12, rfl, x4, hr4, c4, hA4, cn, cd, ci, cz⟩
      have kk := (hd.ext x4).2.1
      refine ⟨_, rfl, kt, _, rfl, DGet.k (k := Sum.inr "errors") kk.d, q.ad_e, _, rfl, .inr (SqT.of kk.e), fun J G hG wk Dd hDd => ?_⟩
      have nDp := x4.bag.ne hDd
      refine lc_it wk (fun i H' => ∃ zs : List Str, H' Dd = some (.lst (zs.map V.str)) ∧ zs.length ≤ i ∧ (∀ z ∈ zs, Nm z) ∧ Ext p H4 H') ⟨[], upd_same, Nat.le_refl _, (fun z hz => by cases hz), .same x4.bag (same_upd hDd)⟩ (fun i H' _ ⟨_, _, _, _, x'⟩ => hG H' fun u e => ?_) ?_ ?_
      · exact x'.keep _ _ (ne_tup x4.bag kk.e) e
      · rintro j x H7 _ hj ⟨zs, hz, zl, zn, x7⟩ ⟨rfl, hx'⟩
        obtain ⟨z, mz, rfl⟩ := str_at (K := K) (H := H) (a := p) hx'
        rw [List.length_map] at hj
        have := kk.el.2
        refine ⟨rfl, _, rfl, p, 2, rfl, by decide, by decide, x7.bag, fun v H8 v0 v1 x8 => q_eqi ⟨_, rfl, if_b (fun _ => ?_) (fun _ => ?_)⟩⟩
        · have h8 := x8.keep _ _ nDp hz
          refine ⟨_, rfl, _, h8, sz2 (by rw [List.length_map]; omega), zs ++ [z], by rw [upd_same, List.map_append]; rfl, by rw [List.length_append]; show _ + 1 ≤ _; omega, fun y hy => ?_, (x7.trans x8).over x4.bag hDd⟩
          rcases List.mem_append.mp hy with hy | hy
          · exact zn y hy
          · rw [List.mem_singleton.mp hy]
            exact kk.en z mz
        · exact ⟨zs, x8.keep _ _ nDp hz, by omega, zn, x7.trans x8⟩
      · rintro H7 ⟨zs, hz, zl, zn, x7'⟩
        rw [List.length_map] at zl
        have := kk.el.2
        have x7 := x4.trans x7'
        refine ⟨Dd, _, rfl, .inl ⟨SqL.of hz, fun t ht => ?_⟩⟩
        have s8 := same_upd (o := .tup (zs.map V.str)) ht
        have t8' : upd H7 t (.tup (zs.map V.str)) t = some (.tup (zs.map V.str)) := upd_same
        have x8 := x7.then s8
        have k48 := (kp_ext x4.bag x7').trans (kp_same s8)
        have c8 := s8 _ _ (x7'.keep _ _ ncl c4)
        generalize upd H7 t (.tup (zs.map V.str)) = H8 at t8' x8 k48 c8 ⊢
        have la := hA4.length
        rw [List.length_map] at la
        refine ⟨_, rfl, .inl ⟨rfl, _, SqL.of c8⟩, _, rfl, _, rfl, _, rfl, _, rfl, .inl ⟨_, rfl, ⟨_, _, rfl, rfl, ⟨by decide, by decide⟩, ?_⟩⟩⟩
        refine ⟨_, rfl, _, rfl, p, kt, va, (room + 2) / 3 / 2, deep, q, ps, rfl, hd.ext x8, pl, nl, by omega, d0, d1, fun bv b H10 hb hY x10' => ⟨by show 2 ≤ sizeLine; decide, fun t2 ht2 => ?_⟩⟩
        have x10 := x8.trans x10'
        have s11 := same_upd (o := .tup [V.ref t, bv]) ht2
        have c11 := s11 _ _ (x10'.keep _ _ ncl c8)
        have kU := kp_upd (o := .lst (acc ++ [V.ref t2])) c11
        have k811 := (kp_ext x8.bag x10').trans ((kp_same s11).trans kU)
        refine ⟨cl, acc, .ref t2, rfl, rfl, c11, sz2 (by omega), acc ++ [.ref t2], cs ++ [(zs, b)], _, _, _, _, _, rfl, (x10.then s11).over hd.1 clH, rows_keep (k48.trans k811) hR.ok hr4, upd_same, ?_, fun c hc => ?_, fun c hc => ?_, by rw [List.length_append, ci]; rfl, ?_⟩
        · rw [List.map_append]
          refine Are.append (catches_keep (k48.trans k811) (fun c hc => (cd c hc).ok) hA4) (.cons (.tup (kU.tup upd_same) (.cons (.tup (k811.tup t8') (strs_are zs)) (.cons (rows_keep ((kp_same s11).trans kU) hY.ok hb) .nil))) .nil)
        · rcases List.mem_append.mp hc with hc | hc
          · exact cn c hc
          · rw [List.mem_singleton.mp hc]
            exact ⟨by show zs.length ≤ 3; omega, zn⟩
        · rcases List.mem_append.mp hc with hc | hc
          · exact cd c hc
          · rw [List.mem_singleton.mp hc]
            exact hY
        · have sy := hY.size
          have e : ((i + 1 : Nat) : Int) * ((room + 2) / 3 / 2) = (i : Int) * ((room + 2) / 3 / 2) + (room + 2) / 3 / 2 := by
            rw [Int.natCast_add, Int.add_mul]
            simp
          rw [e, List.map_append, List.sum_append]
          simp only [List.map_cons, List.map_nil, List.sum_cons, List.sum_nil]
          omega
    · rintro _ H4 ⟨acc, cs, t8, t9, t10, t11, t12, rfl, x4, hr4, c4, hA4, cn, cd, ci, cz⟩
      have la := hA4.length
      rw [List.length_map] at la
      have sR := hR.size
      have wR := hR.wt
      cases hr4 with
      | @tup rb rys _ hrb hrA =>
      refine ⟨_, rfl, _, rfl, rb, rys, rows, rfl, .inr (SqT.of hrb), hrA, fun r hr => ⟨hR.ok r hr, ?_⟩, deepR_mono (show n + 1 ≤ 7 from by omega) hR.deep, fun H5 s5 => ⟨_, _, rfl, rfl, ?_⟩⟩
      · have := mem_weight hr
        show r.weight ≤ 1000000
        omega
      rw [show sizeF 7 rows = szs rows from rfl]
      have x5 := x4.then s5
      have c5 := s5 _ _ c4
      refine ⟨_, rfl, cl, acc, rfl, .inl (SqL.of c5), fun J G hG wk Dd hDd => ?_⟩
      refine comp_map (G := G) (Y := YAt acc) cs (fun c => V.int ((szs c.2 : Nat) : Int)) (by rw [← la]; exact wk) hDd (sz2 (by omega)) (fun H' s' => hG H' fun o e => s' _ _ e) ?_ ?_
      · rintro i c y H6 H7 R hi s6 ⟨rfl, hx⟩ hRR
        obtain ⟨d', e', hd'⟩ := hA4.at' hx
        rw [List.getElem?_map, hi] at e'
        cases e'
        have mc := List.mem_of_getElem? hi
        have hd' := Is.same (s5.trans s6) hd'
        cases hd' with
        | tup e t =>
        cases t with
        | cons t1 t =>
        cases t with
        | cons t2 t =>
        cases t
        cases t2 with
        | @tup sb sys _ hsb hsA =>
        have wC := (cd c mc).wt
        have sC := (cd c mc).size
        refine ⟨_, _, rfl, SqT.of e, rfl, _, _, rfl, _, _, rfl, rfl, rfl, _, rfl, sb, sys, c.2, rfl, .inr (SqT.of hsb), hsA, fun r hr => ⟨(cd c mc).ok r hr, ?_⟩, deepR_mono (show n + 1 ≤ 7 from by omega) (cd c mc).deep, fun H8 s8 => hRR _ s8⟩
        have := mem_weight hr
        show r.weight ≤ 1000000
        omega
      · intro H6 s6 hl6
        have x6 := x5.then s6
        refine ⟨Dd, cs.map fun c => ((szs c.2 : Nat) : Int), rfl, SqL.of (by rw [hl6, List.map_map]; rfl), ⟨_, _, rfl, rfl, ?_⟩⟩
        rw [sum_cast (fun c : List Str × List PyData => szs c.2)]
        have c6 := s6 _ _ c5
        have tot : (szs rows : Int) + ((cs.map fun c => szs c.2).sum : Nat) ≤ room := by
          simp only [Int.toNat_natCast] at cz
          have : cnt = 0 ∨ cnt = 1 ∨ cnt = 2 := by omega
          rcases this with rfl | rfl | rfl
          · rw [show ((0 : Nat) : Int) = 0 from rfl, Int.zero_mul] at cz
            omega
          · rw [show ((1 : Nat) : Int) = 1 from rfl, Int.one_mul] at cz
            omega
          · rw [show ((2 : Nat) : Int) = 1 + 1 from rfl, Int.add_mul, Int.one_mul] at cz
            omega
        refine ⟨_, rfl, _, rfl, cl, acc, rfl, .inl ⟨SqL.of c6, fun t ht => ?_⟩⟩
        have s7 := same_upd (o := .tup acc) ht
        have x7 := x6.then s7
        have t7 : upd H6 t (.tup acc) t = some (.tup acc) := upd_same
        have s47 := (s5.trans s6).trans s7
        generalize upd H6 t (.tup acc) = H7 at t7 x7 s47 ⊢
        refine ⟨_, rfl, _, rfl, _, rfl, _, rfl, _, _, rfl, _, _, rfl, _, rfl, _, rfl, p, kt, va, _, deep, q, ps, rfl, hd.ext x7, pl, nl, ?_, d0, d1, fun lv ls H8 hls hL x8' => ⟨by show 4 ≤ sizeLine; decide, fun r hr' => ?_⟩⟩
        · split
          · split <;> omega
          · omega
        have s9 := same_upd (o := .tup [V.str "try", V.ref rb, V.ref t, lv]) hr'
        have k79 := (kp_ext x7.bag x8').trans (kp_same s9)
        have sL := hL.size
        have wL := hL.wt
        have wc := wt_catches fun c hc => ⟨cn c hc, (cd c hc).wt⟩
        have c2 : cs.length ≤ 2 := by omega
        have e : szr (.tuple [.str "try", .tuple rows, .tuple (cs.map trC), .tuple ls]) = 1 + (szs rows + ((cs.map fun c => szs c.2).sum + szs ls)) := by
          rw [szr, b_try]
          simp only [List.map_cons, List.map_append, List.map_nil, List.sum_cons, List.sum_append, List.sum_nil, List.map_map]
          rfl
        refine k _ (.tuple [.str "try", .tuple rows, .tuple (cs.map trC), .tuple ls]) _ (.tup upd_same (.cons (.str _) (.cons (rows_keep k79 hR.ok (.tup (s47 _ _ hrb) (Are.same s47 hrA))) (.cons (.tup (k79.tup t7) (catches_keep ((kp_same s47).trans k79) (fun c hc => (cd c hc).ok) hA4)) (.cons (rows_keep (kp_same s9) hL.ok hls) .nil)))))
          ⟨.trr hR.ok (fun c hc => ⟨by have := (cn c hc).1; omega, (cn c hc).2⟩) (fun c hc => (cd c hc).ok) hL.ok, fun b hb => ?_, ?_, ?_⟩ ((x7.trans x8').then s9)
        · rw [b_try] at hb
          rcases List.mem_cons.mp hb with rfl | hb
          · exact hR.deep
          · rcases List.mem_append.mp hb with hb | hb
            · obtain ⟨c, hc, rfl⟩ := List.mem_map.mp hb
              exact (cd c hc).deep
            · rw [List.mem_singleton.mp hb]
              exact hL.deep
        · rw [e]
          split at sL
          · split at sL <;> omega
          · omega
        · rw [e]
          have h2 : (Str.ofString "try").cps.size = 3 := by decide +kernel
          simp only [PyData.weight, PyData.weightAll, h2]
          omega
/-- all of them, n deep -/
theorem draws_n (T : Txt K mg A D) : ∀ n, FnOk P w K mg base CX0 (3 * n + 11) A._law_row D._law_row ["bag", "kit", "room", "deep", "around"] (spRow n) ∧ FnOk P w K mg base CX0 (3 * n + 9) A._law_rows D._law_rows ["bag", "kit", "room", "deep", "around"] (spRows n)
  | 0 => by
    have hR : FnOk P w K mg base CX0 (0 + 9) A._law_rows D._law_rows ["bag", "kit", "room", "deep", "around"] (spRows 0) := T.f__law_rows.ok sc__law_rows (fun vs H Q E h => h.elim) (fun cdv AA outer s H vs Q E hr h => h.elim)
    have hT : FnOk P w K mg base CX0 (0 + 10) A._law_try D._law_try ["bag", "kit", "room", "deep", "around"] (spTry 0) := T.f__law_try.ok sc__law_try (fun vs H Q E h => h.elim) (fun cdv AA outer s H vs Q E hr h => h.elim)
    exact ⟨row_n T hR hT, hR⟩
  | n + 1 => by
    have hR : FnOk P w K mg base CX0 (3 * n + 2 + 10) A._law_rows D._law_rows ["bag", "kit", "room", "deep", "around"] (spRows (n + 1)) := rows_n T (draws_n T n).1
    have hR' : FnOk P w K mg base CX0 (3 * n + 3 + 9) A._law_rows D._law_rows ["bag", "kit", "room", "deep", "around"] (spRows (n + 1)) := hR
    have hT : FnOk P w K mg base CX0 (3 * n + 3 + 10) A._law_try D._law_try ["bag", "kit", "room", "deep", "around"] (spTry (n + 1)) := try_n T hR'
    exact ⟨row_n T hR' hT, hR'⟩
end
end K14
set_option Elab.async false
set_option linter.all false
set_option maxRecDepth 100000
set_option maxHeartbeats 4000000
namespace K14
open PySem PySem.Spec L2 Quiet Gn Rw LiI

/-- the things of a tuple in another order -/
def spMixT (K : PySem.W.Frag) : Sp := fun vs H Q _ => ∃ (p a : Addr) (xs : List V), vs = [.ref p, .ref a] ∧ Bag H p ∧ H a = some (.tup xs) ∧ xs.length ≤ 1000 ∧
  ∀ (q : Addr) (ys : List V) (H' : Hp), ys.Perm xs → H' q = some (.lst ys) → q ≠ p → Ext p H H' → Q (.ref q) H'
def spKit : Sp := fun vs H Q _ => ∃ (p : Addr), vs = [.ref p] ∧ Bag H p ∧ ∀ (kt : Addr) (q : Kit) (H' : Hp), KitAt H' kt q → Ext p H H' → Q (.ref kt) H'
section
variable {P : Program} {w : World} {K : PySem.W.Frag} {mg : Str → Option Value} {base : Heap} {A : Ad} {D : Fd}
theorem ok_mixT (T : Txt K mg A D) : FnOk P w K mg base CX0 2 A._law_mixed D._law_mixed ["bag", "things"] (spMixT K) := by
  refine T.f__law_mixed.ok sc__law_mixed (fun vs H Q E h => ?_) (fun cdv AA outer s H vs Q E hr h => ?_)
  · obtain ⟨p, a, xs, rfl, _⟩ := h
    rfl
  · obtain ⟨p, a, xs, rfl, hB, ha, l1, k⟩ := h
    refine ⟨_, (pss_cons (ps_set (i := 2) sc__law_mixed.nd rfl (Or.inl rfl) (by exact (pe_lst pa_nil)))
  (pss_cons (ps_for PassesOwn.never rfl (pi_sq K rfl (pv 1)) (pg_name (i := 3) sc__law_mixed.nd rfl (Or.inl rfl))
 (pss_one (ps_expr (pe_bm PySem.F.plainAttrs_list PySem.F.slot_list_insert PySem.F.type_list_insert mt_insert (pv 2) (pa_cons (pe_call (ok__law_take T) (hr.mono (by decide)) rfl T.m__law_take T.f__law_take.kp (b__law_take T) .nil pass0 (pa_cons (pv 0) (pa_cons (pe_op (addK K rfl) (pe_callB (lenK K rfl) (by rfl) T.b_len (by decide +kernel) (pa_cons (pv 2) pa_nil)) pe_int) pa_nil))) (pa_cons (pv 3) pa_nil))))))
  (pss_one (ps_ret (pv 2))))), ?_⟩
    refine ⟨Nat.zero_le _, fun q hq => ?_⟩
    have nqp := hB.ne hq
    have nap := ne_tup hB ha
    have s0 : Same H (upd H q (.lst [])) := same_upd hq
    refine ⟨_, rfl, a, xs, rfl, .inr (SqT.of (s0 _ _ ha)), fun J G hG wk => for_it wk (fun i σ H' => ∃ (ys : List V) (t : Option V), σ = [some (.ref p), some (.ref a), some (.ref q), t] ∧ ys.Perm (xs.take i) ∧ H' q = some (.lst ys) ∧ Ext p H H')
      ⟨[], none, rfl, .nil, upd_same, .same hB s0⟩ (fun i σ H' _ ⟨_, _, _, _, _, x⟩ => hG H' fun o e => ?_) ?_ ?_⟩
    · rw [s0 _ _ ha] at e
      cases e
      exact x.keep _ _ nap ha
    · rintro i y _ H' _ hi ⟨ys, t, rfl, hp, hq', x⟩ ⟨rfl, hy⟩
      have hly : ys.length ≤ 1000 := by
        rw [hp.length_eq]
        exact Nat.le_trans (List.length_take_le' _ _) l1
      refine ⟨_, rfl, .inl ⟨rfl, _, SqL.of hq'⟩, _, rfl, _, rfl, q_lenSq (.inl (SqL.of hq')) (q_add ⟨p, _, rfl, by omega, by omega, x.bag, fun v H2 v0 v1 x2 => ?_⟩)⟩
      refine ⟨_, rfl, q, ys, v, y, rfl, rfl, x2.keep _ _ nqp hq', sz2 (by omega), v0, by omega, ?_⟩
      refine ⟨_, _, rfl, ?_, upd_same, ?_⟩
      · rw [take_one hy, List.append_assoc]
        have p1 : (ys.take v.toNat ++ ([y] ++ ys.drop v.toNat)).Perm (y :: (ys.take v.toNat ++ ys.drop v.toNat)) := by
          show (ys.take v.toNat ++ (y :: ys.drop v.toNat)).Perm _
          exact List.perm_middle
        rw [List.take_append_drop] at p1
        refine p1.trans ((List.Perm.cons y hp).trans ?_)
        exact (List.perm_append_singleton y (xs.take i)).symm
      · exact Ext.over hB (x.trans x2) hq
    · rintro σ H' ⟨ys, t, rfl, hp, hq', x⟩
      rw [List.take_length] at hp
      exact ⟨_, rfl, k q ys H' hp hq' nqp x⟩
theorem strs_of : ∀ {ys : List V}, (∀ y ∈ ys, ∃ z, y = .str z ∧ Nm z) → ∃ ks : List Str, ys = ks.map V.str ∧ ∀ z ∈ ks, Nm z
  | [], _ => ⟨[], rfl, fun z h => by cases h⟩
  | y :: ys, h => by
    obtain ⟨z, rfl, hz⟩ := h y List.mem_cons_self
    obtain ⟨ks, rfl, hk⟩ := strs_of fun y hy => h y (List.mem_cons_of_mem _ hy)
    exact ⟨z :: ks, rfl, fun x hx => by
      rcases List.mem_cons.mp hx with rfl | hx
      · exact hz
      · exact hk x hx⟩
theorem paired_imp {α β : Type} {F G : α → β → Prop} (k : ∀ a b, F a b → G a b) : ∀ {xs : List α} {ys : List β}, PySem.Paired F xs ys → PySem.Paired G xs ys
  | _, _, .nil => .nil
  | _, _, .cons a b => .cons (k _ _ a) (paired_imp k b)
abbrev kv4 (a b c d : Addr) : List (Key × V) := [(.inr "steps", .ref a), (.inr "asks", .ref b), (.inr "words", .ref c), (.inr "errors", .ref d)]
abbrev kv2 (a b : Addr) : List (Key × V) := [(.inr "labels", .ref a), (.inr "calls", .ref b)]
theorem cutL_nn {α : Type} {xs : List α} {i j : Nat} : (cutL xs (some (i : Int)) (some (j : Int))).length = min j xs.length - min i xs.length := by
  unfold cutL
  rw [HT.sIx_nat, HT.sIx_nat, List.length_take, List.length_drop]
  omega
theorem cutL_0n {α : Type} {xs : List α} {j : Nat} : (cutL xs none (some (j : Int))).length = min j xs.length := by
  have e1 : HT.sIx xs.length 0 none = 0 := rfl
  unfold cutL
  rw [e1, HT.sIx_nat, List.length_take, List.length_drop]
  omega
theorem cut_takeI {xs : List V} {z : Int} (h : 0 ≤ z) : cutV xs none (some z) = xs.take z.toNat := by
  obtain ⟨k, rfl⟩ := Int.eq_ofNat_of_zero_le h
  exact cut_take
theorem map_take_str {xs : List Str} {n : Nat} : (xs.map V.str).take n = (xs.take n).map V.str := (List.map_take ..).symm
theorem ok__law_free_kit (T : Txt K mg A D) : FnOk P w K mg base CX0 3 A._law_free_kit D._law_free_kit ["bag"] spKit := by
  refine T.f__law_free_kit.ok sc__law_free_kit (fun vs H Q E h => ?_) (fun cdv AA outer s H vs Q E hr h => ?_)
  · obtain ⟨p, rfl, _⟩ := h
    rfl
  · obtain ⟨p, rfl, hB, k⟩ := h
    refine ⟨_, (pss_cons (ps_par (i := 1) (j := 2) (by rfl) sc__law_free_kit.nd rfl rfl (by decide) rfl rfl (pa_cons (pe_call (ok__law_names T) (hr.mono (by decide)) rfl T.m__law_names T.f__law_names.kp (b__law_names T) .nil pass0 (pa_cons (pv 0) (pa_cons pe_int pa_nil))) (pa_cons (pe_lst pa_nil) pa_nil)) (by rfl))
  (pss_cons (ps_for PassesOwn.never rfl (pi_sq K rfl (pe_slice (slK K rfl) (pv 1) po_none (po_some (pe_op (addK K rfl) pe_int (pe_call (ok__law_take T) (hr.mono (by decide)) rfl T.m__law_take T.f__law_take.kp (b__law_take T) .nil pass0 (pa_cons (pv 0) (pa_cons pe_int pa_nil))))))) (pg_name (i := 3) sc__law_free_kit.nd rfl (Or.inl rfl))
 (pss_one (ps_expr (pe_bm PySem.F.plainAttrs_list PySem.F.slot_list_append PySem.F.type_list_append mt_append (pv 2) (pa_cons (pe_tup (pa_cons (pv 3) (pa_cons (pe_callTy (tupleK K rfl) (by rfl) T.b_tuple (by decide +kernel) (pa_cons (pe_callB (sortK K rfl) (by rfl) T.b_sorted (by decide +kernel) (pa_cons (pe_slice (slK K rfl) (pe_call (ok_mixT T) (hr.mono (by decide)) rfl T.m__law_mixed T.f__law_mixed.kp (b__law_mixed T) .nil pass0 (pa_cons (pv 0) (pa_cons (pv 1) pa_nil))) po_none (po_some (pe_op (addK K rfl) pe_int (pe_call (ok__law_take T) (hr.mono (by decide)) rfl T.m__law_take T.f__law_take.kp (b__law_take T) .nil pass0 (pa_cons (pv 0) (pa_cons pe_int pa_nil)))))) pa_nil)) pa_nil)) pa_nil))) pa_nil)))))
  (pss_cons (ps_set (i := 4) sc__law_free_kit.nd rfl (Or.inl rfl) (by exact (pe_disp (pps_cons pe_str (pe_callTy (tupleK K rfl) (by rfl) T.b_tuple (by decide +kernel) (pa_cons (pv 2) pa_nil)) (pps_cons pe_str (pe_slice (slK K rfl) (pv 1) po_none (po_some (pe_call (ok__law_take T) (hr.mono (by decide)) rfl T.m__law_take T.f__law_take.kp (b__law_take T) .nil pass0 (pa_cons (pv 0) (pa_cons pe_int pa_nil))))) (pps_cons pe_str (pe_slice (slK K rfl) (pv 1) (po_some pe_int) (po_some pe_int)) (pps_cons pe_str (pe_slice (slK K rfl) (pv 1) (po_some pe_int) (po_some pe_int)) pps_nil)))) (by rfl) (by rfl) (fun z => by cases z) (by decide))))
  (pss_one (ps_ret (pe_callTy (call_dictP rfl) (by rfl) T.b_dict (by decide +kernel) (pa_cons (pe_op (addK K rfl) (pe_listItems rfl (pv 4) (by rfl) T.b_list (by decide +kernel)) (pe_lst (pa_cons (pe_tup (pa_cons pe_str (pa_cons (pe_slice (slK K rfl) (pv 1) po_none (po_some pe_int)) pa_nil))) (pa_cons (pe_tup (pa_cons pe_str (pa_cons (pe_slice (slK K rfl) (pv 1) (po_some pe_int) (po_some (pe_op (addK K rfl) pe_int (pe_call (ok__law_take T) (hr.mono (by decide)) rfl T.m__law_take T.f__law_take.kp (b__law_take T) .nil pass0 (pa_cons (pv 0) (pa_cons pe_int pa_nil)))))) pa_nil))) pa_nil)))) pa_nil))))))), ?_⟩
    refine ⟨_, rfl, p, 6, rfl, by decide, by decide, hB, fun na names H1 nl nn hna nap x1 => ⟨Nat.zero_le _, fun sl hsl => ⟨_, _, rfl, ?_⟩⟩⟩
    have nl : names.length = 6 := by omega
    have s2 := same_upd (o := .lst []) hsl
    have nsl := x1.bag.ne hsl
    have slH : H sl = none := Dom.ext x1 _ hsl
    have x2 := x1.then s2
    have na2 := s2 _ _ hna
    have sl2 : upd H1 sl (.lst []) sl = some (.lst []) := upd_same
    generalize upd H1 sl (.lst []) = H2 at x2 na2 sl2 ⊢
    refine ⟨_, rfl, _, rfl, p, 3, rfl, by decide, by decide, x2.bag, fun v H3 v0 v1 x3' => ?_⟩
    have x3 := x2.trans x3'
    have na3 := x3'.keep _ _ nap na2
    have sl3 := x3'.keep _ _ nsl sl2
    refine .inl ⟨1, v, rfl, rfl, _, rfl, q_cutT na3 fun r1 H4 s4 h4 => ⟨r1, _, rfl, .inr (SqT.of h4), fun J G hG wk => ?_⟩⟩
    rw [cut_takeI (by omega), map_take_str] at *
    have zl : (names.take (1 + v).toNat).length = (1 + v).toNat := by rw [List.length_take]; omega
    have zn : ∀ z ∈ names.take (1 + v).toNat, Nm z := fun z hz => nn z (List.mem_of_mem_take hz)
    generalize names.take (1 + v).toNat = zs at *
    have x4 := x3.then s4
    have nr1 := ne_tup x4.bag h4
    refine for_it wk (fun i σ H' => ∃ (acc : List V) (t3 t4 : Option V), σ = [some (.ref p), some (.ref na), some (.ref sl), t3, t4] ∧ Ext p H H' ∧ H' na = some (.tup (names.map V.str)) ∧ H' r1 = some (.tup (zs.map V.str)) ∧ H' sl = some (.lst acc) ∧ acc.length = i ∧ ∀ u ∈ acc, StepV H' u)
      ⟨[], none, none, rfl, x4, s4 _ _ na3, h4, s4 _ _ sl3, rfl, fun u hu => by cases hu⟩ (fun i σ H' _ ⟨_, _, _, _, _, _, h', _⟩ => hG H' fun o e => ?_) ?_ ?_
    · rw [h4] at e
      cases e
      exact h'
    · rintro i x _ H5 _ hi ⟨acc, t3, t4, rfl, x5, na5, r15, sl5, la, hS⟩ ⟨rfl, hx⟩
      obtain ⟨name, mz, rfl⟩ := str_at (K := K) (H := H) (a := p) hx
      rw [List.length_map] at hi
      refine ⟨_, rfl, .inl ⟨rfl, _, SqL.of sl5⟩, _, rfl, _, rfl, _, rfl, p, na, _, rfl, x5.bag, na5, by rw [List.length_map]; omega, fun q1 ys H6 hp hq1 nq1 x6' => ?_⟩
      have x6 := x5.trans x6'
      refine ⟨_, rfl, p, 3, rfl, by decide, by decide, x6.bag, fun v2 H7 v20 v21 x7' => .inl ⟨1, v2, rfl, rfl, _, rfl, q_cutL (x7'.keep _ _ nq1 hq1) fun q2 n2 => ?_⟩⟩
      have x7 := x6.trans x7'
      rw [cut_takeI (by omega)]
      have yl := hp.length_eq
      rw [List.length_map] at yl
      obtain ⟨ks, rfl, kp⟩ := strs_of fun y hy => by
        obtain ⟨z, hz, rfl⟩ := List.mem_map.mp (hp.mem_iff.mp hy)
        exact ⟨z, rfl, nn z hz⟩
      rw [List.length_map] at yl
      rw [map_take_str]
      have cl : (ks.take (1 + v2).toNat).length = (1 + v2).toNat := by rw [List.length_take]; omega
      have cn : ∀ z ∈ ks.take (1 + v2).toNat, Nm z := fun z hz => kp z (List.mem_of_mem_take hz)
      generalize ks.take (1 + v2).toNat = cs at cl cn ⊢
      have s8 := same_upd (o := .lst (cs.map V.str)) n2
      refine ⟨q2, cs, rfl, SqL.of upd_same, by omega, fun ss sp hps hss hn => ⟨sp, _, rfl, .inl ⟨SqL.of upd_same, fun t ht => ⟨by show 2 ≤ sizeLine; decide, fun t2 ht2 => ?_⟩⟩⟩⟩
      have s9 := same_upd (o := .lst (ss.map V.str)) hn
      have s10 := same_upd (o := .tup (ss.map V.str)) ht
      have s11 := same_upd (o := .tup [V.str name, V.ref t]) ht2
      have s811 := s8.trans (s9.trans (s10.trans s11))
      have x11 := x7.then s811
      have x511 := (x6'.trans x7').then s811
      have sl11 := x511.keep _ _ nsl sl5
      have kU := kp_upd (o := .lst (acc ++ [V.ref t2])) sl11
      have sln := hps.length_eq
      refine ⟨sl, acc, .ref t2, rfl, rfl, sl11, sz2 (by omega), acc ++ [.ref t2], _, _, rfl, x11.over hB slH, kU.tup (x511.keep _ _ nap na5), kU.tup (x511.keep _ _ nr1 r15), upd_same, by rw [List.length_append, la]; rfl, fun u hu => ?_⟩
      rcases List.mem_append.mp hu with hu | hu
      · exact ((hS u hu).keep (kp_ext x5.bag x511)).keep kU
      · rw [List.mem_singleton.mp hu]
        exact ⟨t2, t, name, ss, rfl, kU.tup upd_same, zn name mz, kU.tup (s11 _ _ upd_same), by omega, by omega, fun y hy => cn y (hps.mem_iff.mp hy)⟩
    · rintro _ H5 ⟨acc, t3, t4, rfl, x5, na5, r15, sl5, la, hS⟩
      rw [List.length_map] at la
      intro d hd0
      have sd := same_upd (o := .dK []) hd0
      have dH : H d = none := Dom.ext x5 _ hd0
      have ndp := x5.bag.ne hd0
      refine ⟨_, rfl, sl, acc, rfl, .inl ⟨SqL.of (sd _ _ sl5), fun ts hts => ?_⟩⟩
      have st := same_upd (o := .tup acc) hts
      have s56 := sd.trans st
      have d6 : upd (upd H5 d (.dK [])) ts (.tup acc) d = some (.dK []) := st _ _ upd_same
      have ts6 : upd (upd H5 d (.dK [])) ts (.tup acc) ts = some (.tup acc) := upd_same
      have na6 := s56 _ _ na5
      have x6 := x5.then s56
      have hS6 : ∀ u ∈ acc, StepV (upd (upd H5 d (.dK [])) ts (.tup acc)) u := fun u hu => (hS u hu).keep (kp_same s56)
      generalize upd (upd H5 d (.dK [])) ts (.tup acc) = H6 at d6 ts6 na6 x6 hS6 ⊢
      have nts := ne_tup x6.bag ts6
      refine ⟨_, rfl, _, rfl, p, 4, rfl, by decide, by decide, x6.bag, fun wa H7 wa0 wa1 x7' => ⟨_, rfl, q_cutT (x7'.keep _ _ nap na6) fun ra H8 s8 h8 => ?_⟩⟩
      have x7 := x6.trans x7'
      rw [cutV_map] at h8
      have k68 := (kp_ext x6.bag x7').trans (kp_same s8)
      have na8 := k68.tup na6
      refine ⟨_, rfl, _, rfl, _, rfl, q_cutT na8 fun rw' H9 s9 h9 => ⟨_, rfl, _, rfl, _, rfl, q_cutT (s9 _ _ na8) fun re H10 s10 h10 => ?_⟩⟩
      rw [cutV_map] at h9 h10
      have x10 := (x7.then s8).then (s9.trans s10)
      have k810 := kp_same (s9.trans s10)
      have d10 := k810.dic (k68.dic d6)
      refine ⟨d10, [(.inr "steps", .ref ts), (.inr "asks", .ref ra), (.inr "words", .ref rw'), (.inr "errors", .ref re)], rfl, by show 4 ≤ 15; decide, ?_⟩
      rw [show mergeK [] [((.inr "steps" : Key), V.ref ts), (.inr "asks", .ref ra), (.inr "words", .ref rw'), (.inr "errors", .ref re)] = [(.inr "steps", .ref ts), (.inr "asks", .ref ra), (.inr "words", .ref rw'), (.inr "errors", .ref re)] from rfl]
      have kd : ∀ b xs, H10 b = some (.tup xs) → upd H10 d (.dK [(.inr "steps", .ref ts), (.inr "asks", .ref ra), (.inr "words", .ref rw'), (.inr "errors", .ref re)]) b = some (.tup xs) := fun b xs e => by
        rw [upd_ne]
        · exact e
        · intro z
          rw [z, d10] at e
          cases e
      have x11 := x10.over (o := .dK [(.inr "steps", .ref ts), (.inr "asks", .ref ra), (.inr "words", .ref rw'), (.inr "errors", .ref re)]) hB dH
      have d11 : upd H10 d (.dK [(.inr "steps", .ref ts), (.inr "asks", .ref ra), (.inr "words", .ref rw'), (.inr "errors", .ref re)]) d = some (.dK [(.inr "steps", .ref ts), (.inr "asks", .ref ra), (.inr "words", .ref rw'), (.inr "errors", .ref re)]) := upd_same
      have ts11 := kd _ _ (k810.tup (k68.tup ts6))
      have na11 := kd _ _ (k810.tup na8)
      have ra11 := kd _ _ (k810.tup h8)
      have rw11 := kd _ _ (s10 _ _ h9)
      have re11 := kd _ _ h10
      have hS11 : ∀ u ∈ acc, StepV (upd H10 d (.dK [(.inr "steps", .ref ts), (.inr "asks", .ref ra), (.inr "words", .ref rw'), (.inr "errors", .ref re)])) u := fun u hu => by
        obtain ⟨a, o, x, os, e, e1, e2, e3, e4⟩ := (hS6 u hu).keep (k68.trans k810)
        exact ⟨a, o, x, os, e, kd _ _ e1, e2, kd _ _ e3, e4⟩
      generalize upd H10 d (.dK [(.inr "steps", .ref ts), (.inr "asks", .ref ra), (.inr "words", .ref rw'), (.inr "errors", .ref re)]) = H11 at x11 d11 ts11 na11 ra11 rw11 re11 hS11 ⊢
      refine ⟨_, rfl, d, _, rfl, d11, fun H12 pl tl12 s12 n1 n2 n3 h12 hP12 => ?_⟩
      have s12 : Same H11 H12 := s12
      have x12 := x11.then s12
      have npl := x11.bag.ne n1
      refine ⟨_, rfl, _, rfl, q_cutT (s12 _ _ na11) fun rl H13 s13 h13 => ⟨by show 2 ≤ sizeLine; decide, fun tl htl => ?_⟩⟩
      rw [cutV_map] at h13
      have s14 := same_upd (o := .tup [V.str "labels", V.ref rl]) htl
      have x14 := (x12.then s13).then s14
      have s1214 := s13.trans s14
      have na14 := s1214 _ _ (s12 _ _ na11)
      refine ⟨_, rfl, _, rfl, _, rfl, p, 3, rfl, by decide, by decide, x14.bag, fun u H15 u0 u1 x15' => .inl ⟨3, u, rfl, rfl, _, rfl, q_cutT (x15'.keep _ _ nap na14) fun rc H16 s16 h16 => ⟨by show 2 ≤ sizeLine; decide, fun tc htc => ⟨by show 2 ≤ sizeLine; decide, fun ll hll => ?_⟩⟩⟩⟩
      rw [cutV_map] at h16
      have s17 := same_upd (o := .tup [V.str "calls", V.ref rc]) htc
      have s18 := same_upd (o := .lst [V.ref tl, V.ref tc]) hll
      have s1618 := s16.trans (s17.trans s18)
      have h15 := x15'.keep _ _ npl (s1214 _ _ h12)
      refine q_catL (s1618 _ _ h15) upd_same (sz3 (by rw [List.length_map, PySem.Paired.length hP12]; show 4 + 2 ≤ _; omega)) fun r hr' => ?_
      have s19 := same_upd (o := .lst (tl12.map V.ref ++ [V.ref tl, V.ref tc])) hr'
      have k1419 := (kp_ext x14.bag x15').trans (kp_same (s1618.trans s19))
      have k1219 := (kp_same s1214).trans k1419
      have x19 := (x14.trans x15').then (s1618.trans s19)
      refine ⟨r, tl12 ++ [tl, tc], [(.inr "steps", .ref ts), (.inr "asks", .ref ra), (.inr "words", .ref rw'), (.inr "errors", .ref re), (.inr "labels", .ref rl), (.inr "calls", .ref rc)], rfl, SqL.of (by rw [upd_same, List.map_append]; rfl), ?_, fun kt hkt => ?_⟩
      · refine paired_app (ys := kv4 ts ra rw' re) (bs := kv2 rl rc) (paired_imp (fun t q e => SqT.of (k1219.tup e)) hP12) (.cons ?_ (.cons ?_ .nil))
        · exact SqT.of (k1419.tup upd_same)
        · exact SqT.of (s19 _ _ (s18 _ _ upd_same))
      have s20 := same_upd (o := .dK (mergeK [] [((.inr "steps" : Key), V.ref ts), (.inr "asks", .ref ra), (.inr "words", .ref rw'), (.inr "errors", .ref re), (.inr "labels", .ref rl), (.inr "calls", .ref rc)])) hkt
      have k1220 := k1219.trans (kp_same s20)
      have k1120 := (kp_same s12).trans k1220
      have cm : ∀ {lo hi : Option Int}, ∀ z ∈ cutL names lo hi, Nm z := fun z hz => nn z (cutL_mem hz)
      refine k kt ⟨ts, ra, rw', re, rl, rc, acc, cutL names none (some wa), cutL names (some 1) (some 3), cutL names (some 2) (some 5), cutL names none (some 2), cutL names (some 3) (some (3 + u))⟩ _ ?_ (x19.then s20)
      exact {
        d := upd_same
        s := k1120.tup ts11
        sl := ⟨by show 1 ≤ acc.length; omega, by show acc.length ≤ 3; omega⟩
        sv := fun u hu => (hS11 u hu).keep k1120
        a := k1120.tup ra11
        al := by
          obtain ⟨wn, rfl⟩ := Int.eq_ofNat_of_zero_le wa0
          show (cutL names none (some (wn : Int))).length ≤ 3
          rw [cutL_0n]
          omega
        an := cm
        w := k1120.tup rw11
        wl := by
          show 1 ≤ (cutL names (some ((1 : Nat) : Int)) (some ((3 : Nat) : Int))).length ∧ (cutL names (some ((1 : Nat) : Int)) (some ((3 : Nat) : Int))).length ≤ 3
          rw [cutL_nn]
          omega
        wn := cm
        e := k1120.tup re11
        el := by
          show 1 ≤ (cutL names (some ((2 : Nat) : Int)) (some ((5 : Nat) : Int))).length ∧ (cutL names (some ((2 : Nat) : Int)) (some ((5 : Nat) : Int))).length ≤ 3
          rw [cutL_nn]
          omega
        en := cm
        l := (((kp_same s14).trans k1419).trans (kp_same s20)).tup h13
        ll := by
          show 1 ≤ (cutL names none (some ((2 : Nat) : Int))).length ∧ (cutL names none (some ((2 : Nat) : Int))).length ≤ 3
          rw [cutL_0n]
          omega
        ln := cm
        c := ((kp_same (s17.trans s18)).trans ((kp_same s19).trans (kp_same s20))).tup h16
        cl := by
          obtain ⟨un, rfl⟩ := Int.eq_ofNat_of_zero_le u0
          show (cutL names (some ((3 : Nat) : Int)) (some ((3 : Int) + (un : Int)))).length ≤ 3
          rw [show (3 : Int) + (un : Int) = ((3 + un : Nat) : Int) by omega, cutL_nn]
          omega
        cn := cm }
end
end K14
set_option Elab.async false
set_option linter.all false
set_option maxRecDepth 100000
set_option maxHeartbeats 4000000
namespace K14
open PySem PySem.Spec L2 Quiet Gn Rw

/-- a value, of which the bag is no part -/
def ValP (p : Addr) (H : Hp) (v : V) : Prop := ∃ d, Is (hide (but p) H) v d ∧ Fine 0 d
theorem ValP.same {p : Addr} {H H' : Hp} {v : V} (s : Same H H') (h : ValP p H v) : ValP p H' v := by
  obtain ⟨d, h1, h2⟩ := h
  exact ⟨d, Is.same (hide_mono s) h1, h2⟩
theorem ValP.ext {p : Addr} {H H' : Hp} {v : V} (x : Ext p H H') (h : ValP p H v) : ValP p H' v := by
  obtain ⟨d, h1, h2⟩ := h
  exact ⟨d, Is.same (hide_ext (by simp) x) h1, h2⟩
/-- what a near path is made of -/
def vOf : PyData → V | .int i => .int i | .bool b => .bl b | .str x => .str x | _ => .non
def gItem : PyData → Bool
  | .int i => decide (i.natAbs ≤ 10 ^ 30)
  | .bool _ => true
  | .str x => decide (x.length ≤ 41) && x.cps.toList.all fun c => decide (c < 128)
  | _ => false
theorem item_is {H : Hp} {d : PyData} (h : gItem d = true) : Is H (vOf d) d := by
  cases d <;> first | (exact absurd h Bool.false_ne_true) | exact .int _ | exact .bl _ | exact .str _
theorem items_are {H : Hp} : ∀ {ds : List PyData}, ds.all gItem = true → Are H (ds.map vOf) ds
  | [], _ => .nil
  | d :: ds, h => by
    rw [List.all_cons, Bool.and_eq_true] at h
    exact .cons (item_is h.1) (items_are h.2)
theorem item_ok {d : PyData} (h : gItem d = true) : okD 0 d = true ∧ d.weight ≤ 150 ∧ d.depth ≤ 1 := by
  cases d <;> first | (exact absurd h Bool.false_ne_true) | skip
  · exact ⟨rfl, by simp [PyData.weight], by simp [PyData.depth]⟩
  · rename_i i
    have h := of_decide_eq_true h
    refine ⟨decide_eq_true (Nat.le_trans h (by decide)), ?_, by simp [PyData.depth]⟩
    simp only [PyData.weight]
    split
    · omega
    · have : i.natAbs.log2 < 100 := (Nat.log2_lt (by rename_i h'; simp at h'; omega)).mpr (Nat.lt_of_le_of_lt h (by decide))
      omega
  · rename_i x
    have h : (decide (x.length ≤ 41) && x.cps.toList.all fun c => decide (c < 128)) = true := h
    rw [Bool.and_eq_true] at h
    have h1 := of_decide_eq_true h.1
    refine ⟨?_, by simp only [PyData.weight]; exact Nat.le_trans h1 (by decide), by simp [PyData.depth]⟩
    show (decide (x.length ≤ 50 + 0) && _) = true
    rw [decide_eq_true (by omega), h.2]
    rfl
theorem items_fine {ds : List PyData} (h : ds.all gItem = true) : okAll 0 ds = true ∧ PyData.weightAll ds ≤ 151 * ds.length ∧ PyData.depthAll ds ≤ 1 := by
  induction ds with
  | nil => exact ⟨rfl, Nat.le_refl _, by simp [PyData.depthAll]⟩
  | cons d ds ih =>
    rw [List.all_cons, Bool.and_eq_true] at h
    obtain ⟨a, b, c⟩ := item_ok h.1
    obtain ⟨a2, b2, c2⟩ := ih h.2
    refine ⟨?_, ?_, ?_⟩
    · show (okD 0 d && okAll 0 ds) = true
      rw [a, a2]
      rfl
    · simp only [PyData.weightAll, List.length_cons]
      omega
    · simp only [PyData.depthAll]
      omega
theorem nonI_le (ds : List PyData) : nonI ds ≤ ds.length := List.countP_le_length
theorem fine_tup {ds : List PyData} (h : ds.all gItem = true) (l : ds.length ≤ 16) : Fine 0 (.tuple ds) ∧ Fine 0 (.list ds) ∧ Fine 0 (.tuple [.tuple ds]) := by
  obtain ⟨a, b, c⟩ := items_fine h
  have n := nonI_le ds
  have o : (okAll 0 ds && decide (nonI ds ≤ 40 + 0)) = true := by
    rw [a, decide_eq_true (by omega)]
    rfl
  refine ⟨⟨o, ?_, ?_⟩, ⟨o, ?_, ?_⟩, ⟨?_, ?_, ?_⟩⟩
  · show PyData.weightAll ds ≤ 4 ^ 0 * 5000
    omega
  · simp only [PyData.depth, dB]
    omega
  · show PyData.weightAll ds ≤ 4 ^ 0 * 5000
    omega
  · simp only [PyData.depth, dB]
    omega
  · show ((okAll 0 ds && decide (nonI ds ≤ 40 + 0)) && true && decide (nonI [PyData.tuple ds] ≤ 40 + 0)) = true
    rw [o]
    rfl
  · simp only [PyData.weight, PyData.weightAll, wB]
    omega
  · simp only [PyData.depth, PyData.depthAll, dB]
    omega
theorem val_tup {p a : Addr} {H : Hp} {ds : List PyData} (h : H a = some (.tup (ds.map vOf))) (n : a ≠ p) (g : ds.all gItem = true) (l : ds.length ≤ 16) : ValP p H (.ref a) :=
  ⟨.tuple ds, .tup (by rw [hide_ne (by simp [n])]; exact h) (items_are g), (fine_tup g l).1⟩
theorem val_list {p a : Addr} {H : Hp} {ds : List PyData} (h : H a = some (.lst (ds.map vOf))) (n : a ≠ p) (g : ds.all gItem = true) (l : ds.length ≤ 16) : ValP p H (.ref a) :=
  ⟨.list ds, .lst (by rw [hide_ne (by simp [n])]; exact h) (items_are g), (fine_tup g l).2.1⟩
theorem val_one {p a b : Addr} {H : Hp} {ds : List PyData} (h : H a = some (.tup (ds.map vOf))) (hb : H b = some (.tup [.ref a])) (n : a ≠ p) (nb : b ≠ p) (g : ds.all gItem = true) (l : ds.length ≤ 16) : ValP p H (.ref b) :=
  ⟨.tuple [.tuple ds], .tup (by rw [hide_ne (by simp [nb])]; exact hb) (.cons (.tup (by rw [hide_ne (by simp [n])]; exact h) (items_are g)) .nil), (fine_tup g l).2.2⟩
/-- a path's places as such items -/
def nI (ns : List Nat) : List PyData := ns.map fun n : Nat => PyData.int (n : Int)
theorem nI_v {ns : List Nat} : (ns.map fun n : Nat => V.int (n : Int)) = (nI ns).map vOf := by
  rw [nI, List.map_map]
  rfl
theorem nI_g {ns : List Nat} (h : ∀ n ∈ ns, n ≤ 1000000) : (nI ns).all gItem = true := by
  rw [List.all_eq_true]
  intro d hd
  obtain ⟨n, hn, rfl⟩ := List.mem_map.mp hd
  have := h n hn
  exact decide_eq_true (by rw [Int.natAbs_natCast]; exact Nat.le_trans this (by decide))
theorem all_sub {as bs : List PyData} (h : as.all gItem = true) (k : ∀ d ∈ bs, d ∈ as) : bs.all gItem = true := by
  rw [List.all_eq_true] at h ⊢
  exact fun d hd => h d (k d hd)
def spPlace : Sp := fun vs H Q _ => ∃ (p : Addr) (v : V) (rows : List PyData), vs = [.ref p, v] ∧ Bag H p ∧ RowsAt H v rows ∧ deepR 5 rows ∧ szs rows ≤ 1000 ∧ ∀ (u : V) (H' : Hp), ValP p H' u → Ext p H H' → Q u H'
section
variable {P : Program} {w : World} {K : PySem.W.Frag} {mg : Str → Option Value} {base : Heap} {A : Ad} {D : Fd}
theorem ok__law_place (T : Txt K mg A D) : FnOk P w K mg base CX0 8 A._law_place D._law_place ["bag", "rows"] spPlace := by
  refine T.f__law_place.ok sc__law_place (fun vs H Q E h => ?_) (fun cdv AA outer s H vs Q E hr h => ?_)
  · obtain ⟨p, v, rows, rfl, _⟩ := h
    rfl
  · obtain ⟨p, v, rows, rfl, hB, hv, dp, hz, k⟩ := h
    refine ⟨_, (pss_cons (ps_set (i := 2) sc__law_place.nd rfl (Or.inl rfl) (by exact (pe_op (addK K rfl) (pe_call (ok_paths_n T 6) (hr.mono (by decide)) rfl T.m__law_paths T.f__law_paths.kp (b__law_paths T) .nil pass0 (pa_cons (pv 1) pa_nil)) (pe_lst (pa_cons (pe_tup (pa_cons pe_int pa_nil)) pa_nil)))))
  (pss_cons (ps_par (i := 3) (j := 4) (by rfl) sc__law_place.nd rfl rfl (by decide) rfl rfl (pa_cons (pe_call (ok__law_one T) (hr.mono (by decide)) rfl T.m__law_one T.f__law_one.kp (b__law_one T) .nil pass0 (pa_cons (pv 0) (pa_cons (pv 2) pa_nil))) (pa_cons (pe_call (ok__law_take T) (hr.mono (by decide)) rfl T.m__law_take T.f__law_take.kp (b__law_take T) .nil pass0 (pa_cons (pv 0) (pa_cons pe_int pa_nil))) pa_nil)) (by rfl))
  (C8.pss_cut (ps_if (pt_cmpR op_lt (pv 4) pe_int (nomark _)) (pss_one (ps_ret (pv 3))) pss_nil)
  (C8.pss_cut (ps_if (pt_cmpR (eqK K rfl (units_of hr)) (pv 4) pe_int (nomark _)) (pss_one (ps_ret (pe_op (addK K rfl) (pe_slice (slK K rfl) (pv 3) po_none (po_some (pe_un un_neg pe_int))) (pe_tup (pa_cons (pe_op (addK K rfl) (pe_ix (ixK K rfl) (pv 3) (pe_un un_neg pe_int) (fun _ _ => rfl)) pe_int) pa_nil))))) pss_nil)
  (C8.pss_cut (ps_if (pt_cmpR (eqK K rfl (units_of hr)) (pv 4) pe_int (nomark _)) (pss_one (ps_ret (pe_op (addK K rfl) (pv 3) (pe_tup (pa_cons (pe_call (ok__law_take T) (hr.mono (by decide)) rfl T.m__law_take T.f__law_take.kp (b__law_take T) .nil pass0 (pa_cons (pv 0) (pa_cons pe_int pa_nil))) (pa_cons pe_int pa_nil)))))) pss_nil)
  (pss_cons (ps_set (i := 5) sc__law_place.nd rfl (Or.inl rfl) (by exact (pe_lst (pa_cons (pe_op (addK K rfl) (pv 3) (pe_tup (pa_cons pe_int pa_nil))) (pa_cons (pe_slice (slK K rfl) (pv 3) po_none (po_some (pe_un un_neg pe_int))) (pa_cons (pe_op (addK K rfl) (pe_slice (slK K rfl) (pv 3) po_none (po_some (pe_un un_neg pe_int))) (pe_tup (pa_cons (pe_un un_neg pe_int) pa_nil))) (pa_cons (pe_op (addK K rfl) (pe_slice (slK K rfl) (pv 3) po_none (po_some (pe_un un_neg pe_int))) (pe_tup (pa_cons (pe_cmpR (eqK K rfl (units_of hr)) (pe_ix (ixK K rfl) (pv 3) (pe_un un_neg pe_int) (fun _ _ => rfl)) pe_int (nomark _)) pa_nil))) (pa_cons (pe_callTy (listK K rfl) (by rfl) T.b_list (by decide +kernel) (pa_cons (pv 3) pa_nil)) (pa_cons (pe_tup (pa_cons (pv 3) pa_nil)) pa_nil)))))))))
  (pss_cons (ps_set (i := 5) sc__law_place.nd rfl (Or.inl rfl) (by exact (pe_op (addK K rfl) (pv 5) (pe_lst (pa_cons (pe_op (addK K rfl) (pe_op (addK K rfl) (pe_slice (slK K rfl) (pv 3) po_none (po_some pe_int)) (pe_tup (pa_cons (pe_un un_neg pe_int) pa_nil))) (pe_slice (slK K rfl) (pv 3) (po_some pe_int) po_none)) (pa_cons (pe_op (addK K rfl) (pe_slice (slK K rfl) (pv 3) po_none (po_some (pe_un un_neg pe_int))) (pe_tup (pa_cons (pe_callTy call_str_int (by rfl) T.b_str (by decide +kernel) (pa_cons (pe_ix (ixK K rfl) (pv 3) (pe_un un_neg pe_int) (fun _ _ => rfl)) pa_nil)) pa_nil))) (pa_cons (pe_op (addK K rfl) (pe_slice (slK K rfl) (pv 3) po_none (po_some (pe_un un_neg pe_int))) (pe_tup (pa_cons (pe_op op_pow pe_int pe_int) pa_nil))) (pa_cons (pe_call (ok__law_odd T) (hr.mono (by decide)) rfl T.m__law_odd T.f__law_odd.kp (b__law_odd T) .nil pass0 (pa_cons (pv 0) pa_nil)) pa_nil))))))))
  (pss_one (ps_ret (pe_call (ok__law_one T) (hr.mono (by decide)) rfl T.m__law_one T.f__law_one.kp (b__law_one T) .nil pass0 (pa_cons (pv 0) (pa_cons (pv 5) pa_nil)))))))))))), ?_⟩
    have e5 : sizeF 5 rows = szs rows := (sz_of dp (by decide)).symm
    refine ⟨_, rfl, v, rows, rfl, hv, by decide, dp, by rw [e5]; omega, fun r ws H1 s1 nr h1 wl hP => ⟨by show 1 ≤ sizeLine; decide, fun t0 ht0 => ⟨by show 1 ≤ sizeLine; decide, fun l0 hl0 => ?_⟩⟩⟩
    have s2 := (same_upd (o := .tup [V.int 0]) ht0).trans (same_upd (o := .lst [V.ref t0]) hl0)
    refine q_catL (s2 _ _ h1) upd_same (sz3 (by rw [wl, e5]; show _ + 1 ≤ _; omega)) fun ev hev => ?_
    have s3 := s2.trans (same_upd (o := .lst (ws ++ [V.ref t0])) hev)
    have x3 := (Ext.same hB s1).then s3
    have hP3 : ∀ u ∈ ws ++ [V.ref t0], PathV (upd (upd (upd H1 t0 (.tup [V.int 0])) l0 (.lst [V.ref t0])) ev (.lst (ws ++ [V.ref t0]))) 11 u := by
      intro u hu
      rcases List.mem_append.mp hu with hu | hu
      · exact (hP u hu).keep (tk_same s3)
      · rw [List.mem_singleton.mp hu]
        refine ⟨t0, [0], rfl, ?_, by decide, by decide, fun m hm => by rw [List.mem_singleton.mp hm]; decide⟩
        exact same_upd hev _ _ (same_upd hl0 _ _ upd_same)
    have ev3 : upd (upd (upd H1 t0 (.tup [V.int 0])) l0 (.lst [V.ref t0])) ev (.lst (ws ++ [V.ref t0])) ev = some (.lst (ws ++ [V.ref t0])) := upd_same
    have nev : ev ≠ p := ((Ext.same hB s1).then s2).bag.ne hev
    have lws : (ws ++ [V.ref t0]).length ≤ 1001 := by
      rw [List.length_append, wl, e5]
      show _ + 1 ≤ _
      omega
    have lw0 : 0 < (ws ++ [V.ref t0]).length := by
      rw [List.length_append]
      exact Nat.succ_pos _
    generalize upd (upd (upd H1 t0 (.tup [V.int 0])) l0 (.lst [V.ref t0])) ev (.lst (ws ++ [V.ref t0])) = H3 at x3 hP3 ev3
    generalize ws ++ [V.ref t0] = wl3 at hP3 ev3 lws lw0
    refine ⟨_, rfl, _, rfl, p, .ref ev, rfl, x3.bag, .inl ⟨ev, wl3, rfl, nev, .inl (SqL.of ev3), lw0, by omega, fun i u H4 hu x4' => ?_⟩⟩
    have x4 := x3.trans x4'
    obtain ⟨pa, ns, rfl, hpa, n1, n11, nm⟩ := (hP3 u (List.mem_of_getElem? hu)).keep (Kp.paths (kp_ext x3.bag x4'))
    refine ⟨_, rfl, p, 13, rfl, by decide, by decide, x4.bag, fun way H5 w0 w1 x5' => ⟨_, _, rfl, ?_⟩⟩
    have x5 := x4.trans x5'
    have npa := ne_tup x4.bag hpa
    have hp5 := x5'.keep _ _ npa hpa
    have gN := nI_g nm
    have lN : (nI ns).length = ns.length := List.length_map ..
    rw [nI_v] at hp5
    let Mid : L2.St → Hp → Prop := fun σ H' => σ = [some (.ref p), some v, some (.ref ev), some (.ref pa), some (.int way), none] ∧ H' = H5
    refine ⟨Mid, ?_, ?_⟩
    · refine ⟨_, rfl, _, _, rfl, rfl, ⟨_, rfl, if_b (fun _ => ⟨_, rfl, ?_⟩) (fun _ => ⟨rfl, rfl⟩)⟩⟩
      exact k _ _ (val_tup hp5 npa gN (by omega)) x5
    rintro _ _ ⟨rfl, rfl⟩
    have l0 : (nI ns).length - 1 < (nI ns).length := by omega
    have l0' : ns.length - 1 < ns.length := by omega
    have el : ((nI ns).map vOf)[((nI ns).map vOf).length - 1]? = some (.int ((ns[ns.length - 1] : Nat) : Int)) := by
      rw [← nI_v, List.length_map, List.getElem?_map, List.getElem?_eq_getElem l0']
      rfl
    have ln : ns[ns.length - 1] ≤ 1000000 := nm _ (List.getElem_mem l0')
    generalize ns[ns.length - 1] = last at el ln
    have gD : (nI ns).dropLast.all gItem = true := all_sub gN fun d hd => List.mem_of_mem_take (by rw [← List.dropLast_eq_take]; exact hd)
    have lD : (nI ns).dropLast.length ≤ 11 := by
      rw [List.length_dropLast]
      omega
    -- before the last place, and one more
    have near : ∀ {H : Hp} (it : PyData) {r : Addr}, gItem it = true → H r = some (.tup ((nI ns).dropLast.map vOf ++ [vOf it])) → r ≠ p → ValP p H (.ref r) := fun it r g h n => by
      refine val_tup (ds := (nI ns).dropLast ++ [it]) (by rw [List.map_append]; exact h) n ?_ (by rw [List.length_append]; show _ + 1 ≤ _; omega)
      rw [List.all_append, gD]
      simpa using g
    refine ⟨Mid, ?_, ?_⟩
    · refine ⟨_, rfl, q_eqi ⟨_, rfl, if_b (fun _ => ?_) (fun _ => ⟨rfl, rfl⟩)⟩⟩
      refine ⟨_, rfl, 1, rfl, _, rfl, q_cutT hp5 fun r1 H6 s6 h6 => ?_⟩
      rw [cut_last, ← List.map_dropLast] at h6
      refine ⟨_, rfl, 1, rfl, q_ixLast (.inr (SqT.of (s6 _ _ hp5))) el (.inl ⟨_, _, rfl, rfl, ⟨by show 1 ≤ sizeLine; decide, fun t ht => ?_⟩⟩)⟩
      have s7 := same_upd (o := .tup [V.int ((last : Int) + 1)]) ht
      refine q_catT (s7 _ _ h6) upd_same (sz3 (by rw [List.length_map]; show _ + 1 ≤ _; omega)) fun r2 H8 s8 h8 => ?_
      have x8 := x5.then (s6.trans (s7.trans s8))
      exact k _ _ (near (.int ((last : Int) + 1)) (decide_eq_true (Nat.le_trans (show ((last : Int) + 1).natAbs ≤ 1000001 by omega) (by decide))) h8 (ne_tup x8.bag h8)) x8
    rintro _ _ ⟨rfl, rfl⟩
    refine ⟨Mid, ?_, ?_⟩
    · refine ⟨_, rfl, q_eqi ⟨_, rfl, if_b (fun _ => ?_) (fun _ => ⟨rfl, rfl⟩)⟩⟩
      refine ⟨_, rfl, _, rfl, p, 4, rfl, by decide, by decide, x5.bag, fun w H6 w0 w1 x6' => ⟨by show 2 ≤ sizeLine; decide, fun t ht => ?_⟩⟩
      have s7 := same_upd (o := .tup [V.int w, V.int 0]) ht
      refine q_catT (s7 _ _ (x6'.keep _ _ npa hp5)) upd_same (sz3 (by rw [List.length_map]; show _ + 2 ≤ _; omega)) fun r2 H8 s8 h8 => ?_
      have x8 := (x5.trans x6').then (s7.trans s8)
      refine k _ _ (val_tup (ds := nI ns ++ [.int w, .int 0]) (by rw [List.map_append]; exact h8) (ne_tup x8.bag h8) ?_ (by rw [List.length_append]; show _ + 2 ≤ _; omega)) x8
      rw [List.all_append, gN]
      have : gItem (.int w) = true := decide_eq_true (Nat.le_trans (show w.natAbs ≤ 4 by omega) (by decide))
      show (true && (gItem (.int w) && (gItem (.int 0) && true))) = true
      rw [this]
      rfl
    rintro _ _ ⟨rfl, rfl⟩
    -- near, the first ones
    refine ⟨_, rfl, by show 1 ≤ sizeLine; decide, fun t1 ht1 => q_catT (same_upd ht1 _ _ hp5) upd_same (sz3 (by rw [List.length_map]; show _ + 1 ≤ _; omega)) fun r1 Ha sa ha => ?_⟩
    have s1 := (same_upd (o := .tup [V.int 0]) ht1).trans sa
    refine ⟨_, rfl, 1, rfl, _, rfl, q_cutT (s1 _ _ hp5) fun r2 Hb sb hb => ?_⟩
    rw [cut_last, ← List.map_dropLast] at hb
    have s2 := s1.trans sb
    refine ⟨_, rfl, 1, rfl, _, rfl, q_cutT (s2 _ _ hp5) fun r3 Hc sc hc => ?_⟩
    rw [cut_last, ← List.map_dropLast] at hc
    refine ⟨1, rfl, by show 1 ≤ sizeLine; decide, fun t3 ht3 => q_catT (same_upd ht3 _ _ hc) upd_same (sz3 (by rw [List.length_map]; show _ + 1 ≤ _; omega)) fun r3' Hd sd hd => ?_⟩
    have s3 := s2.trans (sc.trans ((same_upd (o := .tup [V.int (-1)]) ht3).trans sd))
    refine ⟨_, rfl, 1, rfl, _, rfl, q_cutT (s3 _ _ hp5) fun r4 He se he => ?_⟩
    rw [cut_last, ← List.map_dropLast] at he
    refine ⟨_, rfl, 1, rfl, q_ixLast (.inr (SqT.of (se _ _ (s3 _ _ hp5)))) el (q_eqi ⟨by show 1 ≤ sizeLine; decide, fun t4 ht4 => q_catT (same_upd ht4 _ _ he) upd_same (sz3 (by rw [List.length_map]; show _ + 1 ≤ _; omega)) fun r4' Hf sf hf => ?_⟩)⟩
    have s4 := s3.trans (se.trans ((same_upd (o := .tup [V.bl (decide ((last : Int) = 1))]) ht4).trans sf))
    refine ⟨_, rfl, pa, _, rfl, .inr (SqT.of (s4 _ _ hp5)), fun ll hll => ?_⟩
    have s5 := s4.trans (same_upd (o := .lst ((nI ns).map vOf)) hll)
    refine ⟨_, rfl, by show 1 ≤ sizeLine; decide, fun t6 ht6 => ⟨by show 6 ≤ sizeLine; decide, fun nl hnl => ?_⟩⟩
    have s6 := s5.trans (same_upd (o := .tup [V.ref pa]) ht6)
    have s7 := s6.trans (same_upd (o := .lst [V.ref r1, .ref r2, .ref r3', .ref r4', .ref ll, .ref t6]) hnl)
    have x7 := x5.then s7
    have nll : ll ≠ p := (x5.then s4).bag.ne hll
    have nnl : nl ≠ p := (x5.then s6).bag.ne hnl
    have V1 : ∀ u ∈ [V.ref r1, .ref r2, .ref r3', .ref r4', .ref ll, .ref t6], ValP p (upd (upd (upd Hf ll (.lst ((nI ns).map vOf))) t6 (.tup [V.ref pa])) nl (.lst [V.ref r1, .ref r2, .ref r3', .ref r4', .ref ll, .ref t6])) u := by
      have sn := same_upd (o := .lst [V.ref r1, .ref r2, .ref r3', .ref r4', .ref ll, .ref t6]) hnl
      have st := (same_upd (o := .tup [V.ref pa]) ht6).trans sn
      have sl := (same_upd (o := .lst ((nI ns).map vOf)) hll).trans st
      have sd4 := (se.trans ((same_upd (o := .tup [V.bl (decide ((last : Int) = 1))]) ht4).trans sf)).trans sl
      have sd3 := sc.trans ((same_upd (o := .tup [V.int (-1)]) ht3).trans sd) |>.trans sd4
      have sd2 := sb.trans sd3
      intro u hu
      simp only [List.mem_cons, List.not_mem_nil, or_false] at hu
      rcases hu with rfl | rfl | rfl | rfl | rfl | rfl
      · refine val_tup (ds := nI ns ++ [.int 0]) (by rw [List.map_append]; exact sd2 _ _ ha) (ne_tup (x5.then s1).bag ha) ?_ (by rw [List.length_append]; show _ + 1 ≤ _; omega)
        rw [List.all_append, gN]
        rfl
      · exact val_tup (sd3 _ _ hb) (ne_tup (x5.then s2).bag hb) gD (by omega)
      · exact near (.int (-1)) rfl (sd4 _ _ hd) (ne_tup (x5.then s3).bag hd)
      · exact near (.bool (decide ((last : Int) = 1))) rfl (sl _ _ hf) (ne_tup (x5.then s4).bag hf)
      · exact val_list (st _ _ upd_same) nll gN (by omega)
      · exact val_one (s7 _ _ hp5) (sn _ _ upd_same) npa (ne_tup (x5.then s6).bag upd_same) gN (by omega)
    have nl7 : upd (upd (upd Hf ll (.lst ((nI ns).map vOf))) t6 (.tup [V.ref pa])) nl (.lst [V.ref r1, .ref r2, .ref r3', .ref r4', .ref ll, .ref t6]) nl = some (.lst [V.ref r1, .ref r2, .ref r3', .ref r4', .ref ll, .ref t6]) := upd_same
    have hp7 := s7 _ _ hp5
    generalize upd (upd (upd Hf ll (.lst ((nI ns).map vOf))) t6 (.tup [V.ref pa])) nl (.lst [V.ref r1, .ref r2, .ref r3', .ref r4', .ref ll, .ref t6]) = H7 at x7 V1 nl7 hp7 ⊢
    -- the others
    refine ⟨_, rfl, _, rfl, _, rfl, q_cutT hp7 fun a1 Ha sa ha => ⟨1, rfl, by show 1 ≤ sizeLine; decide, fun b1 hb1 => q_catT (same_upd hb1 _ _ ha) upd_same (sz3 ?_) fun a2 Hb sb hb => ⟨_, rfl, _, rfl, q_cutT (sb _ _ (same_upd hb1 _ _ (sa _ _ hp7))) fun a3 Hc sc hc => q_catT (sc _ _ hb) hc (sz3 ?_) fun a4 Hd sd hd => ?_⟩⟩⟩
    · have : (cutV ((nI ns).map vOf) none (some 1)).length ≤ 1 := by
        rw [cut_takeI (by decide), List.length_take]
        exact Nat.min_le_left _ _
      show _ + 1 ≤ _
      omega
    · rw [cut_takeI (by decide), cut_drop (k := 2) (by decide), List.length_append, List.length_take, List.length_drop, List.length_map]
      show _ + 1 + _ ≤ _
      omega
    rw [cut_takeI (by decide), cut_drop (k := 2) (by decide)] at hd
    have t1 := sa.trans ((same_upd (o := .tup [V.int (-1)]) hb1).trans (sb.trans (sc.trans sd)))
    have hp8 := t1 _ _ hp7
    have nl8 := t1 _ _ nl7
    have x8 := x7.then t1
    have Va : ValP p Hd (.ref a4) := by
      refine val_tup (ds := (nI ns).take 1 ++ [.int (-1)] ++ (nI ns).drop 2) ?_ (ne_tup x8.bag hd) ?_ ?_
      · rw [hd, List.map_append, List.map_append, List.map_take, List.map_drop]
        rfl
      · rw [List.all_append, List.all_append, all_sub gN fun d hd => List.mem_of_mem_take hd, all_sub gN fun d hd => List.mem_of_mem_drop hd]
        rfl
      · rw [List.length_append, List.length_append, List.length_take, List.length_drop]
        show _ + 1 + _ ≤ _
        omega
    refine ⟨_, rfl, 1, rfl, _, rfl, q_cutT hp8 fun c1 Ha2 sa2 ha2 => ?_⟩
    rw [cut_last, ← List.map_dropLast] at ha2
    refine ⟨_, rfl, 1, rfl, q_ixLast (.inr (SqT.of (sa2 _ _ hp8))) el ⟨_, rfl, ?_, ⟨by show 1 ≤ sizeLine; decide, fun b2 hb2 => q_catT (same_upd hb2 _ _ ha2) upd_same (sz3 (by rw [List.length_map]; show _ + 1 ≤ _; omega)) fun c2 Hb2 sb2 hb2' => ?_⟩⟩⟩
    · rw [Int.natAbs_natCast]
      by_cases h : last = 0
      · rw [h]
        decide
      · exact Nat.lt_of_lt_of_le ((Nat.log2_lt h).mpr (show last < 2 ^ 20 by omega)) (by decide)
    obtain ⟨tl, tk⟩ := int_text (i := (last : Int)) (by rw [Int.natAbs_natCast]; exact Nat.lt_of_le_of_lt ln (by decide))
    have t2 := sa2.trans ((same_upd (o := .tup [V.str (Str.ofString (toString (last : Int)))]) hb2).trans sb2)
    have hp9 := t2 _ _ hp8
    have nl9 := t2 _ _ nl8
    have x9 := x8.then t2
    have Vb : ValP p Hb2 (.ref c2) := by
      refine near (.str (Str.ofString (toString (last : Int)))) ?_ hb2' (ne_tup x9.bag hb2')
      show (decide (_ ≤ 41) && _) = true
      rw [decide_eq_true tl]
      exact List.all_eq_true.mpr fun c hc => decide_eq_true (tk c hc)
    refine ⟨_, rfl, 1, rfl, _, rfl, q_cutT hp9 fun e1 Ha3 sa3 ha3 => ?_⟩
    rw [cut_last, ← List.map_dropLast] at ha3
    refine ⟨_, _, rfl, rfl, ⟨by decide, by decide, by decide⟩, ⟨by show 1 ≤ sizeLine; decide, fun b3 hb3 => q_catT (same_upd hb3 _ _ ha3) upd_same (sz3 (by rw [List.length_map]; show _ + 1 ≤ _; omega)) fun e2 Hb3 sb3 hb3' => ?_⟩⟩
    have t3 := sa3.trans ((same_upd (o := .tup [V.int (10 ^ (30 : Int).toNat)]) hb3).trans sb3)
    have nl10 := t3 _ _ nl9
    have x10 := x9.then t3
    have Vc : ValP p Hb3 (.ref e2) := near (.int (10 ^ (30 : Int).toNat)) (by decide +kernel) hb3' (ne_tup x10.bag hb3')
    refine ⟨_, rfl, p, but p, rfl, x10.bag, by simp, fun b hb => ?_, fun ov od H11 hov nov fo x11' => ⟨by show 4 ≤ sizeLine; decide, fun l2 hl2 => ?_⟩⟩
    · have : b = p := by simpa using hb
      rw [this]
      exact x10.bag.at
    have x11 := x10.trans x11'
    have nl11 := x11'.keep _ _ nnl nl10
    have s12 := same_upd (o := .lst [V.ref a4, .ref c2, .ref e2, ov]) hl2
    refine q_catL (s12 _ _ nl11) upd_same (sz3 (by show 6 + 4 ≤ 4000000; decide)) fun r hr' => ?_
    have s13 := same_upd (o := .lst ([V.ref r1, .ref r2, .ref r3', .ref r4', .ref ll, .ref t6] ++ [V.ref a4, .ref c2, .ref e2, ov])) hr'
    have x13 := (x11.then s12).then s13
    refine ⟨_, rfl, _, rfl, p, .ref r, rfl, x13.bag, .inl ⟨r, _, rfl, (x11.then s12).bag.ne hr', .inl (SqL.of upd_same), by show 0 < 10; decide, by show 10 ≤ 1000000; decide, fun i u H14 hu x14' => k u H14 (ValP.ext x14' ?_) (x13.trans x14')⟩⟩
    have mu := List.mem_of_getElem? hu
    have sAll := s12.trans s13
    rcases List.mem_append.mp mu with mu | mu
    · exact ((((V1 u mu).same t1).same t2).same t3).ext x11' |>.same sAll
    · simp only [List.mem_cons, List.not_mem_nil, or_false] at mu
      rcases mu with rfl | rfl | rfl | rfl
      · exact (((Va.same t2).same t3).ext x11').same sAll
      · exact ((Vb.same t3).ext x11').same sAll
      · exact (Vc.ext x11').same sAll
      · exact ValP.same sAll ⟨od, hov, fo⟩
end
end K14
set_option Elab.async false
set_option linter.all false
set_option maxRecDepth 100000
set_option maxHeartbeats 4000000
/-! ## == of two lists of pairs: each second place the same object, or data that is the same -/
namespace Gn
open PySem PySem.Spec PyProof.Rows L2 PySem.SeqAt Sem Quiet
/-- one object, or the same data -/
def SameV (H : Hp) (u v : V) : Prop := (∃ a, u = .ref a ∧ v = .ref a) ∨ ∃ d, Is H u d ∧ Is H v d ∧ d.canLay0 = true ∧ d.depth ≤ 40
def PairQ (H : Hp) (u v : V) : Prop := ∃ (a b : Addr) (k : Str) (m n : V), u = .ref a ∧ v = .ref b ∧ a ≠ b ∧ H a = some (.tup [.str k, m]) ∧ H b = some (.tup [.str k, n]) ∧ (PyData.str k).canLay0 = true ∧ SameV H m n
def rEqPairs : R2 := fun x y H Q => ∃ (a b : Addr) (xs ys : List V), x = .ref a ∧ y = .ref b ∧ H a = some (.lst xs) ∧ H b = some (.lst ys) ∧ PySem.Paired (PairQ H) xs ys ∧ Q (.bl true) H
theorem pget {α β : Type} {F : α → β → Prop} : ∀ {xs : List α} {ys : List β}, PySem.Paired F xs ys → ∀ {i : Nat} {x : α} {y : β}, xs[i]? = some x → ys[i]? = some y → F x y
  | _, _, .nil, _, _, _, h, _ => by simp at h
  | _, _, .cons h t, 0, _, _, hx, hy => by
    cases hx
    cases hy
    exact h
  | _, _, .cons h t, i + 1, _, _, hx, hy => pget t (by simpa using hx) (by simpa using hy)
section
variable {X : Cx} {pins : List (Addr × Obj)} {σ : L2.St} {H : Hp} {s : Shared}
theorem same_tree (I : Inv X pins σ H s) {u v : V} {a b : Value} (h : SameV H u v) (ra : RelV u a) (rb : RelV v b) : PySem.W.EqTree X.prog X.w s 40 a b true := by
  rcases h with ⟨c, rfl, rfl⟩ | ⟨d, h1, h2, cl, dp⟩
  · cases ra
    cases rb
    exact .same
  · obtain ⟨as, r1, _⟩ := Is.read I d u a h1 ra
    obtain ⟨bs, r2, _⟩ := Is.read I d v b h2 rb
    rw [← eqv_refl d cl]
    exact .leaf fun A hu => eqAt_reads d d A s a b as bs r1 r2 cl cl (by omega)
theorem pair_tree (I : Inv X pins σ H s) {u v : V} {a b : Value} (h : PairQ H u v) (ra : RelV u a) (rb : RelV v b) : PySem.W.EqTree X.prog X.w s 41 a b true := by
  obtain ⟨c, d, k, m, n, rfl, rfl, nc, hc, hd, ck, sm⟩ := h
  cases ra
  cases rb
  obtain ⟨us, r1, p1, _⟩ := I.tuple (SqT.of hc)
  obtain ⟨ws, r2, p2, _⟩ := I.tuple (SqT.of hd)
  cases r1 with
  | cons a1 r1 =>
  cases r1 with
  | cons a2 r1 =>
  cases r1
  cases r2 with
  | cons b1 r2 =>
  cases r2 with
  | cons b2 r2 =>
  cases r2
  have key := PySem.W.EqTree.tuples (prog := X.prog) (w := X.w) (s := s) (n := 40) (e := fun _ => true) nc p1 p2 fun j h1 h2 => by
    have : j = 0 ∨ j = 1 := by
      have : j < 2 := h1
      omega
    rcases this with rfl | rfl
    · exact same_tree I (.inr ⟨.str k, .str k, .str k, ck, Nat.zero_le _⟩) a1 b1
    · exact same_tree I sm a2 b2
  exact key
theorem op_eqPairs (hu : X.A.units + 64 < cLine) : OpR X (compareOp .Eq) rEqPairs := by
  intro pins s σ H x y v u Q I rx ry ⟨a, b, xs, ys, e1, e2, ha, hb, hp, q⟩
  subst e1 e2
  cases rx
  cases ry
  obtain ⟨us, r1, p1, _⟩ := I.list (SqL.of ha)
  obtain ⟨ws, r2, p2, _⟩ := I.list (SqL.of hb)
  have l1 := PySem.Paired.length r1
  have l2 := PySem.Paired.length r2
  have l3 := PySem.Paired.length hp
  refine PySem.W.eq_listsT (n := 41) (e := fun _ => true) p1.isList p2.isList (by rw [List.size_toArray, List.size_toArray]; omega) (fun j h1 h2 => ?_) (by omega) ?_
  · rw [List.size_toArray] at h1 h2
    have hx : xs[j]? = some xs[j] := List.getElem?_eq_getElem (by omega)
    have hy : ys[j]? = some ys[j] := List.getElem?_eq_getElem (by omega)
    obtain ⟨v1, g1, q1⟩ := r1.get hx
    obtain ⟨v2, g2, q2⟩ := r2.get hy
    have e1 : us.toArray[j] = v1 := by
      rw [List.getElem?_eq_getElem h1] at g1
      exact Option.some.inj g1
    have e2 : ws.toArray[j] = v2 := by
      rw [List.getElem?_eq_getElem h2] at g2
      exact Option.some.inj g2
    rw [e1, e2]
    exact pair_tree I (pget hp hx hy) q1 q2
  · have : (List.range us.toArray.size).all (fun _ => true) = true := List.all_eq_true.mpr fun _ _ => rfl
    rw [this]
    exact ⟨.bl true, H, I, rfl, q⟩
end
end Gn
set_option Elab.async false
set_option linter.all false
set_option maxRecDepth 100000
set_option maxHeartbeats 0
namespace Quiet
open PySem PySem.Spec PyProof.Rows L2
/-- what is left of the row's statement, once its head is done, by facts of the written part -/
theorem walk_quietE {l : PySem.W.OpenLaw} {n k : Nat} {q : Program} {loose : List Str} {XP : (Str → Option Value) → Heap → Prop} {YP : World → Heap → Prop} {d : DefRec} {x : Str}
    (hn : l.most = some n) (hn2 : n ≤ sizeLine) (hdf : d.params.defaults = []) (hr : Room k callerA) (hq : importsNone q = true)
    (F : ∀ (w : World) (mg : Str → Option Value) (fa : Addr) (h : Heap), YP w h → h.Ns mainGlobals mg → mg d.name = some (.ref fa) →
      ∃ (K : PySem.W.Frag) (fd : FuncData) (sp : Sp), K.In h ∧ (∀ (s : Shared) (u : Value), BindsTo s fd ⟨[u], []⟩ [(x, u)]) ∧
        (∀ (H : Hp) (a : Addr) (ns : List Int), ns.length ≤ n → SqL K H a (ns.map V.int) → sp [.ref a] H (fun v _ => v = .bl true) fun _ _ _ => False) ∧
        ∀ base : Heap, K.In base → base.Ns mainGlobals mg → HasMods base → Keeps l.prog w K mg base k fa fd [x] sp) :
    PySem.W.WalkO q loose XP YP l.row.toRowW d [] (fun f vs => PySem.call f vs) := by
  refine Att.attach_call hn hdf ?_
  intro w s₀ s₁ mg mb fa o pm cd doc a vs ns G Y ho hd hcd hmg hobj hints hlen hg
  obtain ⟨K, fd, sp, KX, hb, hsp, hF⟩ := F w mg fa _ Y G.T.g hmg
  obtain ⟨mm, hm, _⟩ := (G.T.seer hq).mods
  exact law_quiet KX G.T.g G.T.b G.T.builtins G.T.nolimit hg ⟨mm, hm⟩ hobj hints (Nat.le_trans hlen hn2) hr hF hb fun H hS => hsp H a ns hlen hS
end Quiet
namespace Hd
open PySem PySem.Spec PyProof.Rows L2 Quiet He
def dOf (x q : Str) (at_ : Str × Option Str) (st : Stmt) : DefD := ⟨at_, x, q, defArgs st, defBody st, defScope st, [], []⟩
theorem fun_of {K : PySem.W.Frag} {x q : Str} {st : Stmt} {f : Addr} {fd : FuncData} (F : FunD K x q (defArgs st) (defBody st) (defScope st) [] [] f fd) : Fun K x q st f fd := by
  obtain ⟨oc, od, dV, kV, doc, pm, an, cdv, ct, osl, e, lk, hcd, hd, _⟩ := F.ex
  rcases hd with ⟨_, z⟩ | ⟨z, _⟩
  · subst z
    exact ⟨⟨oc, od, kV, doc, pm, an, cdv, ct, osl, e, lk, hcd⟩, F.kp⟩
  · exact absurd rfl z
/-- what the top's names reach: each value; a function's code; a class's namespace, the functions there, their code -/
def more1 (g : Addr → Option Obj) (a : Addr) : List Addr := a :: (match g a with
  | some ⟨_, _, .func fd, _⟩ => refV fd.code
  | _ => [])
def more2 (g : Addr → Option Obj) (a : Addr) : List Addr := a :: (match g a with
  | some ⟨_, _, .func fd, _⟩ => refV fd.code
  | some ⟨_, _, .cls cd, _⟩ => cd.ns :: (match g cd.ns with
    | some ⟨_, _, .dict es _, _⟩ => es.toList.flatMap fun e => (refV e.val).flatMap (more1 g)
    | _ => [])
  | _ => [])
def asK (g : Addr → Option Obj) : List Addr := mainGlobals :: (match g mainGlobals with
  | some ⟨_, _, .dict es _, _⟩ => es.toList.flatMap fun e => (refV e.val).flatMap (more2 g)
  | _ => [])
/-- the facts, and a boolean of one's own -/
abbrev AlK : Type := AlD × Bool
def obK (fa : List Fa) (fn : List DefD) (ex : PySem.W.Frag → Bool) (g : Addr → Option Obj) : AlK := (obsD fa fn (frG g (asK g)), ex (frG g (asK g)))
def hk (fa : List Fa) (fn : List DefD) (ex : PySem.W.Frag → Bool) : PySem.W.Hook where
  α := AlK
  obs := fun s => obK fa fn ex s.heap.get?
  val := fun _ => (valD fn, true)
  says := fun _ h => ∃ K : PySem.W.Frag, K.In h ∧ SaysD fa fn K ∧ ex K = true
  of := fun _ _ e => ⟨_, frG_in, congrArg (fun z : AlK => z.1) e, congrArg (fun z : AlK => z.2) e⟩
  keeps := fun _ _ _ ⟨K, hK, c⟩ k => ⟨K, PySem.W.Frag.In.keeps hK k, c⟩
def ob (fa : List Fa) (fn : List DefD) (ex : PySem.W.Frag → Bool) (s : PySem.W.SharedT) : AlK := obK fa fn ex (HandSHeadRun.getT s)
theorem ob_eq (fa : List Fa) (fn : List DefD) (ex : PySem.W.Frag → Bool) (s : PySem.W.SharedT) : ob fa fn ex s = (hk fa fn ex).obs s.abs := by
  have e : HandSHeadRun.getT s = s.abs.heap.get? := funext (HandSHeadRun.getT_eq s)
  unfold ob
  rw [e]
  rfl
end Hd
set_option Elab.async false
set_option linter.all false
set_option maxRecDepth 100000
set_option maxHeartbeats 4000000
namespace K14
open PySem PySem.Spec L2 Quiet Gn Rw

/-- two lists of pairs: the same data, each second place the same object or of no dict -/
def spAlike : Sp := fun vs H Q _ => ∃ (a b : Addr) (xs ys : List V) (d : PyData), vs = [.ref a, .ref b] ∧ H a = some (.lst xs) ∧ H b = some (.lst ys) ∧ PySem.Paired (PairQ H) xs ys ∧
  Is H (.ref a) d ∧ Is H (.ref b) d ∧ d.showable = true ∧ d.depth ≤ 60 ∧ d.shown.length ≤ sizeLine ∧ Q (.bl true) H
section
variable {P : Program} {w : World} {K : PySem.W.Frag} {mg : Str → Option Value} {base : Heap} {A : Ad} {D : Fd}
theorem ok__law_alike (T : Txt K mg A D) (hm : HasMods base) : Keeps P w K mg base 1 A._law_alike D._law_alike ["found", "due"] spAlike := by
  refine keeps_of T.f__law_alike sc__law_alike (fun vs H Q E h => ?_) (fun cdv AA outer s H vs Q E hq hr h => ?_)
  · obtain ⟨a, b, xs, ys, d, rfl, _⟩ := h
    rfl
  · obtain ⟨a, b, xs, ys, d, rfl, ha, hb, hp, hx, hy, d1, d2, d3, k⟩ := h
    refine ⟨_, (pss_one (ps_ret (pe_and (pe_cmpR (op_eqPairs (units_of hr)) (pv 0) (pv 1) (nomark _)) (pe_one (pe_cmpR (eqK K rfl (units_of hr)) (pe_callB (call_repr hq hm (units_of hr)) (by rfl) T.b_repr (by decide +kernel) (pa_cons (pv 0) pa_nil)) (pe_callB (call_repr hq hm (units_of hr)) (by rfl) T.b_repr (by decide +kernel) (pa_cons (pv 1) pa_nil)) (nomark _)))))), ?_⟩
    refine ⟨_, rfl, _, rfl, a, b, xs, ys, rfl, rfl, ha, hb, hp, _, rfl, if_b (fun _ => ?_) (fun e => nomatch e)⟩
    exact ⟨_, rfl, .ref a, d, rfl, hx, d1, d2, d3, _, rfl, .ref b, d, rfl, hy, d1, d2, d3, .inl ⟨rfl, by simpa using k⟩⟩
end
end K14
set_option Elab.async false
set_option linter.all false
set_option maxRecDepth 100000
set_option maxHeartbeats 4000000
/-! ## An error with one field, in the suite that holds it: its field, isinstance of it -/
namespace Gn
open PySem PySem.Spec PyProof.Rows L2 Quiet
def tByC (K : PySem.W.Frag) (f : Str) (a : Addr) (cls : Value) (d : Option Addr) (te : TE) : TE := fun σ H Q => te σ H fun x H1 => x = .ref a ∧ ∃ (C dd : Addr) (v : V), cls = .ref C ∧ XfC K C ∧ PySem.W.findIn K (.ref C) f = some none ∧ d = some dd ∧ H1 dd = some (.xd [(f, v)]) ∧ Q v H1
def rIsC (K : PySem.W.Frag) (a : Addr) (cls : Value) (d : Option Addr) : List V → Hp → VK → Prop := fun xs H Q => ∃ (C dd : Addr) (f : Str) (v c : V) (cv : Value) (b : Bool), xs = [.ref a, c] ∧ cls = .ref C ∧ d = some dd ∧ H dd = some (.xd [(f, v)]) ∧ ExcC K C ∧ (∀ u, RelV c u → u = cv) ∧ PySem.W.kitOne K (.ref C) cv = some b ∧ Q (.bl b) H
section
variable {X : Cx} {a : Addr} {oe : Obj} {cls : Value} {d : Option Addr} {pn : List (Addr × Obj)} {e : Expr} {te : TE} {pos : Pos} {f : Str}
theorem inst_at {pins : List (Addr × Obj)} {σ : L2.St} {H : Hp} {s : Shared} {C dd : Addr} {v : V} (I : Inv (X.suite a ((a, oe) :: pn)) pins σ H s) (hz : Zc (.ref C) (some dd) oe) (hf : ∃ vs, oe.data = .fields vs) (ea : H dd = some (.xd [(f, v)])) :
    ∃ od u, PySem.W.InstAt s.heap a oe C (some od) ∧ PySem.W.lookIn f od = some (some u) ∧ RelV v u := by
  obtain ⟨ha, _⟩ := I.pin (a, oe) (List.mem_append_left _ List.mem_cons_self)
  obtain ⟨vs, hd⟩ := hf
  have hx : ObjOk X.prog X.w H s.heap dd (.xd [(f, v)]) := I.hok dd _ ea
  obtain ⟨mA, hns, hr⟩ := hx
  obtain ⟨od, ho, hl⟩ := lookIn_ns hns
  have l : List.lookup f [(f, v)] = some v := by simp [List.lookup]
  obtain ⟨u, hu, ru⟩ := RelO.some_of (v := v) (o := mA f) (by rw [← l]; exact hr f)
  exact ⟨od, u, ⟨ha, hz.1, by unfold PySem.W.notCls; rw [hd] <;> rfl, by rw [hz.2]; exact ho⟩, by rw [hl, hu], ru⟩
theorem pe_byC (hz : Zc cls d oe) (hf : ∃ vs, oe.data = .fields vs) (he : PE (X.suite a ((a, oe) :: pn)) e te) (hb : attributeBase e f X.env (eval e X.env) = eval e X.env := by rfl) :
    PE (X.suite a ((a, oe) :: pn)) (.Attribute e f pos) (tByC X.K f a cls d te) := by
  refine ⟨fun pins s σ H Q I h => ?_⟩
  refine attr_of hb (thn (he.run pins s σ H _ I h) fun u s1 hh => ?_)
  obtain ⟨x, H1, I1, rx, ex, C, dd, v, ec, T, noN, ed, ea, q⟩ := hh
  subst ex
  obtain rfl : u = Value.ref a := rx
  subst ec
  subst ed
  obtain ⟨od, u, J, hl, ru⟩ := inst_at I1 hz hf ea
  exact HandSPX.exc_get I1.kIn J T.ga T.gg T.exC (PySem.W.findObj_own T.hdC noN rfl hl) (handed_of ru) ⟨v, H1, I1.tok _, ru, q⟩
theorem call_isC (hz : Zc cls d oe) (hf : ∃ vs, oe.data = .fields vs) : CallR (X.suite a ((a, oe) :: pn)) (.builtin "isinstance") (rIsC X.K a cls d) := by
  intro pins s σ H xs us Q I r h
  obtain ⟨C, dd, f, v, c, cv, b, rfl, ec, ed, ea, T, hcv, e, q⟩ := h
  subst ec
  subst ed
  cases r with
  | cons rx rr =>
    cases rr with
    | cons rt rr =>
      cases rr
      cases rx
      have ec := hcv _ rt
      subst ec
      obtain ⟨od, u, J, _, _⟩ := inst_at I hz hf ea
      obtain ⟨cd, hcl, _⟩ := PySem.W.any_some T.hd
      exact PySem.W.kia_one (PySem.W.kitx_exc (by rw [hcl]; rfl) T.hg T.hk T.hs T.ha T.hn T.ht T.hm) I.kIn J e (fun z => nomatch z) fun tk => ⟨.bl b, H, I.kept (t' := tk) fun _ _ z => z, rfl, q⟩
end
end Gn
set_option Elab.async false
set_option linter.all false
set_option maxRecDepth 100000
set_option maxHeartbeats 4000000
namespace K14
open PySem PySem.Spec L2 Quiet Gn Rw

/-- what _law_heard makes of an act -/
def TTheard (C : Addr) : (XK → Hp → VK → Prop) → Hp → VK → Prop := fun tl H Q =>
  tl (fun cls d H' => ∃ (dd : Addr) (v : V), cls = .ref C ∧ d = some dd ∧ H' dd = some (.xd [("path", v)]) ∧ ∀ t, H' t = none → Q (.ref t) (upd H' t (.tup [.str "row", v]))) H
    (fun v H1 => 2 ≤ sizeLine ∧ ∀ t, H1 t = none → Q (.ref t) (upd H1 t (.tup [.str "told", v])))
/-- an exception is taken with as many slots as there are names -/
theorem takes_len {X : Cx} {W : WX} (t : Takes X W) : Takes X (fun c d σ H => σ.length = X.N.length → W c d σ H) := fun u s' ⟨a, B, sI, pins, σ, H, cls, d, e, I, nb, up, sky, na, os, ag, w⟩ =>
  t u s' ⟨a, B, sI, pins, σ, H, cls, d, e, I, nb, up, sky, na, os, ag, w I.len⟩
theorem pss_ex {X : Cx} {b : List Stmt} {ι : Type} {R : ι → Prop} {t : ι → TS} (h : ∀ i, R i → PSs X b (t i)) : PSs X b (fun D σ H => ∃ i, R i ∧ t i D σ H) := ⟨fun pins s σ H D I ⟨i, r, q⟩ => (h i r).run pins s σ H D I q⟩
theorem heard_gives {X : Cx} {A : Ad} {D : Fd} {C F : Addr} {cdg : Value} {q : Str} (T : Txt X.K X.mg A D) (T2 : Tcl X.K X.mg A D C F) :
    LamX.GivesTo X n__law_heard "_law_heard" (defScope s__law_heard) A._law_heard cdg (defBody s__law_heard) "act" q (TTheard C) := by
  intro f c' s H Q tl act hc h
  refine ⟨_, pss_one (ps_try_as (i := 1) (c := .ref F)
      (tb := fun W D σ H => ∃ Ech : XK, (∀ cls d σ' H', σ'.length = 2 → Ech cls d H' → W cls d σ' H') ∧ tRet (tTup (tCons (tC (.str "told")) (tCons (fun σZ HZ Q => σZ[0]? = some (some (.ref f)) ∧ HZ c' = some (LamX.CodeO c' q) ∧ tl Ech HZ Q) tNil))) D σ H)
      rfl rfl sc__law_heard.nd rfl rfl ⟨rfl, by decide, .inl T2.face⟩ LamX.takes0 (fun W pn xe tk _ => ?_) (fun a oe cls d pn hz hf => pss_one (ps_ret (pe_ifExp (pt_val (pe_callB (call_isC hz hf) (by rfl) T.b_isinstance (by decide +kernel) (pa_cons (pv 1) (pa_cons (pe_glob (v := .ref C) rfl T2.k_NoRow.g rfl) pa_nil)))) (pe_tup (pa_cons pe_str (pa_cons (pe_byC hz hf (pv 1)) pa_nil))) (pe_tup (pa_cons pe_str (pa_cons pe_non pa_nil))))))), ?_⟩
  · exact pss_ex fun Ech hW => pss_one (ps_ret (pe_tup (pa_cons pe_str (pa_cons (act (fun c d σ H => σ.length = 2 → W c d σ H) pn xe Ech _ _ (takes_len tk) fun cls d σ' H' e l => hW cls d σ' H' l e) pa_nil))))
  · refine ⟨_, fun cls d σ' H' l e => ?_, rfl, hc, h⟩
    obtain ⟨dd, v, rfl, rfl, hd, k⟩ := e
    match σ', l with
    | [x0, x1], _ =>
      refine ⟨true, T2.exm, fun _ a ha => ?_, fun z => nomatch z⟩
      refine ⟨_, rfl, C, dd, "path", v, .ref C, Value.ref C, true, rfl, rfl, rfl, hd, T2.k_NoRow.exc, fun u hu => hu, T2.kit, _, rfl, iteT ?_⟩
      exact ⟨_, rfl, rfl, C, dd, v, rfl, T2.k_NoRow.xf, T2.nof, rfl, hd, by show 2 ≤ sizeLine; decide, fun t ht => k t ht⟩
end K14
set_option Elab.async false
set_option linter.all false
set_option maxRecDepth 100000
set_option maxHeartbeats 4000000
/-! ## Rows are data that is compared and shown -/
namespace Rw
open PySem PySem.Spec L2 Quiet Gn
theorem lay_all {ds : List PyData} : PyData.canLayAll0 ds = true ↔ ∀ d ∈ ds, d.canLay0 = true := by
  induction ds with
  | nil => simp [PyData.canLayAll0]
  | cons d ds ih => simp [PyData.canLayAll0, ih]
theorem lay_nm {x : Str} (h : Nm x) : (PyData.str x).canLay0 = true := by
  show x.cps.all (fun c => decide (c < 1114112)) = true
  rw [← Array.all_toList, List.all_eq_true]
  intro c hc
  have := h.2.2 c hc
  exact decide_eq_true (by omega)
theorem row_lay {d : PyData} (h : RowOk d) : d.canLay0 = true := by
  induction h with
  | @leaf k x hk hx =>
    have hk' : (PyData.str k).canLay0 = true := by
      have : leafK.all (fun k => (PyData.str k).canLay0) = true := by decide +kernel
      exact List.all_eq_true.mp this k hk
    exact lay_all.mpr fun d hd => by
      simp only [List.mem_cons, List.not_mem_nil, or_false] at hd
      rcases hd with rfl | rfl
      · exact hk'
      · exact lay_nm hx
  | @doo s hs cs hn h ih =>
    exact lay_all.mpr fun d hd => by
      simp only [List.mem_cons, List.not_mem_nil, or_false] at hd
      rcases hd with rfl | rfl | rfl
      · decide +kernel
      · exact lay_nm hs
      · refine lay_all.mpr fun d hd => ?_
        obtain ⟨c, hc, rfl⟩ := List.mem_map.mp hd
        refine lay_all.mpr fun d hd => ?_
        simp only [List.mem_cons, List.not_mem_nil, or_false] at hd
        rcases hd with rfl | rfl
        · exact lay_nm (hn c hc)
        · exact lay_all.mpr (ih c hc)
  | @iff a ha y n hy hn ih1 ih2 =>
    exact lay_all.mpr fun d hd => by
      simp only [List.mem_cons, List.not_mem_nil, or_false] at hd
      rcases hd with rfl | rfl | rfl | rfl
      · decide +kernel
      · exact lay_nm ha
      · exact lay_all.mpr ih1
      · exact lay_all.mpr ih2
  | @loop k l hk hl b hb ih =>
    have hk' : (PyData.str k).canLay0 = true := by
      have : ([Str.ofString "loop", Str.ofString "block"] : List Str).all (fun k => (PyData.str k).canLay0) = true := by decide +kernel
      exact List.all_eq_true.mp this k hk
    exact lay_all.mpr fun d hd => by
      simp only [List.mem_cons, List.not_mem_nil, or_false] at hd
      rcases hd with rfl | rfl | rfl
      · exact hk'
      · exact lay_nm hl
      · exact lay_all.mpr ih
  | @trr b e hb cs hn h he ih1 ih2 ih3 =>
    exact lay_all.mpr fun d hd => by
      simp only [List.mem_cons, List.not_mem_nil, or_false] at hd
      rcases hd with rfl | rfl | rfl | rfl
      · decide +kernel
      · exact lay_all.mpr ih1
      · refine lay_all.mpr fun d hd => ?_
        obtain ⟨c, hc, rfl⟩ := List.mem_map.mp hd
        refine lay_all.mpr fun d hd => ?_
        simp only [List.mem_cons, List.not_mem_nil, or_false] at hd
        rcases hd with rfl | rfl
        · refine lay_all.mpr fun d hd => ?_
          obtain ⟨x, hx, rfl⟩ := List.mem_map.mp hd
          exact lay_nm ((hn c hc).2 x hx)
        · exact lay_all.mpr (ih2 c hc)
      · exact lay_all.mpr ih3
/-- what holds of short texts and of tuples of such holds of rows -/
theorem row_any {P : PyData → Prop} (hs : ∀ x : Str, (∀ c ∈ x.cps.toList, c < 128) → P (.str x)) (ht : ∀ ds : List PyData, (∀ d ∈ ds, P d) → P (.tuple ds)) {d : PyData} (h : RowOk d) : P d := by
  have lit : ∀ ks : List Str, ks.all (fun k => k.cps.toList.all fun c => decide (c < 128)) = true → ∀ k ∈ ks, P (.str k) := fun ks h k hk => hs k fun c hc => of_decide_eq_true (List.all_eq_true.mp (List.all_eq_true.mp h k hk) c hc)
  induction h with
  | @leaf k x hk hx =>
    have hk' : P (.str k) := lit leafK (by decide +kernel) k hk
    exact ht _ fun d hd => by
      simp only [List.mem_cons, List.not_mem_nil, or_false] at hd
      rcases hd with rfl | rfl
      · exact hk'
      · exact hs _ hx.2.2
  | @doo s hs' cs hn h ih =>
    exact ht _ fun d hd => by
      simp only [List.mem_cons, List.not_mem_nil, or_false] at hd
      rcases hd with rfl | rfl | rfl
      · exact lit [Str.ofString "do", Str.ofString "if", Str.ofString "try"] (by decide +kernel) _ (by simp)
      · exact hs _ hs'.2.2
      · refine ht _ fun d hd => ?_
        obtain ⟨c, hc, rfl⟩ := List.mem_map.mp hd
        refine ht _ fun d hd => ?_
        simp only [List.mem_cons, List.not_mem_nil, or_false] at hd
        rcases hd with rfl | rfl
        · exact hs _ (hn c hc).2.2
        · exact ht _ (ih c hc)
  | @iff a ha y n hy hn ih1 ih2 =>
    exact ht _ fun d hd => by
      simp only [List.mem_cons, List.not_mem_nil, or_false] at hd
      rcases hd with rfl | rfl | rfl | rfl
      · exact lit [Str.ofString "do", Str.ofString "if", Str.ofString "try"] (by decide +kernel) _ (by simp)
      · exact hs _ ha.2.2
      · exact ht _ ih1
      · exact ht _ ih2
  | @loop k l hk hl b hb ih =>
    have hk' : P (.str k) := lit [Str.ofString "loop", Str.ofString "block"] (by decide +kernel) k hk
    exact ht _ fun d hd => by
      simp only [List.mem_cons, List.not_mem_nil, or_false] at hd
      rcases hd with rfl | rfl | rfl
      · exact hk'
      · exact hs _ hl.2.2
      · exact ht _ ih
  | @trr b e hb cs hn h he ih1 ih2 ih3 =>
    exact ht _ fun d hd => by
      simp only [List.mem_cons, List.not_mem_nil, or_false] at hd
      rcases hd with rfl | rfl | rfl | rfl
      · exact lit [Str.ofString "do", Str.ofString "if", Str.ofString "try"] (by decide +kernel) _ (by simp)
      · exact ht _ ih1
      · refine ht _ fun d hd => ?_
        obtain ⟨c, hc, rfl⟩ := List.mem_map.mp hd
        refine ht _ fun d hd => ?_
        simp only [List.mem_cons, List.not_mem_nil, or_false] at hd
        rcases hd with rfl | rfl
        · refine ht _ fun d hd => ?_
          obtain ⟨x, hx, rfl⟩ := List.mem_map.mp hd
          exact hs _ ((hn c hc).2 x hx).2.2
        · exact ht _ (ih2 c hc)
      · exact ht _ ih3
theorem shows_all {ds : List PyData} (h : ∀ d ∈ ds, d.showable = true ∧ d.leavesShort 45 = true) : PyData.showableAll ds = true ∧ PyData.leavesShortAll 45 ds = true := by
  induction ds with
  | nil => exact ⟨rfl, rfl⟩
  | cons d ds ih =>
    obtain ⟨a1, b1⟩ := h d List.mem_cons_self
    obtain ⟨a2, b2⟩ := ih fun d hd => h d (List.mem_cons_of_mem _ hd)
    exact ⟨by simp only [PyData.showableAll, a1, a2, Bool.and_true], by simp only [PyData.leavesShortAll, b1, b2, Bool.and_true]⟩
/-- rows are shown -/
theorem row_shows {d : PyData} (h : RowOk d) : d.showable = true ∧ d.leavesShort 45 = true :=
  row_any (P := fun d => d.showable = true ∧ d.leavesShort 45 = true) (fun x hx => ⟨rfl, by
    simp only [PyData.leavesShort, List.all_eq_true, decide_eq_true_eq]
    intro c hc
    exact Nat.lt_trans (hx c hc) (by decide)⟩) (fun ds h => by
    obtain ⟨a, b⟩ := shows_all h
    exact ⟨by simpa only [PyData.showable] using a, by simpa only [PyData.leavesShort] using b⟩) h
/-- how deep they are as data -/
theorem dp_all {ds : List PyData} {k : Nat} (h : ∀ d ∈ ds, d.depth ≤ k) : PyData.depthAll ds ≤ k := by
  induction ds with
  | nil => exact Nat.zero_le _
  | cons d ds ih =>
    simp only [PyData.depthAll]
    exact Nat.max_le.mpr ⟨h d List.mem_cons_self, ih fun d hd => h d (List.mem_cons_of_mem _ hd)⟩
theorem dp_strs {xs : List Str} : PyData.depthAll (xs.map PyData.str) ≤ 0 := dp_all fun d hd => by
  obtain ⟨x, _, rfl⟩ := List.mem_map.mp hd
  exact Nat.le_refl _
theorem row_depth {n : Nat} : ∀ {d : PyData}, RowOk d → deep1 n d → (∀ b, (∀ r ∈ b, RowOk r) → deepR n b → (PyData.tuple b).depth ≤ 4 * n + 1) → d.depth ≤ 4 * n + 4 := by
  intro d ro dp k
  cases ro with
  | leaf hk hx => simp [PyData.depth, PyData.depthAll]
  | @doo s hs cs hn h =>
    have b : ∀ c ∈ cs, (PyData.tuple c.2).depth ≤ 4 * n + 1 := fun c hc => k c.2 (h c hc) (dp c.2 (by rw [b_do]; exact List.mem_map_of_mem hc))
    have e : PyData.depthAll (cs.map doC) ≤ 4 * n + 2 := dp_all fun d hd => by
      obtain ⟨c, hc, rfl⟩ := List.mem_map.mp hd
      have := b c hc
      simp only [doC, PyData.depth, PyData.depthAll] at this ⊢
      omega
    simp only [PyData.depth, PyData.depthAll]
    omega
  | @iff a ha y n' hy hn =>
    have b1 := k y hy (dp y (by rw [b_if]; simp))
    have b2 := k n' hn (dp n' (by rw [b_if]; simp))
    simp only [PyData.depth, PyData.depthAll] at b1 b2 ⊢
    omega
  | @loop kk l hk hl b hb =>
    have b1 := k b hb (dp b (by rw [b_loop hk]; simp))
    simp only [PyData.depth, PyData.depthAll] at b1 ⊢
    omega
  | @trr b e hb cs hn h he =>
    have b1 := k b hb (dp b (by rw [b_try]; simp))
    have b2 := k e he (dp e (by rw [b_try]; simp))
    have bc : ∀ c ∈ cs, (PyData.tuple c.2).depth ≤ 4 * n + 1 := fun c hc => k c.2 (h c hc) (dp c.2 (by
      rw [b_try]
      exact List.mem_cons_of_mem _ (List.mem_append_left _ (List.mem_map_of_mem hc))))
    have e' : PyData.depthAll (cs.map trC) ≤ 4 * n + 2 := dp_all fun d hd => by
      obtain ⟨c, hc, rfl⟩ := List.mem_map.mp hd
      have := bc c hc
      have := dp_strs (xs := c.1)
      simp only [trC, PyData.depth, PyData.depthAll] at *
      omega
    simp only [PyData.depth, PyData.depthAll] at b1 b2 ⊢
    omega
theorem rows_depth : ∀ {n : Nat} {rows : List PyData}, (∀ r ∈ rows, RowOk r) → deepR n rows → (PyData.tuple rows).depth ≤ 4 * n + 1
  | 0, _, _, h => by
    cases h
    exact Nat.le_refl _
  | n + 1, rows, ro, h => by
    have : PyData.depthAll rows ≤ 4 * n + 4 := dp_all fun d hd => row_depth (ro d hd) (h d hd) fun b hb hd => rows_depth hb hd
    simp only [PyData.depth]
    omega
end Rw
set_option Elab.async false
set_option linter.all false
set_option maxRecDepth 100000
set_option maxHeartbeats 4000000
/-! ## Data stays where all but tables stays; edited rows: their depth, their weight -/
namespace Gn
open PySem PySem.Spec L2 Quiet
open LamX (ExtN)
mutual
theorem is_extN {H H' : Hp} (k : ExtN H H') : ∀ {d : PyData} {v : V}, Is H v d → Is H' v d
  | .none, _, h => by cases h; exact .non
  | .bool b, _, h => by cases h; exact .bl b
  | .int i, _, h => by cases h; exact .int i
  | .str x, _, h => by cases h; exact .str x
  | .list ds, _, h => by
    cases h with
    | lst e t => exact .lst (k _ _ e fun _ z => nomatch z) (are_extN k t)
  | .tuple ds, _, h => by
    cases h with
    | tup e t => exact .tup (k _ _ e fun _ z => nomatch z) (are_extN k t)
  | .dict ds, _, h => by
    cases h with
    | dic e t => exact .dic (k _ _ e fun _ z => nomatch z) (kv_extN k t)
theorem are_extN {H H' : Hp} (k : ExtN H H') : ∀ {ds : List PyData} {vs : List V}, Are H vs ds → Are H' vs ds
  | [], _, h => by cases h; exact .nil
  | d :: ds, _, h => by
    cases h with
    | cons a b => exact .cons (is_extN k a) (are_extN k b)
theorem kv_extN {H H' : Hp} (k : ExtN H H') : ∀ {ds : List (PyData × PyData)} {kvs : List (Key × V)}, AreKv H kvs ds → AreKv H' kvs ds
  | [], _, h => by cases h; exact .nil
  | (_, d) :: ds, _, h => by
    cases h with
    | cons a b => exact .cons (is_extN k a) (kv_extN k b)
end
theorem extN_same {H H' : Hp} (s : Same H H') : ExtN H H' := fun b o e _ => s b o e
theorem extN_hide {S : Addr → Bool} {H H' : Hp} (k : ExtN H H') : ExtN (hide S H) (hide S H') := fun b o e n => by
  unfold hide at e ⊢
  by_cases h : S b = true
  · rw [if_pos h] at e
    cases e
  · rw [if_neg h] at e ⊢
    exact k b o e n
/-- without tables -/
def noTb (H : Hp) : Hp := fun b => match H b with
  | some (.tbl _) => none
  | o => o
theorem noTb_of {H : Hp} {b : Addr} {o : HO} (h : H b = some o) (n : ∀ ps, o ≠ .tbl ps) : noTb H b = some o := by
  unfold noTb
  rw [h]
  cases o <;> first | rfl | exact absurd rfl (n _)
theorem noTb_in {H : Hp} {b : Addr} {o : HO} (h : noTb H b = some o) : H b = some o ∧ ∀ ps, o ≠ .tbl ps := by
  unfold noTb at h
  split at h
  · cases h
  · rename_i e
    exact ⟨h, fun ps z => e ps (by rw [h, z])⟩
theorem noTb_ext (H : Hp) : ExtN H (noTb H) := fun b o e n => noTb_of e n
end Gn
namespace K14
open PySem PySem.Spec L2 Quiet Gn Rw
theorem zip_snd {α β : Type} : ∀ {xs : List α} {ss : List β}, ss.length = xs.length → (List.zipWith (fun c s => (c, s)) xs ss).map (·.2) = ss
  | [], [], _ => rfl
  | x :: xs, s :: ss, h => by
    rw [List.zipWith_cons_cons, List.map_cons, zip_snd (by simpa using h)]
theorem zip_snd1 {α : Type} {cs : List (α × List PyData)} {ss : List (List PyData)} (h : ss.length = cs.length) : (List.zipWith (fun (c : α × List PyData) s => (c.1, s)) cs ss).map (·.2) = ss := by
  induction cs generalizing ss with
  | nil => cases ss with
    | nil => rfl
    | cons => simp at h
  | cons c cs ih => cases ss with
    | nil => simp at h
    | cons s ss =>
      rw [List.zipWith_cons_cons, List.map_cons, ih (by simpa using h)]
theorem mid_len {α : Type} {ss : List α} {n : Nat} (h : ss.length = n + 2) : ((ss.drop 1).dropLast).length = n := by
  rw [List.length_dropLast, List.length_drop]
  omega
theorem three {α : Type} {ss : List α} {n : Nat} (d : α) (h : ss.length = n + 2) : ss.getD 0 d :: ((ss.drop 1).dropLast ++ [ss.getD (ss.length - 1) d]) = ss := by
  cases ss with
  | nil => simp at h
  | cons a r =>
    have hr : r ≠ [] := by
      intro z
      rw [z] at h
      simp at h
    have e1 : (a :: r).getD 0 d = a := rfl
    have e2 : (a :: r).drop 1 = r := rfl
    have e3 : (a :: r).getD ((a :: r).length - 1) d = r.getLast hr := by
      rw [List.getD_eq_getElem?_getD, ← List.getLast?_eq_getElem?, List.getLast?_cons, List.getLast?_eq_some_getLast hr]
      rfl
    rw [e1, e2, e3, List.dropLast_concat_getLast]
/-- the bodies of a row with other bodies are these -/
theorem bodies_with {d : PyData} {ss : List (List PyData)} (h : RowOk d) (hl : ss.length = (bodiesD d).length) : bodiesD (withD d ss) = ss := by
  cases h with
  | leaf hk hx =>
    rw [b_leaf hk] at hl
    rw [w_leaf hk, b_leaf hk]
    exact (List.length_eq_zero_iff.mp hl).symm
  | @doo s hn cs hc h =>
    rw [b_do, List.length_map] at hl
    rw [w_do, zip_do, b_do, zip_snd1 hl]
  | iff ha hy hn =>
    rw [b_if] at hl
    rw [w_if, b_if]
    match ss, hl with
    | [a, b], _ => rfl
  | loop hk hl' hb =>
    rw [b_loop hk] at hl
    rw [w_loop hk, b_loop hk]
    match ss, hl with
    | [a], _ => rfl
  | @trr b e hb cs hc h he =>
    rw [b_try] at hl
    simp only [List.length_cons, List.length_append, List.length_nil, List.length_map] at hl
    rw [w_try, zip_try, b_try, zip_snd1 (mid_len (by omega))]
    exact three [] (n := cs.length) (by omega)
theorem set_get {α : Type} {xs : List α} {i : Nat} {x : α} (h : xs[i]? = some x) (y : α) : xs.set i y = xs.take i ++ (y :: xs.drop (i + 1)) := by
  obtain ⟨h1, _⟩ := List.getElem?_eq_some_iff.mp h
  rw [List.set_eq_take_append_cons_drop, if_pos h1]
/-- how deep edited rows are -/
theorem deep_edit {new : List PyData} {many m : Nat} (hn : ∀ r ∈ new, deep1 m r) : ∀ {p : List Int} {n : Nat} {rows : List PyData} {x : List PyData × Int}, (∀ r ∈ rows, RowOk r) → deepR n rows → walkR rows p = some x → deepR (n + m + 1) (editD rows p many new)
  | [], _, _, _, _, _, h => by cases h
  | [k], n, rows, x, hr, dp, h => by
    intro r h'
    have old : ∀ r ∈ rows, deep1 (n + m) r := fun r hr => by
      cases n with
      | zero =>
        cases dp
        cases hr
      | succ n => exact fun b hb => deepR_mono (by omega) (dp r hr b hb)
    rw [editD] at h'
    rcases List.mem_append.mp h' with h' | h'
    · exact old r (List.mem_of_mem_take h')
    · rcases List.mem_append.mp h' with h' | h'
      · exact fun b hb => deepR_mono (by omega) (hn r h' b hb)
      · exact old r (List.mem_of_mem_drop h')
  | k :: j :: q, n, rows, x, hr, dp, h => by
    obtain ⟨a, b, row, bd, rfl, rfl, e1, e2, h⟩ := walk_two h
    have mr := List.mem_of_getElem? e1
    have ro := hr row mr
    cases n with
    | zero =>
      cases dp
      cases mr
    | succ n =>
    have db := dp row mr bd (List.mem_of_getElem? e2)
    have ih := deep_edit hn (many := many) (ro.body bd (List.mem_of_getElem? e2)) db h
    intro r h'
    rw [edit_two e1 e2] at h'
    rcases List.mem_append.mp h' with h' | h'
    · exact fun b hb => deepR_mono (by omega) (dp r (List.mem_of_mem_take h') b hb)
    · rcases List.mem_cons.mp h' with rfl | h'
      · intro s hs
        rw [bodies_with ro (by rw [List.length_set])] at hs
        rcases List.mem_or_eq_of_mem_set hs with hs | rfl
        · exact deepR_mono (by omega) (dp row mr s hs)
        · exact deepR_mono (by omega) ih
      · exact fun b hb => deepR_mono (by omega) (dp r (List.mem_of_mem_drop h') b hb)
/-! ### weights -/
def wss (ss : List (List PyData)) : Nat := (ss.map PyData.weightAll).sum
theorem wss_app (a b : List (List PyData)) : wss (a ++ b) = wss a + wss b := by
  unfold wss
  rw [List.map_append, List.sum_append]
theorem wss_cons (a : List PyData) (b : List (List PyData)) : wss (a :: b) = PyData.weightAll a + wss b := rfl
theorem wt_do {cs : List (Str × List PyData)} {ss : List (List PyData)} (h : ss.length = cs.length) :
    PyData.weightAll ((List.zipWith (fun (c : Str × List PyData) s => (c.1, s)) cs ss).map doC) + wss (cs.map (·.2)) = PyData.weightAll (cs.map doC) + wss ss := by
  induction cs generalizing ss with
  | nil => cases ss with
    | nil => rfl
    | cons => simp at h
  | cons c cs ih => cases ss with
    | nil => simp at h
    | cons s ss =>
      have := ih (ss := ss) (by simpa using h)
      simp only [List.zipWith_cons_cons, List.map_cons, doC, PyData.weightAll, PyData.weight, wss_cons] at this ⊢
      omega
theorem wt_tr {cs : List (List Str × List PyData)} {ss : List (List PyData)} (h : ss.length = cs.length) :
    PyData.weightAll ((List.zipWith (fun (c : List Str × List PyData) s => (c.1, s)) cs ss).map trC) + wss (cs.map (·.2)) = PyData.weightAll (cs.map trC) + wss ss := by
  induction cs generalizing ss with
  | nil => cases ss with
    | nil => rfl
    | cons => simp at h
  | cons c cs ih => cases ss with
    | nil => simp at h
    | cons s ss =>
      have := ih (ss := ss) (by simpa using h)
      simp only [List.zipWith_cons_cons, List.map_cons, trC, PyData.weightAll, PyData.weight, wss_cons] at this ⊢
      omega
theorem wt_with {d : PyData} {ss : List (List PyData)} (h : RowOk d) (hl : ss.length = (bodiesD d).length) : (withD d ss).weight + wss (bodiesD d) = d.weight + wss ss := by
  cases h with
  | leaf hk hx =>
    rw [b_leaf hk] at hl ⊢
    rw [w_leaf hk, List.length_eq_zero_iff.mp hl]
  | @doo s hn cs hc h =>
    rw [b_do, List.length_map] at hl
    have := wt_do hl
    rw [w_do, zip_do, b_do]
    simp only [PyData.weightAll, PyData.weight]
    omega
  | iff ha hy hn =>
    rw [b_if] at hl ⊢
    rw [w_if]
    match ss, hl with
    | [a, b], _ =>
      simp only [PyData.weightAll, PyData.weight, wss_cons, List.getD_cons_zero, List.getD_cons_succ]
      omega
  | loop hk hl' hb =>
    rw [b_loop hk] at hl ⊢
    rw [w_loop hk]
    match ss, hl with
    | [a], _ =>
      simp only [PyData.weightAll, PyData.weight, wss_cons, List.getD_cons_zero]
      omega
  | @trr b e hb cs hc h he =>
    rw [b_try] at hl ⊢
    simp only [List.length_cons, List.length_append, List.length_nil, List.length_map] at hl
    have e3 := three (α := List PyData) [] (n := cs.length) (ss := ss) (by omega)
    have := wt_tr (cs := cs) (ss := (ss.drop 1).dropLast) (mid_len (by omega))
    have e4 := congrArg wss e3
    rw [wss_cons, wss_app, wss_cons] at e4
    rw [w_try, zip_try]
    simp only [PyData.weightAll, PyData.weight, wss_cons, wss_app] at e4 ⊢
    have e0 : wss [] = 0 := rfl
    omega
theorem cut_any {α : Type} {ds : List α} {k : Nat} {e : α} (h : ds[k]? = some e) : ds = ds.take k ++ e :: ds.drop (k + 1) := by
  obtain ⟨h1, h2⟩ := List.getElem?_eq_some_iff.mp h
  rw [← h2, ← List.drop_eq_getElem_cons h1, List.take_append_drop]
theorem wt_edit {new : List PyData} {many : Nat} : ∀ {p : List Int} {rows : List PyData} {x : List PyData × Int}, (∀ r ∈ rows, RowOk r) → walkR rows p = some x → PyData.weightAll (editD rows p many new) ≤ PyData.weightAll rows + PyData.weightAll new
  | [], _, _, _, h => by cases h
  | [k], rows, x, hr, h => by
    rw [editD, wt_app, wt_app]
    have e := wt_app (rows.take k.toNat) (rows.drop k.toNat)
    rw [List.take_append_drop] at e
    have e2 := wt_app ((rows.drop k.toNat).take many) ((rows.drop k.toNat).drop many)
    rw [List.take_append_drop, List.drop_drop] at e2
    omega
  | k :: j :: q, rows, x, hr, h => by
    obtain ⟨a, b, row, bd, rfl, rfl, e1, e2, h⟩ := walk_two h
    have ro := hr row (List.mem_of_getElem? e1)
    have ih := wt_edit (new := new) (many := many) (ro.body bd (List.mem_of_getElem? e2)) h
    have w1 := wt_with ro (ss := (bodiesD row).set b (editD bd q many new)) (by rw [List.length_set])
    have c1 := congrArg PyData.weightAll (cut_eq e1)
    have c2 := congrArg wss (cut_any e2)
    rw [wt_app, PyData.weightAll] at c1
    rw [wss_app, wss_cons] at c2
    rw [set_get e2, wss_app, wss_cons, ← set_get e2] at w1
    rw [edit_two e1 e2, wt_app, PyData.weightAll]
    omega
theorem mem_depth : ∀ {ds : List PyData} {d : PyData}, d ∈ ds → d.depth ≤ PyData.depthAll ds
  | x :: xs, d, h => by
    simp only [PyData.depthAll]
    rcases List.mem_cons.mp h with rfl | h
    · exact Nat.le_max_left _ _
    · exact Nat.le_trans (mem_depth h) (Nat.le_max_right _ _)
/-- the rows where a path ends: as deep, as heavy at most -/
theorem walk_deep : ∀ {p : List Int} {n : Nat} {rows : List PyData} {x : List PyData × Int}, (∀ r ∈ rows, RowOk r) → deepR n rows → walkR rows p = some x → deepR n x.1 ∧ PyData.weightAll x.1 ≤ PyData.weightAll rows
  | [], _, _, _, _, _, h => by cases h
  | [k], n, rows, x, hr, dp, h => by
    cases h
    exact ⟨dp, Nat.le_refl _⟩
  | k :: j :: q, n, rows, x, hr, dp, h => by
    obtain ⟨a, b, row, bd, rfl, rfl, e1, e2, h⟩ := walk_two h
    have mr := List.mem_of_getElem? e1
    have mb := List.mem_of_getElem? e2
    have ro := hr row mr
    cases n with
    | zero =>
      cases dp
      cases mr
    | succ n =>
    obtain ⟨d1, w1⟩ := walk_deep (ro.body bd mb) (dp row mr bd mb) h
    refine ⟨deepR_succ d1, ?_⟩
    have w2 := wt_body ro bd mb
    have w3 := mem_weight mr
    simp only [PyData.weight] at w2
    omega
end K14
set_option Elab.async false
set_option linter.all false
set_option maxRecDepth 100000
set_option maxHeartbeats 4000000
namespace Quiet
open PySem PySem.Spec PyProof.Rows L2
/-- a def of the text, by its body, its code told -/
theorem keeps_ofC {P : Program} {w : World} {K : PySem.W.Frag} {mg : Str → Option Value} {base : Heap} {x qual : Str} {st : Stmt} {f : Addr} {fd : FuncData} {N ps : List Str} {k : Nat} {sp : Sp}
    (F : Fun K x qual st f fd) (S : FnScope N ps (defScope st)) (many : ∀ vs H Q E, sp vs H Q E → vs.length = ps.length)
    (body : ∀ (cdv : Value) (A : Around) (outer : List Env) (s : Shared) (H : Hp) (vs : List V) (Q : VK) (E : XK), fd.code = cdv → Calm (A.deeper (envOfC qual (defScope st) s.heap.objs.size f cdv)) →
      Room k (A.deeper (envOfC qual (defScope st) s.heap.objs.size f cdv)) → sp vs H Q E →
      ∃ t, PSs (cxOf CX0 P w K mg base N qual (defScope st) f cdv A outer s H E).nox (defBody st) t ∧ t { nx := fun _ H' => Q .non H', rt := Q } (start N vs) H) :
    Keeps P w K mg base (k + 1) f fd ps sp := by
  obtain ⟨oc, od, kV, doc, pm, an, cdv, ct, osl, rfl, lk, hcd⟩ := F.ex
  refine ⟨many, ?_⟩
  intro A outer s H args us vs Q E hc hr e0 hb hv hs
  refine LamX.run_ofS lk hcd S hr e0 hb hv (many _ _ _ _ hs) ?_
  intro hr2
  obtain ⟨t, h1, h2⟩ := body cdv A outer s H vs Q E rfl (calm_deeper hc) hr2 hs
  exact ⟨t, h1.nox, h2⟩
end Quiet
namespace K14
open PySem PySem.Spec L2 Quiet Gn Rw
open LamX (ExtN Tabs)

/-- what was heard, as it lies there -/
def EntAt (H : Hp) (pv : V) : Option PyData → V → Prop
  | none, v => ∃ a, v = .ref a ∧ H a = some (.tup [.str "row", pv])
  | some d, v => ∃ a u, v = .ref a ∧ H a = some (.tup [.str "told", u]) ∧ Is H u d
theorem EntAt.extN {H H' : Hp} {pv v : V} {o : Option PyData} (k : ExtN H H') (h : EntAt H pv o v) : EntAt H' pv o v := by
  cases o with
  | none =>
    obtain ⟨a, e, h⟩ := h
    exact ⟨a, e, k _ _ h fun _ z => nomatch z⟩
  | some d =>
    obtain ⟨a, u, e, h, hd⟩ := h
    exact ⟨a, u, e, k _ _ h (fun _ z => nomatch z), is_extN k hd⟩
def Rk (d : PyData) : Prop := RowOk d ∨ ∃ rs, d = .tuple rs ∧ ∀ r ∈ rs, RowOk r
theorem rk_keep {H H' : Hp} (k : Kp H H') {d : PyData} (h : Rk d) {v : V} (hv : Is H v d) : Is H' v d := by
  rcases h with h | ⟨rs, rfl, h⟩
  · exact row_keep k h v hv
  · exact rows_keep k h hv
theorem EntAt.kp {H H' : Hp} {pv v : V} {o : Option PyData} (k : Kp H H') (hr : ∀ d, o = some d → Rk d) (h : EntAt H pv o v) : EntAt H' pv o v := by
  cases o with
  | none =>
    obtain ⟨a, e, h⟩ := h
    exact ⟨a, e, k.tup h⟩
  | some d =>
    obtain ⟨a, u, e, h, hd⟩ := h
    exact ⟨a, u, e, k.tup h, rk_keep k (hr d rfl) hd⟩
theorem EntAt.ref {H : Hp} {pv v : V} {o : Option PyData} (h : EntAt H pv o v) : ∃ a xs, v = .ref a ∧ H a = some (.tup xs) := by
  cases o with
  | none =>
    obtain ⟨a, e, h⟩ := h
    exact ⟨a, _, e, h⟩
  | some d =>
    obtain ⟨a, u, e, h, hd⟩ := h
    exact ⟨a, _, e, h⟩
/-- what the law's lambdas are called -/
def lamQ : Str := ("_law_right" ++ ".<locals>." : Str) ++ "<lambda>"
theorem pe__law_heard {X : Cx} {A : Ad} {D : Fd} {C F c P : Addr} {T0 : List (Addr × Str)} {k : Nat} {params : Arguments} {body : Expr} {scope : Scope} {t : XK → TE} {p lpos pos : Pos} (T : Txt X.K X.mg A D) (T2 : Tcl X.K X.mg A D C F) (hg : Gl X "_law_heard")
    (TB : LamX.TabB X.base X.mg c P) (hcode : X.env.code = .ref c) (hmT : (P, X.env.qual ++ "<lambda>") ∈ T0) (hu : ∀ p ∈ T0, p.1 = P → p.2 = X.env.qual ++ "<lambda>") (hr : Room (k + 2) X.A) (L : LamX.LamS X.env.scope scope) (hdef : defaultsOf params X.env = ([], []))
    (hbind : ∀ (q : Str) (cl : List (Str × Addr)) (pm cv ctv : Value), bindArgs (PySem.W.kla_fn "<lambda>" q params body scope cl pm cv ctv) ⟨[], []⟩ = pure [])
    (hbody : ∀ (A : Around) (outer : List Env) (s : Shared) (H : Hp) (E : XK) (f c' : Addr), Room k (A.deeper (LamX.lamEnv X scope s.heap.objs.size f c')) → PE (LamX.lamCx X A outer s H E scope f c') body (t E)) :
    PE X (.Call (.Name "_law_heard" p) [.Lambda params body scope lpos] [] pos) (LamX.tLam T0 (TTheard C) t) := by
  obtain ⟨oc, od, kV, doc, pm, an, cdv, ct, osl, e, lk, hcd⟩ := T.f__law_heard.ex
  rw [e] at lk
  exact LamX.pe_lamcall hg T.m__law_heard T.f__law_heard.kp lk hcd (e ▸ b__law_heard T) sc__law_heard rfl (Or.inl rfl) (heard_gives T T2) TB hcode hmT hu hr L hdef hbind hbody
/-- a lambda is heard -/
theorem tLam_of {T0 : List (Addr × Str)} {C : Addr} {t : XK → TE} {σ : L2.St} {H : Hp} {Q : VK} {pv : V} {o : Option PyData} (hT : Tabs T0 H)
    (h : ∀ (H2 : Hp) (Q' : VK) (E' : XK), ExtN H H2 → (∀ v H3 d, o = some d → Same H2 H3 → Is H3 v d → Q' v H3) → (o = none → Rs C pv H2 E') → t E' σ H2 Q')
    (k : ∀ (a : Addr) (H3 : Hp), ExtN H H3 → Tabs T0 H3 → (∀ b o, H b = some o → (∀ ps, o ≠ .tbl ps) → b ≠ a) → EntAt H3 pv o (.ref a) → Q (.ref a) H3) : LamX.tLam T0 (TTheard C) t σ H Q := by
  refine ⟨hT, fun H2 e2 t2 => ?_⟩
  have fin : ∀ (H3 : Hp) (a : Addr) (u : HO), Same H2 H3 → H3 a = none → (EntAt (upd H3 a u) pv o (.ref a)) → Q (.ref a) (upd H3 a u) := by
    intro H3 a u s ha he
    have s2 := s.trans (same_upd (o := u) ha)
    refine k a _ (e2.trans (extN_same s2)) (t2.ext fun b o e => s2 b o e) (fun b x hb hn z => ?_) he
    have := s _ _ (e2 _ _ hb hn)
    rw [z, ha] at this
    cases this
  refine h H2 _ _ e2 (fun v H3 d ho s hv => ⟨by decide, fun a ha => ?_⟩) fun ho dx H3 s hn hx => ⟨dx, pv, rfl, rfl, hx, fun a ha => ?_⟩
  · subst ho
    exact fin H3 a _ s ha ⟨a, v, rfl, upd_same, Is.same (same_upd ha) hv⟩
  · subst ho
    exact fin H3 a _ s ha ⟨a, rfl, upd_same⟩
theorem tabs_bag {T0 : List (Addr × Str)} {p : Addr} {H H' : Hp} (t : Tabs T0 H) (hB : Bag H p) (x : Ext p H H') : Tabs T0 H' := by
  obtain ⟨q, b0, b1, b2, cs, h1, _⟩ := hB
  intro r hr
  obtain ⟨ps, e1, e2, e3⟩ := t r hr
  have n1 : r.1 ≠ p := fun z => by
    rw [z, h1] at e1
    cases e1
  refine ⟨ps, x.keep _ _ n1 e1, e2, fun pos cv hc => ?_⟩
  obtain ⟨c, ec, e4⟩ := e3 pos cv hc
  have n2 : c ≠ p := fun z => by
    rw [z, h1] at e4
    unfold LamX.CodeO at e4
    cases e4
  exact ⟨c, ec, x.keep _ _ n2 e4⟩
theorem bag_extN {p : Addr} {H H' : Hp} (h : Bag H p) (k : ExtN H H') : Bag H' p := by
  obtain ⟨q, b0, b1, b2, cs, h1, h2, r⟩ := h
  exact ⟨q, b0, b1, b2, cs, k _ _ h1 (fun _ z => nomatch z), k _ _ h2 (fun _ z => nomatch z), r⟩
/-- all but the bag and the tables stays -/
def KeepR (p : Addr) (H H' : Hp) : Prop := ∀ b o, b ≠ p → H b = some o → (∀ ps, o ≠ .tbl ps) → H' b = some o
def spRight (T0 : List (Addr × Str)) : Sp := fun vs H Q _ => ∃ (p kt : Addr) (q : Kit) (v pv : V) (rows : List PyData), vs = [.ref p, .ref kt, v, pv] ∧ Bag H p ∧ KitAt H kt q ∧ RowsAt H v rows ∧ deepR 5 rows ∧ PyData.weightAll rows ≤ 20000 ∧ ValP p H pv ∧ Tabs T0 H ∧
  ∀ H', Bag H' p → KeepR p H H' → Tabs T0 H' → Q (.bl true) H'
/-- data that is compared and shown -/
structure Gd (d : PyData) : Prop where
  lay : d.canLay0 = true
  dp : d.depth ≤ 40
  sh : d.showable = true
  lv : d.leavesShort 45 = true
  wt : d.weight ≤ 30000
theorem gd_rows {n : Nat} {rs : List PyData} (h : ∀ r ∈ rs, RowOk r) (dp : deepR n rs) (hn : n ≤ 9) (w : PyData.weightAll rs ≤ 30000) : Gd (.tuple rs) := by
  have d1 := rows_depth h dp
  obtain ⟨s1, s2⟩ := shows_all fun d hd => row_shows (h d hd)
  exact ⟨lay_all.mpr fun d hd => row_lay (h d hd), by omega, by simpa only [PyData.showable] using s1, by simpa only [PyData.leavesShort] using s2, by simpa only [PyData.weight] using w⟩
theorem gd_row {n : Nat} {rs : List PyData} {r : PyData} (hr : r ∈ rs) (h : ∀ r ∈ rs, RowOk r) (dp : deepR n rs) (hn : n ≤ 9) (w : PyData.weightAll rs ≤ 30000) : Gd r := by
  have d1 := rows_depth h dp
  have d2 := mem_depth hr
  have w2 := mem_weight hr
  obtain ⟨s1, s2⟩ := row_shows (h r hr)
  simp only [PyData.depth] at d1
  exact ⟨row_lay (h r hr), by omega, s1, s2, by omega⟩
/-- what is shown of an entry -/
def entD (d : PyData) : Option PyData → PyData
  | none => .tuple [.str "row", d]
  | some x => .tuple [.str "told", x]
theorem ent_is {H : Hp} {pv v : V} {d : PyData} {o : Option PyData} (h : EntAt H pv o v) (hp : Is H pv d) : Is H v (entD d o) := by
  cases o with
  | none =>
    obtain ⟨a, rfl, h⟩ := h
    exact .tup h (.cons (.str _) (.cons hp .nil))
  | some x =>
    obtain ⟨a, u, rfl, h, hd⟩ := h
    exact .tup h (.cons (.str _) (.cons hd .nil))
theorem lit_len : (PyData.str "row").weight ≤ 10 ∧ (PyData.str "told").weight ≤ 10 := by decide +kernel
theorem ent_sh {d : PyData} {o : Option PyData} (hd : d.showable = true ∧ d.leavesShort 45 = true) (ho : ∀ x, o = some x → Gd x) : (entD d o).showable = true ∧ (entD d o).leavesShort 45 = true := by
  have l1 : (PyData.str "row").leavesShort 45 = true := by decide +kernel
  have l2 : (PyData.str "told").leavesShort 45 = true := by decide +kernel
  cases o with
  | none => exact ⟨by simp only [entD, PyData.showable, PyData.showableAll, hd.1, Bool.and_true], by simp only [entD, PyData.leavesShort, PyData.leavesShortAll, hd.2, Bool.and_true] at l1 ⊢; exact l1⟩
  | some x =>
    have g := ho x rfl
    exact ⟨by simp only [entD, PyData.showable, PyData.showableAll, g.sh, Bool.and_true], by simp only [entD, PyData.leavesShort, PyData.leavesShortAll, g.lv, Bool.and_true] at l2 ⊢; exact l2⟩
theorem ent_wd {d : PyData} {o : Option PyData} (w : d.weight ≤ 30000) (dp : d.depth ≤ 40) (ho : ∀ x, o = some x → Gd x) : (entD d o).weight ≤ 30020 ∧ (entD d o).depth ≤ 41 := by
  have l := lit_len
  cases o with
  | none =>
    simp only [entD, PyData.weight, PyData.weightAll, PyData.depth, PyData.depthAll] at l ⊢
    omega
  | some x =>
    have g := ho x rfl
    have g1 := g.wt
    have g2 := g.dp
    simp only [entD, PyData.weight, PyData.weightAll, PyData.depth, PyData.depthAll] at l ⊢
    omega
/-- four entries, as a list -/
theorem four_ok {d : PyData} {o0 o1 o2 o3 : Option PyData} (hd : d.showable = true ∧ d.leavesShort 45 = true) (w : d.weight ≤ 30000) (dp : d.depth ≤ 40) (h0 : ∀ x, o0 = some x → Gd x) (h1 : ∀ x, o1 = some x → Gd x) (h2 : ∀ x, o2 = some x → Gd x) (h3 : ∀ x, o3 = some x → Gd x) :
    (PyData.list [entD d o0, entD d o1, entD d o2, entD d o3]).showable = true ∧ (PyData.list [entD d o0, entD d o1, entD d o2, entD d o3]).depth ≤ 60 ∧ (PyData.list [entD d o0, entD d o1, entD d o2, entD d o3]).shown.length ≤ sizeLine := by
  obtain ⟨a0, b0⟩ := ent_wd w dp h0
  obtain ⟨a1, b1⟩ := ent_wd w dp h1
  obtain ⟨a2, b2⟩ := ent_wd w dp h2
  obtain ⟨a3, b3⟩ := ent_wd w dp h3
  obtain ⟨s1, s2⟩ := shows_all (ds := [entD d o0, entD d o1, entD d o2, entD d o3]) fun x hx => by
    simp only [List.mem_cons, List.not_mem_nil, or_false] at hx
    rcases hx with rfl | rfl | rfl | rfl
    · exact ent_sh hd h0
    · exact ent_sh hd h1
    · exact ent_sh hd h2
    · exact ent_sh hd h3
  refine ⟨by simpa only [PyData.showable] using s1, ?_, ?_⟩
  · simp only [PyData.depth, PyData.depthAll]
    omega
  · have := PyData.shown_le 45 (by decide) (.list [entD d o0, entD d o1, entD d o2, entD d o3]) (by simpa only [PyData.leavesShort] using s2)
    rw [sizeLine_eq]
    simp only [PyData.weight, PyData.weightAll] at this
    omega
/-- the path: the same object, or flat data -/
theorem same_path {H : Hp} {pv : V} {d : PyData} (h : Is H pv d) (f : Fine 0 d) : SameV H pv pv := by
  cases h with
  | non => exact .inr ⟨.none, .non, .non, rfl, Nat.zero_le _⟩
  | bl b => exact .inr ⟨.bool b, .bl b, .bl b, rfl, Nat.zero_le _⟩
  | int i => exact .inr ⟨.int i, .int i, .int i, rfl, Nat.zero_le _⟩
  | str x =>
    refine .inr ⟨.str x, .str x, .str x, ?_, Nat.zero_le _⟩
    have := (ok_str.mp f.ok).2
    show x.cps.all (fun c => decide (c < 1114112)) = true
    rw [← Array.all_toList, List.all_eq_true]
    intro c hc
    have := this c hc
    exact decide_eq_true (by omega)
  | lst e t => exact .inl ⟨_, rfl, rfl⟩
  | tup e t => exact .inl ⟨_, rfl, rfl⟩
  | dic e t => exact .inl ⟨_, rfl, rfl⟩
theorem pair_of {H : Hp} {pv x e : V} {d : PyData} {o : Option PyData} (hx : EntAt H pv o x) (he : EntAt H pv o e) (n : x ≠ e) (hp : Is H pv d) (f : Fine 0 d) (ho : ∀ y, o = some y → Gd y) : PairQ H x e := by
  cases o with
  | none =>
    obtain ⟨a, rfl, ha⟩ := hx
    obtain ⟨b, rfl, hb⟩ := he
    exact ⟨a, b, "row", pv, pv, rfl, rfl, fun z => n (by rw [z]), ha, hb, by decide +kernel, same_path hp f⟩
  | some y =>
    obtain ⟨a, u, rfl, ha, hu⟩ := hx
    obtain ⟨b, u', rfl, hb, hu'⟩ := he
    exact ⟨a, b, "told", u, u', rfl, rfl, fun z => n (by rw [z]), ha, hb, by decide +kernel, .inr ⟨y, hu, hu', (ho y rfl).lay, (ho y rfl).dp⟩⟩
theorem tabs_upd {T0 : List (Addr × Str)} {H : Hp} {f : Addr} {o : HO} (t : Tabs T0 H) (h : H f = none ∨ ∃ xs, H f = some (.lst xs)) : Tabs T0 (upd H f o) := by
  intro r hr
  obtain ⟨ps, e1, e2, e3⟩ := t r hr
  have n1 : r.1 ≠ f := fun z => by
    rcases h with h | ⟨xs, h⟩ <;> (rw [z, h] at e1; cases e1)
  refine ⟨ps, by rw [upd_ne n1]; exact e1, e2, fun pos cv hc => ?_⟩
  obtain ⟨c, ec, e4⟩ := e3 pos cv hc
  have n2 : c ≠ f := fun z => by
    unfold LamX.CodeO at e4
    rcases h with h | ⟨xs, h⟩ <;> (rw [z, h] at e4; cases e4)
  exact ⟨c, ec, by rw [upd_ne n2]; exact e4⟩
/-- an object that H0 has not is written -/
theorem extN_upd {H0 H : Hp} {f : Addr} {o : HO} (k : ExtN H0 H) (n : ∀ b u, H0 b = some u → (∀ ps, u ≠ .tbl ps) → b ≠ f) : ExtN H0 (upd H f o) := fun b u e h => by
  rw [upd_ne (n b u e h)]
  exact k b u e h
section
variable {P : Program} {w : World} {K : PySem.W.Frag} {mg : Str → Option Value} {base : Heap} {A : Ad} {D : Fd} {C F : Addr}
theorem ok__law_right (T : Txt K mg A D) (T2 : Tcl K mg A D C F) (hm : HasMods base) {c PT : Addr} {T0 : List (Addr × Str)} (hcR : D._law_right.code = .ref c) (TB : LamX.TabB base mg c PT) (hmT : (PT, lamQ) ∈ T0) (hu : ∀ p ∈ T0, p.1 = PT → p.2 = lamQ) :
    Keeps P w K mg base 20 A._law_right D._law_right ["bag", "kit", "rows", "path"] (spRight T0) := by
  refine keeps_ofC T.f__law_right sc__law_right (fun vs H Q E h => ?_) (fun cdv AA outer s H vs Q E ecd hq hr h => ?_)
  · obtain ⟨p, kt, q, v, pz, rows, rfl, _⟩ := h
    rfl
  · obtain ⟨p, kt, q, v, pz, rows, rfl, hB, hK, hv, dp, wr, hp, hT, k⟩ := h
    have hcode : cdv = .ref c := ecd.symm.trans hcR
    refine ⟨_, (pss_cons (ps_asg (by exact (pe_tup (pa_cons (pe_call (draws_n T 2).1 (hr.mono (by decide)) rfl T.m__law_row T.f__law_row.kp (b__law_row T) .nil pass0 (pa_cons (pv 0) (pa_cons (pv 1) (pa_cons pe_int (pa_cons pe_int (pa_cons (pe_lst pa_nil) pa_nil)))))) (pa_cons (pe_call (draws_n T 2).2 (hr.mono (by decide)) rfl T.m__law_rows T.f__law_rows.kp (b__law_rows T) .nil pass0 (pa_cons (pv 0) (pa_cons (pv 1) (pa_cons pe_int (pa_cons pe_int (pa_cons (pe_lst pa_nil) pa_nil)))))) pa_nil)))) (pg_tupK (n := 2) K rfl rfl (pgs_cons (pg_name (i := 8) sc__law_right.nd rfl (Or.inr rfl)) (pgs_cons (pg_name (i := 9) sc__law_right.nd rfl (Or.inr rfl)) pgs_nil))))
  (pss_cons (ps_set (i := 4) sc__law_right.nd rfl (Or.inl rfl) (by exact (pe_op (mulK K rfl) (pe_lst (pa_cons (pe_tup (pa_cons pe_str (pa_cons (pv 3) pa_nil))) pa_nil)) pe_int)))
  (C8.pss_cut (ps_if (pt_val (pe_call (ok__law_is_path T) (hr.mono (by decide)) rfl T.m__law_is_path T.f__law_is_path.kp (b__law_is_path T) .nil pass0 (pa_cons (pv 2) (pa_cons (pv 3) (pa_cons pe_int pa_nil))))) (pss_one (ps_asg (by exact (pe_tup (pa_cons pe_str (pa_cons (pe_call (ok__law_edited T) (hr.mono (by decide)) rfl T.m__law_edited T.f__law_edited.kp (b__law_edited T) .nil pass0 (pa_cons (pv 2) (pa_cons (pv 3) (pa_cons pe_int (pa_cons (pe_tup (pa_cons (pv 8) pa_nil)) pa_nil))))) pa_nil)))) (pg_sub (pv 4) pe_int set_list))) pss_nil)
  (C8.pss_cut (ps_if (pt_val (pe_call (ok__law_is_path T) (hr.mono (by decide)) rfl T.m__law_is_path T.f__law_is_path.kp (b__law_is_path T) .nil pass0 (pa_cons (pv 2) (pa_cons (pv 3) (pa_cons pe_int pa_nil))))) (pss_cons (ps_asg (by exact (pe_tup (pa_cons pe_str (pa_cons (pe_call (ok__law_row_at T) (hr.mono (by decide)) rfl T.m__law_row_at T.f__law_row_at.kp (b__law_row_at T) .nil pass0 (pa_cons (pe_disp (pps_cons pe_str (pv 2) pps_nil) (by rfl) (by rfl) (fun z => by cases z) (by decide)) (pa_cons pe_str (pa_cons (pv 3) pa_nil)))) pa_nil)))) (pg_sub (pv 4) pe_int set_list))
  (pss_one (ps_asg (by exact (pe_tup (pa_cons (pe_tup (pa_cons pe_str (pa_cons (pe_call (ok__law_edited T) (hr.mono (by decide)) rfl T.m__law_edited T.f__law_edited.kp (b__law_edited T) .nil pass0 (pa_cons (pv 2) (pa_cons (pv 3) (pa_cons pe_int (pa_cons (pe_tup pa_nil) pa_nil))))) pa_nil))) (pa_cons (pe_tup (pa_cons pe_str (pa_cons (pe_call (ok__law_edited T) (hr.mono (by decide)) rfl T.m__law_edited T.f__law_edited.kp (b__law_edited T) .nil pass0 (pa_cons (pv 2) (pa_cons (pv 3) (pa_cons pe_int (pa_cons (pv 9) pa_nil))))) pa_nil))) pa_nil)))) (pg_tupK (n := 2) K rfl rfl (pgs_cons (pg_sub (pv 4) pe_int set_list) (pgs_cons (pg_sub (pv 4) pe_int set_list) pgs_nil)))))) pss_nil)
  (pss_cons (ps_set (i := 5) sc__law_right.nd rfl (Or.inl rfl) (by exact (pe_callB (call_repr hq hm (units_of hr)) (by rfl) T.b_repr (by decide +kernel) (pa_cons (pv 3) pa_nil))))
  (pss_cons (ps_for PassesOwn.never rfl (pi_range1 rfl T.b_range (pa_cons pe_int pa_nil)) (pg_name (i := 6) sc__law_right.nd rfl (Or.inl rfl))
 (pss_cons (ps_set (i := 7) sc__law_right.nd rfl (Or.inl rfl) (by exact (pe_lst (pa_cons (pe__law_heard (k := 12) T T2 rfl TB hcode hmT hu (hr.mono (by decide)) (LamX.lamS_by (sc := defScope s__law_right) (by decide +kernel)) rfl (fun _ _ _ _ _ => rfl) (fun _ _ _ _ _ _ _ hr => (pe_call (ok_row_at T T2) (hr.mono (by decide)) rfl T.m_row_at T.f_row_at.kp (b_row_at T) .nil (passes_call (takes_of rfl rfl rfl rfl) fun _ _ _ _ h => h) (pa_cons (pv 2) (pa_cons (pv 3) pa_nil))))) pa_nil))))
  (pss_cons (ps_expr (pe_bm PySem.F.plainAttrs_list PySem.F.slot_list_append PySem.F.type_list_append mt_append (pv 7) (pa_cons (pe__law_heard (k := 12) T T2 rfl TB hcode hmT hu (hr.mono (by decide)) (LamX.lamS_by (sc := defScope s__law_right) (by decide +kernel)) rfl (fun _ _ _ _ _ => rfl) (fun _ _ _ _ _ _ _ hr => (pe_call (ok_put T T2) (hr.mono (by decide)) rfl T.m_put T.f_put.kp (b_put T) .nil (passes_call (takes_of rfl rfl rfl rfl) fun _ _ _ _ h => h) (pa_cons (pv 2) (pa_cons (pv 3) (pa_cons (pv 8) pa_nil)))))) pa_nil)))
  (pss_cons (ps_expr (pe_bm PySem.F.plainAttrs_list PySem.F.slot_list_append PySem.F.type_list_append mt_append (pv 7) (pa_cons (pe__law_heard (k := 12) T T2 rfl TB hcode hmT hu (hr.mono (by decide)) (LamX.lamS_by (sc := defScope s__law_right) (by decide +kernel)) rfl (fun _ _ _ _ _ => rfl) (fun _ _ _ _ _ _ _ hr => (pe_call (ok_out T T2) (hr.mono (by decide)) rfl T.m_out T.f_out.kp (b_out T) .nil (passes_call (takes_of rfl rfl rfl rfl) fun _ _ _ _ h => h) (pa_cons (pv 2) (pa_cons (pv 3) pa_nil))))) pa_nil)))
  (pss_cons (ps_expr (pe_bm PySem.F.plainAttrs_list PySem.F.slot_list_append PySem.F.type_list_append mt_append (pv 7) (pa_cons (pe__law_heard (k := 12) T T2 rfl TB hcode hmT hu (hr.mono (by decide)) (LamX.lamS_by (sc := defScope s__law_right) (by decide +kernel)) rfl (fun _ _ _ _ _ => rfl) (fun _ _ _ _ _ _ _ hr => (pe_call (ok_changed T T2) (hr.mono (by decide)) rfl T.m_changed T.f_changed.kp (b_changed T) .nil (passes_call (takes_of rfl rfl rfl rfl) fun _ _ _ _ h => h) (pa_cons (pv 2) (pa_cons (pv 3) (pa_cons (pv 9) pa_nil)))))) pa_nil)))
  (pss_one (ps_if (PW.pt (pw_or (pt_not (pt_val (pe_quiet (ok__law_alike T hm) hq (hr.mono (by decide)) rfl T.m__law_alike T.f__law_alike.kp (b__law_alike T) (pa_cons (pv 7) (pa_cons (pv 4) pa_nil))))) (pw_or1 (pt_cmpR (op_neU (units_of hr)) (pe_callB (call_repr hq hm (units_of hr)) (by rfl) T.b_repr (by decide +kernel) (pa_cons (pv 3) pa_nil)) (pv 5) (nomark _))))) (pss_one (ps_ret pe_bl)) pss_nil)))))))
  (pss_one (ps_ret pe_bl)))))))), ?_⟩
    have hd0 : ∀ {H1 : Hp} {l : Addr}, Ext p H H1 → H1 l = none → Draw (upd H1 l (.lst [])) p kt l q [] := fun {H1 l} x hl =>
      ⟨x.bag.same (same_upd hl), (hK.keep (kp_ext hB x)).keep (kp_same (same_upd hl)), ⟨[], upd_same, .nil, Nat.zero_le _, fun _ h => nomatch h⟩, x.bag.ne hl⟩
    refine ⟨_, rfl, _, rfl, Nat.zero_le _, fun l1 hl1 => ?_⟩
    have x1 := Ext.same hB (same_upd (o := .lst []) hl1)
    refine ⟨p, kt, l1, 3, 2, q, [], rfl, hd0 (.refl hB) hl1, by decide, by decide, by decide, by decide, by decide, fun rv row H2 hrv hR x2' => ?_⟩
    have x2 := x1.trans x2'
    refine ⟨_, rfl, _, rfl, Nat.zero_le _, fun l2 hl2 => ?_⟩
    have x3 := x2.then (same_upd (o := .lst []) hl2)
    refine ⟨p, kt, l2, 3, 1, q, [], rfl, hd0 x2 hl2, by decide, by decide, by decide, by decide, by decide, fun sv new H4 hsv hN x4' => ⟨by show 2 ≤ sizeLine; decide, fun t4 ht4 => ?_⟩⟩
    have s5 := same_upd (o := .tup [rv, sv]) ht4
    refine ⟨t4, _, rfl, SqT.of upd_same, rfl, _, _, rfl, _, _, rfl, rfl, ?_⟩
    have x5 := (x3.trans x4').then s5
    have hrv5 := Is.same s5 (row_keep ((kp_same (same_upd (o := .lst []) hl2)).trans (kp_ext x3.bag x4')) hR.ok _ hrv)
    have hsv5 := Is.same s5 hsv
    have hv5 : RowsAt (upd H4 t4 (.tup [rv, sv])) v rows := ⟨rows_keep (kp_ext hB x5) hv.2.1 hv.1, hv.2⟩
    obtain ⟨d, hd', fd⟩ := hp.ext x5
    have hd5 := Is.same hide_in hd'
    have hT5 := tabs_bag hT hB x5
    generalize upd H4 t4 (.tup [rv, sv]) = H5 at x5 hrv5 hsv5 hv5 hd5 hT5
    have hB5 := x5.bag
    have pz0 : Small d := by
      show d.weight ≤ 1000000
      have := fd.w
      have e : wB 0 = 5000 := rfl
      omega
    clear hT hd' hp hsv hrv x4' x3 x1 x2 x2' s5
    have lnew : new.length ≤ 3 := by
      have h1 := len_sum new
      rw [← sz_rows hN.deep (by decide)] at h1
      have h2 := hN.size
      omega
    have wnew : PyData.weightAll new ≤ 600 := by
      have h1 := hN.wt
      have h2 := hN.size
      omega
    have wrow : row.weight ≤ 600 := by
      have h1 := hR.wt
      have h2 := hR.size
      omega
    -- the dues, all the path at first
    refine ⟨_, rfl, by show 2 ≤ sizeLine; decide, fun a0 ha0 => ⟨by show 1 ≤ sizeLine; decide, fun l0 hl0 => ?_⟩⟩
    have s6 := (same_upd (o := .tup [V.str "row", pz]) ha0).trans (same_upd (o := .lst [V.ref a0]) hl0)
    refine .inr (.inl ⟨l0, 4, [.ref a0], rfl, rfl, upd_same, by decide, by decide, by show 1 * 4 ≤ sizeLine; decide, fun dl hdl => ?_⟩)
    have a06 := same_upd (o := .lst [V.ref a0]) hl0 _ _ (upd_same (H := H5) (a := a0) (o := .tup [V.str "row", pz]))
    have hv6 := hv5.same s6
    have hd6 := Is.same s6 hd5
    have hrv6 := Is.same s6 hrv5
    have hsv6 := Is.same s6 hsv5
    have hT6 : Tabs T0 _ := hT5.ext fun b o e => s6 b o e
    have hB6 := hB5.same s6
    have x6 := x5.then s6
    generalize upd (upd H5 a0 (.tup [V.str "row", pz])) l0 (.lst [V.ref a0]) = H6 at a06 hv6 hd6 hrv6 hsv6 hT6 hB6 x6 hdl
    clear hv5 hd5 hrv5 hsv5 hT5 hB5 x5 s6 ha0 hl0
    let o1 : Option PyData := if endB 1 (bodyAt rows d) = true then some (.tuple (editD rows (intsD d) 0 [row])) else none
    have edit : ∀ (many : Nat) (sm : V) (nw : List PyData) (b : Nat) (H1 : Hp) (Q1 : VK) (E1 : XK), endB b (bodyAt rows d) = true → RowsAt H1 v rows → Is H1 pz d → Is H1 sm (.tuple nw) → (∀ r ∈ nw, RowOk r) → nw.length ≤ 1000000 →
        (∀ u H', Same H1 H' → Is H' u (.tuple (editD rows (intsD d) many nw)) → Q1 u H') → spSpl 8 [v, pz, .int (many : Int), sm] H1 Q1 E1 := by
      intro many sm nw b H1 Q1 E1 hb h1 h2 h3 h4 h5 h6
      cases e : bodyAt rows d with
      | none => rw [e] at hb; cases hb
      | some x =>
      obtain ⟨ns, rfl, hw⟩ := body_nats e
      have pl := walk_len dp hw
      rw [intsN, List.length_map] at pl
      refine ⟨v, pz, sm, rows, nw, ns, many, x, rfl, h1, h2, h3, h4, h5, hw, by omega, fun u H' s hu => h6 u H' s ?_⟩
      rw [intsD_nats]
      exact hu
    have rowT : ∀ {H1 : Hp} {t : Addr}, Is H1 rv row → H1 t = none → Is (upd H1 t (.tup [rv])) (.ref t) (.tuple [row]) := fun h1 ht => .tup upd_same (.cons (Is.same (same_upd ht) h1) .nil)
    have row1 : ∀ r ∈ [row], RowOk r := fun r hr => by
      rw [List.mem_singleton.mp hr]
      exact hR.ok
    have edOk : ∀ (many : Nat) (nw : List PyData) (b : Nat), endB b (bodyAt rows d) = true → (∀ r ∈ nw, RowOk r) → ∀ r ∈ editD rows (intsD d) many nw, RowOk r := by
      intro many nw b hb hn
      cases e : bodyAt rows d with
      | none => rw [e] at hb; cases hb
      | some x =>
      obtain ⟨ns, rfl, hw⟩ := body_nats e
      rw [intsD_nats]
      exact edit_ok hn hv6.2.1 hw
    let o0 : Option PyData := if endB 0 (bodyAt rows d) = true then (bodyAt rows d).bind (fun x => x.1[x.2.toNat]?) else none
    let o2 : Option PyData := if endB 0 (bodyAt rows d) = true then some (.tuple (editD rows (intsD d) 1 [])) else none
    let o3 : Option PyData := if endB 0 (bodyAt rows d) = true then some (.tuple (editD rows (intsD d) 1 new)) else none
    have rk1 : ∀ d', o1 = some d' → Rk d' := fun d' h' => by
      have h' : (if endB 1 (bodyAt rows d) = true then some (PyData.tuple (editD rows (intsD d) 0 [row])) else none) = some d' := h'
      by_cases e : endB 1 (bodyAt rows d) = true
      · rw [if_pos e] at h'
        cases h'
        exact .inr ⟨_, rfl, edOk 0 [row] 1 e row1⟩
      · rw [if_neg e] at h'
        cases h'
    have rk0 : ∀ d', o0 = some d' → Rk d' := fun d' h' => by
      have h' : (if endB 0 (bodyAt rows d) = true then (bodyAt rows d).bind (fun x => x.1[x.2.toNat]?) else none) = some d' := h'
      by_cases e : endB 0 (bodyAt rows d) = true
      · rw [if_pos e] at h'
        cases eb : bodyAt rows d with
        | none => rw [eb] at h'; cases h'
        | some x =>
        rw [eb] at h'
        obtain ⟨ns, hdn, hw⟩ := body_nats eb
        exact .inl (walk_ok hv6.2.1 hw d' (List.mem_of_getElem? h'))
      · rw [if_neg e] at h'
        cases h'
    have rk2 : ∀ d', o2 = some d' → Rk d' := fun d' h' => by
      have h' : (if endB 0 (bodyAt rows d) = true then some (PyData.tuple (editD rows (intsD d) 1 [])) else none) = some d' := h'
      by_cases e : endB 0 (bodyAt rows d) = true
      · rw [if_pos e] at h'
        cases h'
        exact .inr ⟨_, rfl, edOk 1 [] 0 e fun r h => nomatch h⟩
      · rw [if_neg e] at h'
        cases h'
    have rk3 : ∀ d', o3 = some d' → Rk d' := fun d' h' => by
      have h' : (if endB 0 (bodyAt rows d) = true then some (PyData.tuple (editD rows (intsD d) 1 new)) else none) = some d' := h'
      by_cases e : endB 0 (bodyAt rows d) = true
      · rw [if_pos e] at h'
        cases h'
        exact .inr ⟨_, rfl, edOk 1 new 0 e hN.ok⟩
      · rw [if_neg e] at h'
        cases h'
    let Mid1 : L2.St → Hp → Prop := fun σ H' => ∃ e1, σ = [some (.ref p), some (.ref kt), some v, some pz, some (.ref dl), none, none, none, some rv, some sv] ∧ Same H6 H' ∧ H' dl = some (.lst [.ref a0, e1, .ref a0, .ref a0]) ∧ EntAt H' pz o1 e1
    refine ⟨Mid1, ?_, ?_⟩
    · have s7 := same_upd (o := .lst (List.replicate 4 [V.ref a0]).flatten) hdl
      refine ⟨_, rfl, _, rfl, v, pz, rows, d, 1, rfl, Nat.le_refl _, hv6.same s7, Is.same s7 hd6, pz0, fun H8 s8 => ⟨_, rfl, if_b (fun e => ?_) (fun e => ?_)⟩⟩
      · have s78 := s7.trans s8
        refine ⟨_, rfl, _, rfl, _, rfl, by show 1 ≤ sizeLine; decide, fun t1 ht1 => ?_⟩
        have s9 := s78.trans (same_upd (o := .tup [rv]) ht1)
        refine edit 0 (.ref t1) [row] 1 _ _ E0 e (hv6.same s9) (Is.same s9 hd6) (rowT (Is.same s78 hrv6) ht1) row1 (by show 1 ≤ 1000000; decide) fun u H10 s10 hu => ⟨by show 2 ≤ sizeLine; decide, fun t2 ht2 => ?_⟩
        have s11 := s10.trans (same_upd (o := .tup [.str "told", u]) ht2)
        have hl := s11 _ _ (same_upd ht1 _ _ (s8 _ _ (upd_same (H := H6) (a := dl))))
        refine ⟨_, rfl, dl, _, 1, 1, rfl, rfl, hl, rfl, .ref t2, rfl, same_over hdl (s9.trans s11), upd_same, ?_⟩
        show EntAt _ _ (if _ then _ else _) _
        rw [if_pos e]
        exact ⟨t2, u, rfl, (kp_upd hl).tup upd_same, rows_keep ((kp_same (same_upd ht2)).trans (kp_upd hl)) (edOk 0 [row] 1 e row1) hu⟩
      · have s78 := s7.trans s8
        refine ⟨.ref a0, rfl, s78, s8 _ _ upd_same, ?_⟩
        show EntAt _ _ (if _ then _ else _) _
        rw [if_neg (by rw [e]; exact Bool.false_ne_true)]
        exact ⟨a0, rfl, s78 _ _ a06⟩
    rintro _ H7 ⟨e1, rfl, s7, hdl7, ee1⟩
    let Mid2 : L2.St → Hp → Prop := fun σ H' => ∃ e0 e1 e2 e3, σ = [some (.ref p), some (.ref kt), some v, some pz, some (.ref dl), none, none, none, some rv, some sv] ∧ Same H6 H' ∧ H' dl = some (.lst [e0, e1, e2, e3]) ∧ EntAt H' pz o0 e0 ∧ EntAt H' pz o1 e1 ∧ EntAt H' pz o2 e2 ∧ EntAt H' pz o3 e3
    refine ⟨Mid2, ?_, ?_⟩
    · refine ⟨_, rfl, _, rfl, v, pz, rows, d, 0, rfl, Nat.zero_le _, hv6.same s7, Is.same s7 hd6, pz0, fun H8 s8 => ⟨_, rfl, if_b (fun e => ?_) (fun e => ?_)⟩⟩
      · have s78 := s7.trans s8
        cases eb : bodyAt rows d with
        | none => rw [eb] at e; cases e
        | some x =>
        obtain ⟨ns, hdn, hw⟩ := body_nats eb
        have pl := walk_len dp hw
        rw [intsN, List.length_map] at pl
        have en : endB 0 (some x) = true := by rw [← eb]; exact e
        have enr : (bodyAt rows d).bind (fun x => x.1[x.2.toNat]?) = x.1[x.2.toNat]? := by
          rw [eb]
          rfl
        intro m hm'
        have sd := s8.trans (same_upd (o := .dK []) hm')
        refine ⟨v, rfl, upd_same, [(.inr "", v)], rfl, by show 1 ≤ 15; decide, ?_⟩
        have sm := s8.trans (same_over (o := .dK (mergeK [] [((.inr "" : Key), v)])) hm' (same_upd (o := .dK []) hm'))
        have s79 := s7.trans sm
        refine ⟨_, rfl, m, v, pz, rows, ns, x, rfl, upd_same, hv6.same s79, ?_, by omega, hw, en, fun u H10 r s10 er hur => ⟨by show 2 ≤ sizeLine; decide, fun t2 ht2 => ?_⟩⟩
        · rw [← hdn]
          exact Is.same s79 hd6
        have s11 := (sm.trans s10).trans (same_upd (o := .tup [.str "told", u]) ht2)
        have hl := s11 _ _ hdl7
        have ror : RowOk r := walk_ok hv6.2.1 hw r (List.mem_of_getElem? er)
        refine ⟨_, rfl, dl, _, 0, 0, rfl, rfl, hl, rfl, ?_⟩
        have k12 := kp_upd (o := .lst ([V.ref a0, e1, V.ref a0, V.ref a0].set 0 (V.ref t2))) hl
        have en0 : ∀ H', Kp (upd H10 t2 (.tup [.str "told", u])) H' → EntAt H' pz o0 (.ref t2) := fun H' kk => by
          show EntAt _ _ (if _ then _ else _) _
          rw [if_pos e, enr, er]
          exact ⟨t2, u, rfl, kk.tup upd_same, row_keep kk ror _ (Is.same (same_upd ht2) hur)⟩
        have s12 := same_over (o := .lst ([V.ref a0, e1, V.ref a0, V.ref a0].set 0 (V.ref t2))) hdl (s7.trans s11)
        have ee1' := (ee1.extN (extN_same s11)).kp k12 rk1
        have hdl12 : upd (upd H10 t2 (.tup [.str "told", u])) dl (.lst ([V.ref a0, e1, V.ref a0, V.ref a0].set 0 (V.ref t2))) dl = some (.lst [V.ref t2, e1, .ref a0, .ref a0]) := upd_same
        have en0' := en0 _ k12
        have a012 := s12 _ _ a06
        clear ee1 hdl7 hl k12 en0 s11 sm sd s79 s78 s7 s10
        show _
        generalize upd (upd H10 t2 (.tup [.str "told", u])) dl (.lst ([V.ref a0, e1, V.ref a0, V.ref a0].set 0 (V.ref t2))) = H12 at s12 ee1' hdl12 en0' a012
        refine ⟨_, rfl, _, rfl, Nat.zero_le _, fun t3 ht3 => ?_⟩
        have s13 := s12.trans (same_upd (o := .tup []) ht3)
        have s13' := same_upd (o := .tup []) ht3
        refine edit 1 (.ref t3) [] 0 _ _ E0 e (hv6.same s13) (Is.same s13 hd6) (.tup upd_same .nil) (fun r h => nomatch h) (Nat.zero_le _) fun u2 H14 s14 hu2 => ⟨by show 2 ≤ sizeLine; decide, fun t5 ht5 => ?_⟩
        have s15 := (s13'.trans s14).trans (same_upd (o := .tup [.str "told", u2]) ht5)
        have f2 : EntAt (upd H14 t5 (.tup [.str "told", u2])) pz o2 (.ref t5) := by
          show EntAt _ _ (if _ then _ else _) _
          rw [if_pos e]
          exact ⟨t5, u2, rfl, upd_same, Is.same (same_upd ht5) hu2⟩
        generalize upd H14 t5 (.tup [.str "told", u2]) = H15 at s15 f2
        have s15' := s12.trans s15
        refine ⟨_, rfl, _, rfl, _, rfl, edit 1 sv new 0 _ _ E0 e (hv6.same s15') (Is.same s15' hd6) (Is.same s15' hsv6) hN.ok (by omega) fun u3 H16 s16 hu3 => ⟨by show 2 ≤ sizeLine; decide, fun t6 ht6 => ?_⟩⟩
        have s17 := s16.trans (same_upd (o := .tup [.str "told", u3]) ht6)
        have f3 : EntAt (upd H16 t6 (.tup [.str "told", u3])) pz o3 (.ref t6) := by
          show EntAt _ _ (if _ then _ else _) _
          rw [if_pos e]
          exact ⟨t6, u3, rfl, upd_same, Is.same (same_upd ht6) hu3⟩
        generalize upd H16 t6 (.tup [.str "told", u3]) = H17 at s17 f3
        refine ⟨by show 2 ≤ sizeLine; decide, fun t7 ht7 => ?_⟩
        have s18 := same_upd (o := .tup [.ref t5, .ref t6]) ht7
        have s1718 := s17.trans s18
        have h18 := s1718 _ _ (s15 _ _ hdl12)
        refine ⟨t7, _, rfl, SqT.of upd_same, rfl, _, _, rfl, _, rfl, dl, _, 2, 2, rfl, rfl, h18, rfl, _, _, rfl, _, rfl, dl, _, 3, 3, rfl, rfl, upd_same, rfl, rfl, ?_⟩
        have kk := (kp_same s1718).trans ((kp_upd (o := .lst ([V.ref t2, e1, .ref a0, .ref a0].set 2 (.ref t5))) h18).trans (kp_upd (o := .lst (([V.ref t2, e1, .ref a0, .ref a0].set 2 (.ref t5)).set 3 (.ref t6))) upd_same))
        have k18 := (kp_same s18).trans ((kp_upd (o := .lst ([V.ref t2, e1, .ref a0, .ref a0].set 2 (.ref t5))) h18).trans (kp_upd (o := .lst (([V.ref t2, e1, .ref a0, .ref a0].set 2 (.ref t5)).set 3 (.ref t6))) upd_same))
        exact ⟨.ref t2, e1, .ref t5, .ref t6, rfl, same_over hdl (same_over hdl (s15'.trans s1718)), upd_same, (en0'.extN (extN_same s15)).kp kk rk0, (ee1'.extN (extN_same s15)).kp kk rk1, f2.kp kk rk2, f3.kp k18 rk3⟩
      · have s78 := s7.trans s8
        refine ⟨.ref a0, e1, .ref a0, .ref a0, rfl, s78, s8 _ _ hdl7, ?_, ee1.extN (extN_same s8), ?_, ?_⟩ <;> (show EntAt _ _ (if _ then _ else _) _; rw [if_neg (by rw [e]; exact Bool.false_ne_true)]; exact ⟨a0, rfl, s78 _ _ a06⟩)
    rintro _ H8 ⟨e0, e1, e2, e3, rfl, s8, hdl8, ee0, ee1, ee2, ee3⟩
    clear s7 hdl7
    -- what is compared is good
    have gP : ∀ (b many m : Nat) (nw : List PyData) (dd : PyData), m ≤ 2 → (∀ r ∈ nw, RowOk r) → (∀ r ∈ nw, deep1 m r) → PyData.weightAll nw ≤ 700 → (if endB b (bodyAt rows d) = true then some (PyData.tuple (editD rows (intsD d) many nw)) else none) = some dd → Gd dd := by
      intro b many m nw dd hm2 hn hdp hw h'
      by_cases e : endB b (bodyAt rows d) = true
      · rw [if_pos e] at h'
        cases h'
        have ro := edOk many nw b e hn
        cases eb : bodyAt rows d with
        | none => rw [eb] at e; cases e
        | some x =>
        obtain ⟨ns, rfl, hwk⟩ := body_nats eb
        rw [intsD_nats] at ro ⊢
        have w1 := wt_edit (new := nw) (many := many) hv6.2.1 hwk
        exact gd_rows ro (deep_edit hdp hv6.2.1 dp hwk) (by omega) (by omega)
      · rw [if_neg e] at h'
        cases h'
    have g0 : ∀ y, o0 = some y → Gd y := fun y h' => by
      have h' : (if endB 0 (bodyAt rows d) = true then (bodyAt rows d).bind (fun x => x.1[x.2.toNat]?) else none) = some y := h'
      by_cases e : endB 0 (bodyAt rows d) = true
      · rw [if_pos e] at h'
        cases eb : bodyAt rows d with
        | none => rw [eb] at h'; cases h'
        | some x =>
        rw [eb] at h'
        obtain ⟨ns, hdn, hw⟩ := body_nats eb
        obtain ⟨wd, ww⟩ := walk_deep hv6.2.1 dp hw
        exact gd_row (List.mem_of_getElem? h') (walk_ok hv6.2.1 hw) wd (by decide) (by omega)
      · rw [if_neg e] at h'
        cases h'
    have g1 : ∀ y, o1 = some y → Gd y := fun y h' => gP 1 0 2 [row] y (by decide) row1 (fun r hr => by
      rw [List.mem_singleton.mp hr]
      exact hR.deep) (by
      simp only [PyData.weightAll]
      omega) h'
    have g2 : ∀ y, o2 = some y → Gd y := fun y h' => gP 0 1 0 [] y (by decide) (fun r h => nomatch h) (fun r h => nomatch h) (Nat.zero_le _) h'
    have g3 : ∀ y, o3 = some y → Gd y := fun y h' => gP 0 1 1 new y (by decide) hN.ok (fun r hr b hb => hN.deep r hr b hb) (by omega) h'
    clear gP
    have hv8 := hv6.same s8
    have hd8 := Is.same s8 hd6
    have hrv8 := Is.same s8 hrv6
    have hsv8 := Is.same s8 hsv6
    have hT8 : Tabs T0 H8 := hT6.ext fun b o e => s8 b o e
    have dsh := ok_shows (n := 0) (by decide) d fd.ok
    have dw : d.weight ≤ 30000 := Nat.le_trans fd.w (by decide)
    have ddp : d.depth ≤ 40 := Nat.le_trans fd.dp (by decide)
    have dlen := shown_ok (n := 0) (by decide) fd.ok (Nat.le_trans dw (by decide))
    refine ⟨_, rfl, pz, d, rfl, hd8, dsh.1, by omega, dlen, ?_⟩
    refine ⟨2, rfl, by decide, by decide, for_range (fun i σ H' => ∃ (t6 t7 : Option V), σ = [some (.ref p), some (.ref kt), some v, some pz, some (.ref dl), some (.str d.shown), t6, t7, some rv, some sv] ∧ ExtN H8 H' ∧ Tabs T0 H') ⟨_, _, rfl, ExtN.refl _, hT8⟩ ?_ ?_⟩
    · rintro i _ H9 hi ⟨t6, t7, rfl, n9, T9⟩
      have dl9 := n9 _ _ hdl8 fun _ z => nomatch z
      -- whatever comes behind H8: the values handed in
      have vals : ∀ {H' : Hp}, ExtN H8 H' → RowsAt H' v rows ∧ Is H' pz d ∧ Is H' rv row ∧ Is H' sv (.tuple new) := fun n => ⟨⟨is_extN n hv8.1, hv8.2⟩, is_extN n hd8, is_extN n hrv8, is_extN n hsv8⟩
      have nw : ∀ {H' : Hp} {a : Addr}, ExtN H8 H' → (∀ b o, H' b = some o → (∀ ps, o ≠ .tbl ps) → b ≠ a) → ∀ b xs, H8 b = some (.tup xs) → b ≠ a := fun n h b xs e => h b _ (n _ _ e fun _ z => nomatch z) fun _ z => nomatch z
      refine tLam_of (pv := pz) (o := o0) T9 (fun H2 Q' E' e2 h1 h2 => ?_) fun a H10 n10' T10 na ea => ?_
      · obtain ⟨w1, w2, w3, w4⟩ := vals (n9.trans e2)
        refine ⟨_, rfl, _, rfl, v, pz, rows, d, rfl, w1, w2, pz0, fun x u H' r eb en s er hu => h1 u H' r ?_ s hu, fun en => h2 (if_neg (by rw [en]; exact Bool.false_ne_true))⟩
        show (if _ then _ else _) = _
        rw [eb, if_pos en]
        exact er
      have n10 := n9.trans n10'
      have na0 := nw n9 na
      clear na n10'
      refine ⟨by show 1 ≤ sizeLine; decide, fun fl hfl => ?_⟩
      have nfl : ∀ b u, H8 b = some u → (∀ ps, u ≠ .tbl ps) → b ≠ fl := fun b u e h z => by
        have := n10 _ _ e h
        rw [z, hfl] at this
        cases this
      have e11 := extN_upd (o := .lst [V.ref a]) n10 nfl
      have T11 := tabs_upd (o := .lst [V.ref a]) T10 (.inl hfl)
      have ea := ea.kp (kp_same (same_upd (o := .lst [V.ref a]) hfl)) rk0
      have f11 : upd H10 fl (.lst [V.ref a]) fl = some (.lst [V.ref a]) := upd_same
      generalize upd H10 fl (.lst [V.ref a]) = H11 at e11 T11 ea f11
      clear n10 T10 hfl
      -- put
      refine ⟨_, rfl, .inl ⟨rfl, _, SqL.of f11⟩, ?_⟩
      refine tLam_of (pv := pz) (o := o1) T11 (fun H2 Q' E' e2 h1 h2 => ?_) fun a1 H12 n12' T12 na ea1 => ?_
      · obtain ⟨w1, w2, w3, w4⟩ := vals (e11.trans e2)
        exact ⟨_, rfl, _, rfl, _, rfl, v, pz, rv, rows, d, row, rfl, w1, dp, w2, pz0, w3, hR.ok, fun u H' en s hu => h1 u H' _ (if_pos en) s hu, fun en => h2 (if_neg (by rw [en]; exact Bool.false_ne_true))⟩
      have na1 := nw e11 na
      have f12 := n12' _ _ f11 fun _ z => nomatch z
      have ea := ea.extN n12'
      have k13 := kp_upd (o := .lst ([V.ref a] ++ [V.ref a1])) f12
      have e13 := extN_upd (o := .lst ([V.ref a] ++ [V.ref a1])) (e11.trans n12') nfl
      have T13 := tabs_upd (o := .lst ([V.ref a] ++ [V.ref a1])) T12 (.inr ⟨_, f12⟩)
      have ea := ea.kp k13 rk0
      have ea1 := ea1.kp k13 rk1
      refine ⟨fl, [V.ref a], .ref a1, rfl, rfl, f12, by show 1 < sizeLine; decide, ?_⟩
      have f13 : upd H12 fl (.lst ([V.ref a] ++ [V.ref a1])) fl = some (.lst [V.ref a, V.ref a1]) := upd_same
      generalize upd H12 fl (.lst ([V.ref a] ++ [V.ref a1])) = H13 at e13 T13 ea ea1 f13
      clear T12 T11 e11 f11 f12 n12' na k13
      -- out
      refine ⟨_, rfl, .inl ⟨rfl, _, SqL.of f13⟩, ?_⟩
      refine tLam_of (pv := pz) (o := o2) T13 (fun H2 Q' E' e2 h1 h2 => ?_) fun a2 H14 n14' T14 na ea2 => ?_
      · obtain ⟨w1, w2, w3, w4⟩ := vals (e13.trans e2)
        exact ⟨_, rfl, _, rfl, v, pz, rows, d, rfl, w1, dp, w2, pz0, fun u H' en s hu => h1 u H' _ (if_pos en) s hu, fun en => h2 (if_neg (by rw [en]; exact Bool.false_ne_true))⟩
      have na2 := nw e13 na
      have f14 := n14' _ _ f13 fun _ z => nomatch z
      have ea := ea.extN n14'
      have ea1 := ea1.extN n14'
      have k15 := kp_upd (o := .lst ([V.ref a, V.ref a1] ++ [V.ref a2])) f14
      have e15 := extN_upd (o := .lst ([V.ref a, V.ref a1] ++ [V.ref a2])) (e13.trans n14') nfl
      have T15 := tabs_upd (o := .lst ([V.ref a, V.ref a1] ++ [V.ref a2])) T14 (.inr ⟨_, f14⟩)
      have ea := ea.kp k15 rk0
      have ea1 := ea1.kp k15 rk1
      have ea2 := ea2.kp k15 rk2
      refine ⟨fl, [V.ref a, V.ref a1], .ref a2, rfl, rfl, f14, by show 2 < sizeLine; decide, ?_⟩
      have f15 : upd H14 fl (.lst ([V.ref a, V.ref a1] ++ [V.ref a2])) fl = some (.lst [V.ref a, V.ref a1, V.ref a2]) := upd_same
      generalize upd H14 fl (.lst ([V.ref a, V.ref a1] ++ [V.ref a2])) = H15 at e15 T15 ea ea1 ea2 f15
      clear T14 T13 e13 f13 f14 n14' na k15
      -- changed
      refine ⟨_, rfl, .inl ⟨rfl, _, SqL.of f15⟩, ?_⟩
      refine tLam_of (pv := pz) (o := o3) T15 (fun H2 Q' E' e2 h1 h2 => ?_) fun a3 H16 n16' T16 na ea3 => ?_
      · obtain ⟨w1, w2, w3, w4⟩ := vals (e15.trans e2)
        exact ⟨_, rfl, _, rfl, _, rfl, v, pz, sv, rows, new, d, rfl, w1, dp, w2, pz0, w4, hN.ok, by omega, fun u H' en s hu => h1 u H' _ (if_pos en) s hu, fun en => h2 (if_neg (by rw [en]; exact Bool.false_ne_true))⟩
      have na3 := nw e15 na
      have f16 := n16' _ _ f15 fun _ z => nomatch z
      have ea := ea.extN n16'
      have ea1 := ea1.extN n16'
      have ea2 := ea2.extN n16'
      have k17 := kp_upd (o := .lst ([V.ref a, V.ref a1, V.ref a2] ++ [V.ref a3])) f16
      have e17 := extN_upd (o := .lst ([V.ref a, V.ref a1, V.ref a2] ++ [V.ref a3])) (e15.trans n16') nfl
      have T17 := tabs_upd (o := .lst ([V.ref a, V.ref a1, V.ref a2] ++ [V.ref a3])) T16 (.inr ⟨_, f16⟩)
      have ea := ea.kp k17 rk0
      have ea1 := ea1.kp k17 rk1
      have ea2 := ea2.kp k17 rk2
      have ea3 := ea3.kp k17 rk3
      refine ⟨fl, [V.ref a, V.ref a1, V.ref a2], .ref a3, rfl, rfl, f16, by show 3 < sizeLine; decide, ?_⟩
      have f17 : upd H16 fl (.lst ([V.ref a, V.ref a1, V.ref a2] ++ [V.ref a3])) fl = some (.lst [V.ref a, V.ref a1, V.ref a2, V.ref a3]) := upd_same
      generalize upd H16 fl (.lst ([V.ref a, V.ref a1, V.ref a2] ++ [V.ref a3])) = H17 at e17 T17 ea ea1 ea2 ea3 f17
      clear T16 T15 e15 f15 f16 n16' na k17
      have dl17 := e17 _ _ hdl8 fun _ z => nomatch z
      have hd17 := is_extN e17 hd8
      obtain ⟨q1, q2, q3⟩ := four_ok dsh dw ddp g0 g1 g2 g3
      have dist : ∀ {o : Option PyData} {e : V} {a : Addr}, EntAt H8 pz o e → (∀ b xs, H8 b = some (.tup xs) → b ≠ a) → V.ref a ≠ e := fun he h z => by
        obtain ⟨b, xs, eb, hb⟩ := he.ref
        rw [eb] at z
        cases z
        exact h _ _ hb rfl
      refine ⟨_, rfl, _, rfl, fl, dl, _, _, _, rfl, f17, dl17, .cons (pair_of ea (ee0.extN e17) (dist ee0 na0) hd17 fd g0) (.cons (pair_of ea1 (ee1.extN e17) (dist ee1 na1) hd17 fd g1) (.cons (pair_of ea2 (ee2.extN e17) (dist ee2 na2) hd17 fd g2) (.cons (pair_of ea3 (ee3.extN e17) (dist ee3 na3) hd17 fd g3) .nil))),
        .lst f17 (.cons (ent_is ea hd17) (.cons (ent_is ea1 hd17) (.cons (ent_is ea2 hd17) (.cons (ent_is ea3 hd17) .nil)))),
        .lst dl17 (.cons (ent_is (ee0.extN e17) hd17) (.cons (ent_is (ee1.extN e17) hd17) (.cons (ent_is (ee2.extN e17) hd17) (.cons (ent_is (ee3.extN e17) hd17) .nil)))), q1, q2, q3, ?_⟩
      refine ⟨_, rfl, iteF ⟨_, rfl, pz, d, rfl, hd17, dsh.1, by omega, dlen, _, rfl, q_nes ⟨_, rfl, if_b (fun e => ?_) (fun _ => ?_)⟩⟩⟩
      · rw [decide_eq_true rfl] at e
        cases e
      · exact ⟨_, _, rfl, e17, T17⟩
    · rintro _ H9 ⟨t6, t7, rfl, n9, T9⟩
      refine k H9 (bag_extN (hB6.same s8) n9) (fun b o nb e n => n9 _ _ (s8 _ _ (x6.keep _ _ nb e)) n) T9
end
end K14
set_option Elab.async false
set_option linter.all false
set_option maxRecDepth 100000
set_option maxHeartbeats 4000000
namespace K14
open PySem PySem.Spec L2 Quiet Gn Rw
open LamX (ExtN Tabs)

def spBagS (K : PySem.W.Frag) : Sp := fun vs H Q _ => ∃ (a : Addr) (ns : List Int), vs = [.ref a] ∧ SqL K H a (ns.map V.int) ∧ ∀ (p : Addr) (H' : Hp), Same H H' → Bag H' p → Q (.ref p) H'
theorem kit_noTb {H : Hp} {kt : Addr} {q : Kit} (h : KitAt H kt q) : KitAt (noTb H) kt q := by
  have tp : ∀ {a : Addr} {xs : List V}, H a = some (.tup xs) → noTb H a = some (.tup xs) := fun e => noTb_of e fun _ z => nomatch z
  refine ⟨noTb_of h.d (fun _ z => nomatch z), tp h.s, h.sl, fun v hv => ?_, tp h.a, h.al, h.an, tp h.w, h.wl, h.wn, tp h.e, h.el, h.en, tp h.l, h.ll, h.ln, tp h.c, h.cl, h.cn⟩
  obtain ⟨a, o, x, os, e, h1, h2, h3, h4⟩ := h.sv v hv
  exact ⟨a, o, x, os, e, tp h1, h2, tp h3, h4⟩
theorem kp_right {p : Addr} {H H' : Hp} (hB : Bag H p) (k : KeepR p H H') : Kp (noTb H) H' := fun b o e n => by
  obtain ⟨e1, n1⟩ := noTb_in e
  refine k b o (fun z => ?_) e1 n1
  obtain ⟨q, b0, b1, b2, cs, h1, _⟩ := hB
  rw [z, h1] at e1
  cases e1
  exact n _ rfl
def spLaw (K : PySem.W.Frag) (T0 : List (Addr × Str)) : Sp := fun vs H Q _ => ∃ (a : Addr) (ns : List Int), vs = [.ref a] ∧ SqL K H a (ns.map V.int) ∧ Tabs T0 H ∧ ∀ H', Q (.bl true) H'
section
variable {P : Program} {w : World} {K : PySem.W.Frag} {mg : Str → Option Value} {base : Heap} {A : Ad} {D : Fd} {C F : Addr}
theorem ok_bagS (T : Txt K mg A D) : FnOk P w K mg base CX0 1 A._law_bag D._law_bag ["script"] (spBagS K) := by
  refine T.f__law_bag.ok sc__law_bag (fun vs H Q E h => ?_) (fun cdv AA outer s H vs Q E hr h => ?_)
  · obtain ⟨a, ns, rfl, _⟩ := h
    rfl
  · obtain ⟨a, ns, rfl, hs, k⟩ := h
    refine ⟨_, (pss_one (ps_ret (pe_lst (pa_cons pe_int (pa_cons pe_int (pa_cons pe_int (pa_cons (pe_lc (own := [("cell", 1)]) rfl sc__law_bag.nd (pi_list (pe_slice (slK K rfl) (pv 0) po_none (po_some pe_int))) (blkOk_by (own := [("cell", 1)]) (N := n__law_bag) (sc := defScope s__law_bag) (by decide +kernel)) (fun _ _ _ _ _ => (pg_name (i := 1) sc__law_bag.nd rfl (Or.inl rfl))) (fun _ _ _ _ _ => pts_nil) (fun _ _ _ _ _ => (pe_callB call_abs (by rfl) T.b_abs (by decide +kernel) (pa_cons (pv 1) pa_nil)))) pa_nil))))))), ?_⟩
    refine ⟨_, rfl, _, rfl, .inl ⟨a, _, rfl, hs, fun p1 hp1 => ?_⟩⟩
    obtain ⟨ms, em, lm⟩ : ∃ ms : List Int, cutV (ns.map V.int) none (some 63) = ms.map V.int ∧ ms.length ≤ 63 := by
      refine ⟨(ns.drop (HT.sIx (ns.map V.int).length 0 none)).take (HT.sIx (ns.map V.int).length (ns.map V.int).length (some 63) - HT.sIx (ns.map V.int).length 0 none), ?_, ?_⟩
      · unfold cutV
        rw [← List.map_drop, ← List.map_take]
      · refine Nat.le_trans (List.length_take_le _ _) ?_
        show HT.sIx (ns.map V.int).length (ns.map V.int).length (some 63) - 0 ≤ 63
        unfold HT.sIx
        simp
        omega
    rw [em]
    refine ⟨p1, rfl, ⟨_, SqL.of upd_same⟩, fun Dd hDd => ?_⟩
    refine comp_map (G := fun H => SqL K H p1 (ms.map V.int)) (Y := YAt (ms.map V.int)) ms (fun c => V.int (if c < 0 then -c else c)) (by have := walk_list (K := K) (a := p1) (xs := ms.map V.int); rwa [List.length_map] at this) hDd (sz2 (by omega)) (fun H' s' => SqL.of (s' _ _ upd_same)) ?_ ?_
    · rintro i c y H1 H2 R hi s1 ⟨rfl, hx⟩ hR
      have ey : y = .int c := by
        rw [List.getElem?_map, hi] at hx
        exact (Option.some.inj hx).symm
      subst ey
      exact ⟨rfl, _, rfl, c, rfl, hR _ (Same.refl _)⟩
    · intro H1 s1 hl
      refine ⟨by show 4 ≤ sizeLine; decide, fun p hp => ?_⟩
      have nDp : Dd ≠ p := ne_of_none hl hp
      refine k p _ (((same_upd hp1).trans s1).trans (same_upd hp)) ⟨Dd, 0, 1234567891, 0, ms.map fun c => if c < 0 then -c else c, upd_same, ?_, by decide, by decide, by decide, by decide, by rw [List.length_map]; exact lm, ?_⟩
      · rw [upd_ne nDp, hl, List.map_map]
        rfl
      · intro c hc
        obtain ⟨z, _, rfl⟩ := List.mem_map.mp hc
        split <;> omega
theorem ok_law (T : Txt K mg A D) (T2 : Tcl K mg A D C F) (hm : HasMods base) {c PT : Addr} {T0 : List (Addr × Str)} (hcR : D._law_right.code = .ref c) (TB : LamX.TabB base mg c PT) (hmT : (PT, lamQ) ∈ T0) (hu : ∀ p ∈ T0, p.1 = PT → p.2 = lamQ) :
    Keeps P w K mg base 30 A.law D.law ["script"] (spLaw K T0) := by
  refine keeps_of T.f_law sc_law (fun vs H Q E h => ?_) (fun cdv AA outer s H vs Q E hq hr h => ?_)
  · obtain ⟨a, ns, rfl, _⟩ := h
    rfl
  · obtain ⟨a, ns, rfl, hs, hT, k⟩ := h
    refine ⟨_, (pss_cons (ps_set (i := 1) sc_law.nd rfl (Or.inl rfl) (by exact (pe_call (ok_bagS T) (hr.mono (by decide)) rfl T.m__law_bag T.f__law_bag.kp (b__law_bag T) .nil pass0 (pa_cons (pv 0) pa_nil))))
  (pss_cons (ps_for PassesOwn.never rfl (pi_range1 rfl T.b_range (pa_cons pe_int pa_nil)) (pg_name (i := 2) sc_law.nd rfl (Or.inl rfl))
 (pss_cons (ps_set (i := 3) sc_law.nd rfl (Or.inl rfl) (by exact (pe_call (ok__law_free_kit T) (hr.mono (by decide)) rfl T.m__law_free_kit T.f__law_free_kit.kp (b__law_free_kit T) .nil pass0 (pa_cons (pv 1) pa_nil))))
  (pss_cons (ps_set (i := 4) sc_law.nd rfl (Or.inl rfl) (by exact (pe_call (draws_n T 5).2 (hr.mono (by decide)) rfl T.m__law_rows T.f__law_rows.kp (b__law_rows T) .nil pass0 (pa_cons (pv 1) (pa_cons (pv 3) (pa_cons (pe_ix (ixK K rfl) (pe_lst (pa_cons pe_int (pa_cons pe_int (pa_cons pe_int (pa_cons pe_int pa_nil))))) (pv 2) (fun _ _ => rfl)) (pa_cons (pe_call (ok__law_take T) (hr.mono (by decide)) rfl T.m__law_take T.f__law_take.kp (b__law_take T) .nil pass0 (pa_cons (pv 1) (pa_cons pe_int pa_nil))) (pa_cons (pe_lst pa_nil) pa_nil))))))))
  (pss_one (ps_for PassesOwn.never rfl (pi_range1 rfl T.b_range (pa_cons pe_int pa_nil)) (pg_name (i := 5) sc_law.nd rfl (Or.inl rfl))
 (pss_one (ps_if (pt_not (pt_val (pe_quiet (ok__law_right T T2 hm hcR TB hmT hu) hq (hr.mono (by decide)) rfl T.m__law_right T.f__law_right.kp (b__law_right T) (pa_cons (pv 1) (pa_cons (pv 3) (pa_cons (pv 4) (pa_cons (pe_call (ok__law_place T) (hr.mono (by decide)) rfl T.m__law_place T.f__law_place.kp (b__law_place T) .nil pass0 (pa_cons (pv 1) (pa_cons (pv 4) pa_nil))) pa_nil))))))) (pss_one (ps_ret pe_bl)) pss_nil)))))))
  (pss_one (ps_ret pe_bl)))), ?_⟩
    refine ⟨_, rfl, a, ns, rfl, hs, fun p H1 s1 hB1 => ?_⟩
    have hT1 : Tabs T0 H1 := hT.ext fun b o e => s1 b o e
    refine ⟨4, rfl, by decide, by decide, for_range (fun i σ H' => ∃ (t2 t3 t4 t5 : Option V), σ = [some (.ref a), some (.ref p), t2, t3, t4, t5] ∧ Bag H' p ∧ Tabs T0 H') ⟨_, _, _, _, rfl, hB1, hT1⟩ ?_ ?_⟩
    · rintro i _ H2 hi ⟨t2, t3, t4, t5, rfl, hB2, hT2⟩
      refine ⟨_, rfl, p, rfl, hB2, fun kt q H3 hK3 x3 => ?_⟩
      have hT3 := tabs_bag hT2 hB2 x3
      have hD : ∀ {H' : Hp} {l : Addr}, Ext p H3 H' → H' l = none → Draw (upd H' l (.lst [])) p kt l q [] := fun {H' l} x hl =>
        ⟨x.bag.same (same_upd hl), (hK3.keep (kp_ext x3.bag x)).keep (kp_same (same_upd hl)), ⟨[], upd_same, .nil, Nat.zero_le _, fun _ h => nomatch h⟩, x.bag.ne hl⟩
      refine ⟨_, rfl, _, rfl, by show 4 ≤ sizeLine; decide, fun l1 hl1 => ?_⟩
      have s4 := same_upd (o := .lst [V.int 14, .int 8, .int 3, .int 14]) hl1
      obtain ⟨z, hz, z1⟩ : ∃ z : Int, [V.int 14, .int 8, .int 3, .int 14][i]? = some (.int z) ∧ z ≤ 14 := by
        match i, hi with
        | 0, _ => exact ⟨14, rfl, by decide⟩
        | 1, _ => exact ⟨8, rfl, by decide⟩
        | 2, _ => exact ⟨3, rfl, by decide⟩
        | 3, _ => exact ⟨14, rfl, by decide⟩
      refine ⟨_, rfl, q_ix (i := i) (.inl (SqL.of upd_same)) (by omega) hz ?_⟩
      refine ⟨_, rfl, p, 5, rfl, by decide, by decide, x3.bag.same s4, fun dv H5 d0 d1 x5' => ⟨Nat.zero_le _, fun l2 hl2 => ?_⟩⟩
      have x5 := (Ext.same x3.bag s4).trans x5'
      refine ⟨p, kt, l2, z, dv, q, [], rfl, hD x5 hl2, by decide, by decide, by omega, d0, (show dv ≤ (4 : Int) by omega), fun v rows H6 hrv hR x6' => ?_⟩
      have x6 := (x5.then (same_upd (o := .lst []) hl2)).trans x6'
      have hK6 := hK3.keep (kp_ext x3.bag x6)
      have hT6 := tabs_bag hT3 x3.bag x6
      have w6 : PyData.weightAll rows ≤ 2800 := by
        have h1 := hR.wt
        have h2 := hR.size
        omega
      have zz : szs rows ≤ 14 := by
        have h2 := hR.size
        omega
      have hv6 : RowsAt H6 v rows := ⟨hrv, hR.ok, by
        show (PyData.tuple rows).weight ≤ 1000000
        simp only [PyData.weight]
        omega⟩
      refine ⟨9, rfl, by decide, by decide, for_range (fun i' σ H' => ∃ (t5 : Option V), σ = [some (.ref a), some (.ref p), some (.int (0 + (i : Int))), some (.ref kt), some v, t5] ∧ Bag H' p ∧ Tabs T0 H' ∧ KitAt H' kt q ∧ RowsAt H' v rows) ⟨_, rfl, x6.bag, hT6, hK6, hv6⟩ ?_ ?_⟩
      · rintro j _ H7 hj ⟨t5, rfl, hB7, hT7, hK7, hv7⟩
        refine ⟨_, rfl, _, rfl, _, rfl, _, rfl, _, rfl, p, v, rows, rfl, hB7, hv7, hR.deep, by omega, fun pu H8 hp8 x8 => ?_⟩
        have kp8 := kp_ext hB7 x8
        have hv8 : RowsAt H8 v rows := ⟨rows_keep kp8 hv7.2.1 hv7.1, hv7.2⟩
        have hK8 := hK7.keep kp8
        refine ⟨p, kt, q, v, pu, rows, rfl, x8.bag, hK8, hv8, hR.deep, by omega, hp8, tabs_bag hT7 hB7 x8, fun H9 hB9 k9 hT9 => ⟨_, rfl, iteF ?_⟩⟩
        have kk := kp_right x8.bag k9
        exact ⟨_, rfl, hB9, hT9, (kit_noTb hK8).keep kk, ⟨rows_keep kk hv8.2.1 (is_extN (noTb_ext _) hv8.1), hv8.2⟩⟩
      · rintro _ H7 ⟨t5, rfl, hB7, hT7, hK7, hv7⟩
        exact ⟨_, _, _, _, rfl, hB7, hT7⟩
    · rintro _ H2 ⟨t2, t3, t4, t5, rfl, hB2, hT2⟩
      exact k H2
end
end K14
set_option Elab.async false
set_option linter.all false
set_option maxRecDepth 100000
set_option maxHeartbeats 2000000
/-! ## What the written part says of a class of errors, from few looks -/
namespace Kf
open PySem PySem.Spec PyProof.Rows L2
open PySem.W (Frag)
/-- a namespace has none of these names -/
def bare (K : Frag) (ns : Addr) (l : List Str) : Bool := match K.lookup ns with
  | some ⟨_, _, .dict es _, _⟩ => es.toList.all fun e => !e.refKey && l.all fun x => !e.key.isStr x
  | _ => false
theorem bare_ok {K : Frag} {ns : Addr} {l : List Str} (h : bare K ns l = true) {x : Str} (hx : x ∈ l) : PySem.W.nsIn K ns x = some none := by
  unfold bare at h
  unfold PySem.W.nsIn
  split at h
  · rename_i c d es n sl e
    have key : ∀ u ∈ es.toList, u.refKey = false ∧ u.key.isStr x = false := fun u hu => by
      obtain ⟨h1, h2⟩ := Bool.and_eq_true_iff.mp (List.all_eq_true.mp h u hu)
      have h3 := List.all_eq_true.mp h2 x hx
      refine ⟨?_, ?_⟩
      · cases q : u.refKey with
        | false => rfl
        | true => rw [q] at h1; cases h1
      · cases q : u.key.isStr x with
        | false => rfl
        | true => rw [q] at h3; cases h3
    have e1 : es.toList.find? (fun u => u.key.isStr x) = none := List.find?_eq_none.mpr fun u hu => by rw [(key u hu).2]; decide
    have e2 : es.toList.any (fun u => u.refKey) = false := by
      rw [List.any_eq_false]
      intro u hu
      rw [(key u hu).1]
      decide
    rw [e]
    first | rw [e1] | (dsimp only; rw [e1])
    show (if es.toList.any (fun u => u.refKey) = true then none else some none) = some none
    rw [e2]
    rfl
  · cases h
def tl : List Value := [.type "ValueError", .type "Exception", .type "BaseException", .type "object"]
def isTl : List Value → Bool
  | [.type a, .type b, .type c, .type d] => decide (a = "ValueError") && (decide (b = "Exception") && (decide (c = "BaseException") && decide (d = "object")))
  | _ => false
theorem isTl_ok {l : List Value} (h : isTl l = true) : l = tl := by
  unfold isTl at h
  split at h
  · rename_i a b c d
    obtain ⟨h1, h⟩ := Bool.and_eq_true_iff.mp h
    obtain ⟨h2, h⟩ := Bool.and_eq_true_iff.mp h
    obtain ⟨h3, h4⟩ := Bool.and_eq_true_iff.mp h
    rw [of_decide_eq_true h1, of_decide_eq_true h2, of_decide_eq_true h3, of_decide_eq_true h4]
    rfl
  · cases h
/-- a class made in the text, its namespace without these names -/
def faceB (K : Frag) (F : Addr) (l : List Str) : Bool := match K.lookup F with
  | some ⟨.type c, _, .cls cd, _⟩ => decide (c = "type") && bare K cd.ns l
  | _ => false
/-- .. an error: itself, FaceError, ValueError's -/
def errB (K : Frag) (F C : Addr) (l : List Str) : Bool := match K.lookup C with
  | some ⟨.type c, _, .cls cd, sl⟩ => (match cd.mro with
    | .ref b :: .ref g :: r => decide (b = C) && (decide (g = F) && isTl r)
    | _ => false) && ((match sl.toList with
    | [_, _, _, _, some (.builtin n), _] => decide (n = "ValueError.__new__")
    | _ => false) && (decide (c = "type") && (cd.hasDict && (!cd.hasDel && bare K cd.ns l))))
  | _ => false
/-- what follows -/
structure Err (K : Frag) (F C : Addr) (l : List Str) : Prop where
  at_ : ∃ (cd : ClassData) (d : Option Addr) (k0 k1 k2 k3 k5 : Option Value), K.lookup C = some ⟨.type "type", d, .cls cd, #[k0, k1, k2, k3, some (.builtin "ValueError.__new__"), k5]⟩ ∧ cd.mro = .ref C :: .ref F :: tl ∧ cd.hasDict = true ∧ cd.hasDel = false ∧
    ∀ x ∈ l, PySem.W.nsIn K cd.ns x = some none
structure Face (K : Frag) (F : Addr) (l : List Str) : Prop where
  at_ : ∃ (cd : ClassData) (d : Option Addr) (sl : Array (Option Value)), K.lookup F = some ⟨.type "type", d, .cls cd, sl⟩ ∧ ∀ x ∈ l, PySem.W.nsIn K cd.ns x = some none
theorem face_ok {K : Frag} {F : Addr} {l : List Str} (h : faceB K F l = true) : Face K F l := by
  unfold faceB at h
  split at h
  · rename_i c d cd sl e
    obtain ⟨h1, h2⟩ := Bool.and_eq_true_iff.mp h
    rw [of_decide_eq_true h1] at e
    exact ⟨cd, d, sl, e, fun x hx => bare_ok h2 hx⟩
  · cases h
theorem err_ok {K : Frag} {F C : Addr} {l : List Str} (h : errB K F C l = true) : Err K F C l := by
  unfold errB at h
  split at h
  · rename_i c d cd sl e
    obtain ⟨h1, h⟩ := Bool.and_eq_true_iff.mp h
    obtain ⟨h2, h⟩ := Bool.and_eq_true_iff.mp h
    obtain ⟨h3, h⟩ := Bool.and_eq_true_iff.mp h
    obtain ⟨h4, h⟩ := Bool.and_eq_true_iff.mp h
    obtain ⟨h5, h6⟩ := Bool.and_eq_true_iff.mp h
    have hd : cd.hasDel = false := by
      cases q : cd.hasDel with
      | false => rfl
      | true => rw [q] at h5; cases h5
    split at h1
    · rename_i b g r em
      obtain ⟨g1, g2⟩ := Bool.and_eq_true_iff.mp h1
      obtain ⟨g3, g4⟩ := Bool.and_eq_true_iff.mp g2
      rw [of_decide_eq_true g1, of_decide_eq_true g3, isTl_ok g4] at em
      split at h2
      · rename_i k0 k1 k2 k3 n k5 es
        rw [of_decide_eq_true h2] at es
        have es2 : sl = #[k0, k1, k2, k3, some (.builtin "ValueError.__new__"), k5] := Array.toList_inj.mp es
        rw [of_decide_eq_true h3, es2] at e
        exact ⟨cd, d, k0, k1, k2, k3, k5, e, em, h4, hd, fun x hx => bare_ok h6 hx⟩
      · cases h2
    · cases h1
  · cases h
section
variable {K : Frag} {F C : Addr} {l lF : List Str}
theorem along_skip {x : Str} {c : Value} {r : List Value} (h : PySem.W.ownIn K x c = some none) : PySem.W.alongIn K x (c :: r) = PySem.W.alongIn K x r := by
  show (match PySem.W.ownIn K x c with
    | some (some v) => some (some v)
    | some none => PySem.W.alongIn K x r
    | none => none) = _
  rw [h]
theorem Err.find (e : Err K F C l) (f : Face K F lF) {x : Str} (h1 : x ∈ l) (h2 : x ∈ lF) : PySem.W.findIn K (.ref C) x = PySem.W.alongIn K x tl := by
  obtain ⟨cd, d, k0, k1, k2, k3, k5, hC, hm, _, _, hn⟩ := e.at_
  obtain ⟨cf, df, sf, hF, hf⟩ := f.at_
  have o1 : PySem.W.ownIn K x (.ref C) = some none := by
    show (match K.lookup C with
      | some ⟨_, _, .cls cd, _⟩ => PySem.W.nsIn K cd.ns x
      | _ => none) = _
    rw [hC]
    exact hn x h1
  have o2 : PySem.W.ownIn K x (.ref F) = some none := by
    show (match K.lookup F with
      | some ⟨_, _, .cls cd, _⟩ => PySem.W.nsIn K cd.ns x
      | _ => none) = _
    rw [hF]
    exact hf x h2
  show (match K.lookup C with
    | some ⟨_, _, .cls cd, _⟩ => PySem.W.alongIn K x cd.mro
    | _ => none) = _
  rw [hC]
  show PySem.W.alongIn K x cd.mro = _
  rw [hm, along_skip o1, along_skip o2]
theorem Err.cls (e : Err K F C l) : ∃ cd, PySem.W.clsIn K C = some cd ∧ cd.mro = .ref C :: .ref F :: tl ∧ cd.hasDict = true := by
  obtain ⟨cd, d, k0, k1, k2, k3, k5, hC, hm, hd, _, _⟩ := e.at_
  refine ⟨cd, ?_, hm, hd⟩
  unfold PySem.W.clsIn
  rw [hC]
theorem Err.ty (e : Err K F C l) : PySem.W.typeIn K (.ref C) = some (.type "type") := by
  obtain ⟨cd, d, k0, k1, k2, k3, k5, hC, _⟩ := e.at_
  show (K.lookup C).map (·.cls) = _
  rw [hC]
  rfl
theorem Face.ty (f : Face K F lF) : PySem.W.typeIn K (.ref F) = some (.type "type") := by
  obtain ⟨cf, df, sf, hF, hf⟩ := f.at_
  show (K.lookup F).map (·.cls) = _
  rw [hF]
  rfl
theorem Face.cls (f : Face K F lF) : ∃ cd, PySem.W.clsIn K F = some cd := by
  obtain ⟨cf, df, sf, hF, hf⟩ := f.at_
  refine ⟨cf, ?_⟩
  unfold PySem.W.clsIn
  rw [hF]
theorem Err.mro (e : Err K F C l) (b : Value) : PySem.W.subIn K (.ref C) b = some ((Value.ref C :: Value.ref F :: tl).contains b) := by
  obtain ⟨cd, hc, hm, _⟩ := e.cls
  show PySem.W.mroIn K C b = _
  unfold PySem.W.mroIn
  rw [hc]
  show (if cd.mro.isEmpty then none else some (cd.mro.contains b)) = _
  rw [hm]
  rfl
theorem cont_ty (b : String) (h : tl.contains (.type b) = true) : (Value.ref C :: Value.ref F :: tl).contains (.type b) = true := by
  rw [List.contains_cons, List.contains_cons, h, Bool.or_true, Bool.or_true]
theorem Err.sub (e : Err K F C l) (b : String) (h : tl.contains (.type b) = true := by kernel_rfl) : PySem.W.subIn K (.ref C) (.type b) = some true := by
  rw [e.mro, cont_ty b h]
theorem Err.keep (e : Err K F C l) : PySem.W.keepIn K (.ref C) = true := by
  obtain ⟨cd, d, k0, k1, k2, k3, k5, hC, _⟩ := e.at_
  show (match K.lookup C with
      | some ⟨_, _, .func _, _⟩ => true
      | some ⟨_, _, .cls _, _⟩ => PySem.W.specialIn K (.ref C) "__call__" == some (some (.builtin "type.__call__"))
      | _ => false) = true
  rw [hC]
  show (PySem.W.specialIn K (.ref C) "__call__" == some (some (.builtin "type.__call__"))) = true
  have h1 : PySem.W.specialIn K (.ref C) "__call__" = PySem.W.findIn K (.type "type") "__call__" := by
    unfold PySem.W.specialIn
    rw [e.ty]
    rfl
  rw [h1]
  have h2 : PySem.W.findIn K (.type "type") "__call__" = some (some (.builtin "type.__call__")) := by kernel_rfl
  rw [h2]
  kernel_rfl
theorem Err.dict (e : Err K F C l) : PySem.W.hasDictIn K C = true := by
  obtain ⟨cd, hc, _, hd⟩ := e.cls
  unfold PySem.W.hasDictIn
  rw [hc]
  exact hd
theorem al_sa : PySem.W.alongIn K "__setattr__" tl = some (some (.builtin "object.__setattr__")) := by kernel_rfl
theorem al_ga : PySem.W.alongIn K "__getattribute__" tl = some (some (.builtin "BaseException.__getattribute__")) := by kernel_rfl
theorem al_gg : PySem.W.alongIn K "__getattr__" tl = some none := by kernel_rfl
theorem al_cl : PySem.W.alongIn K "__class__" tl = some (some (.builtin "object.__class__")) := by kernel_rfl
def spec : List Str := ["__setattr__", "__getattribute__", "__getattr__", "__class__"]
theorem refs_tl : PySem.HandSPX.refsVE (.ref F :: tl) = true := by
  show PySem.HandSPX.refsVE tl = true
  kernel_rfl
theorem Err.oex (e : Err K F C l) (f : Face K F lF) (h1 : ("__setattr__" : Str) ∈ l) (h2 : ("__setattr__" : Str) ∈ lF) : OexC K C := by
  have e0 := e
  obtain ⟨cd, d, k0, k1, k2, k3, k5, hC, hm, hd, hdel, _⟩ := e.at_
  refine ⟨?_, by rw [e0.find f h1 h2]; exact al_sa, e0.sub "BaseException", e0.ty, e0.keep⟩
  obtain ⟨nm, bs, mro, N, q, hdct, sn, sub, ab, col, dl⟩ := cd
  dsimp only at hm hd hdel
  subst hm hd hdel
  exact ⟨nm, q, N, bs, _, sn, sub, ab, col, d, k0, k1, k2, k3, k5, hC, refs_tl⟩
theorem Err.exc (e : Err K F C l) (f : Face K F lF) (h1 : ∀ x ∈ spec, x ∈ l) (h2 : ∀ x ∈ spec, x ∈ lF) : ExcC K C := by
  refine ⟨?_, ?_, e.sub "BaseException", e.dict, ?_, ?_, ?_, ?_⟩
  · rw [e.find f (h1 _ (by decide +kernel)) (h2 _ (by decide +kernel))]; exact al_ga
  · rw [e.find f (h1 _ (by decide +kernel)) (h2 _ (by decide +kernel))]; exact al_gg
  · rw [e.find f (h1 _ (by decide +kernel)) (h2 _ (by decide +kernel))]; exact al_cl
  · kernel_rfl
  · kernel_rfl
  · have z := e.sub "object"
    exact z
theorem Err.xf (e : Err K F C l) (f : Face K F lF) (h1 : ∀ x ∈ spec, x ∈ l) (h2 : ∀ x ∈ spec, x ∈ lF) : XfC K C := by
  have z := e.exc f h1 h2
  exact ⟨z.hg, z.hk, z.hs, z.hd⟩
theorem Err.kitV (e : Err K F C l) : PySem.W.kitOne K (.ref C) (.type "ValueError") = some true := by
  have n1 : ((Value.ref C) == (Value.type "ValueError")) = false := rfl
  unfold PySem.W.kitOne
  rw [n1, if_neg (by decide)]
  show (if PySem.W.kitMeta "ValueError" = true then PySem.W.subIn K (.ref C) (.type "ValueError") else none) = _
  rw [if_pos (by kernel_rfl), e.sub "ValueError"]
theorem kit_ref {t : Value} {D : Addr} (hne : (t == Value.ref D) = false) (hc : ∃ cd, PySem.W.clsIn K D = some cd) (ht : PySem.W.typeIn K (.ref D) = some (.type "type")) : PySem.W.kitOne K t (.ref D) = PySem.W.subIn K t (.ref D) := by
  obtain ⟨cd, hcd⟩ := hc
  unfold PySem.W.kitOne
  rw [hne, if_neg (by decide)]
  show (if ((PySem.W.clsIn K D).isSome && PySem.W.typeIn K (.ref D) == some (.type "type")) = true then PySem.W.subIn K t (.ref D) else none) = _
  rw [if_pos (by rw [hcd, ht]; rfl)]
theorem ref_ne {a b : Addr} (h : a ≠ b) : ((Value.ref a) == (Value.ref b)) = false := by
  rw [beq_eq_false_iff_ne]
  exact fun q => h (Value.ref.inj q)
theorem ref_eq {a : Addr} : ((Value.ref a) == (Value.ref a)) = true := beq_self_eq_true _
theorem tl_ref {a : Addr} : tl.contains (.ref a) = false := rfl
theorem Err.kitF (e : Err K F C l) (f : Face K F lF) (h : C ≠ F) : PySem.W.kitOne K (.ref C) (.ref F) = some true := by
  rw [kit_ref (ref_ne h) f.cls f.ty, e.mro, List.contains_cons, List.contains_cons, ref_eq, Bool.true_or, Bool.or_true]
theorem Err.kit_ne {D : Addr} {l2 : List Str} (e : Err K F C l) (e2 : Err K F D l2) (h : C ≠ D) (h2 : D ≠ F) : PySem.W.kitOne K (.ref C) (.ref D) = some false := by
  obtain ⟨cd, hc, _, _⟩ := e2.cls
  rw [kit_ref (ref_ne h) ⟨cd, hc⟩ e2.ty, e.mro, List.contains_cons, List.contains_cons, ref_ne (Ne.symm h), ref_ne h2, tl_ref]
  rfl
theorem kit_eq {t : Value} : PySem.W.kitOne K t t = some true := by
  unfold PySem.W.kitOne
  rw [if_pos (beq_self_eq_true _)]
end
/-- one address behind the other -/
def ascB : List Addr → Bool
  | a :: b :: r => Nat.blt a b && ascB (b :: r)
  | _ => true
theorem ascB_lt : ∀ {l : List Addr}, ascB l = true → l.Pairwise (· < ·)
  | [], _ => .nil
  | [a], _ => List.pairwise_singleton _ _
  | a :: b :: r, h => by
    obtain ⟨h1, h2⟩ := Bool.and_eq_true_iff.mp (show (Nat.blt a b && ascB (b :: r)) = true from h)
    have ih := ascB_lt h2
    have h3 : a < b := Nat.le_of_ble_eq_true h1
    refine List.pairwise_cons.mpr ⟨fun c hc => ?_, ih⟩
    rcases List.mem_cons.mp hc with e | m
    · rw [e]; exact h3
    · exact Nat.lt_trans h3 ((List.pairwise_cons.mp ih).1 c m)
end Kf
set_option Elab.async false
set_option linter.all false
set_option maxRecDepth 100000
set_option maxHeartbeats 2000000
/-! ## The end of a law that makes lambdas: tables of code objects stand empty at its start -/
namespace Quiet
open PySem PySem.Spec PyProof.Rows L2
section
variable {P : Program} {w : World} {K : PySem.W.Frag} {mg mb : Str → Option Value} {k : Nat} {fa a : Addr} {fd : FuncData} {x : Str} {sp : Sp} {s₁ : Shared} {vs : List Value} {ns : List Int} {cs : List (Addr × Addr)}
abbrev emptyO : Obj := { cls := .none, data := .fields #[] }
/-- what the heap ahead of the call tells of its tables -/
structure TabsAhead (cs : List (Addr × Addr)) (K : PySem.W.Frag) (h : Heap) : Prop where
  at_ : ∀ p ∈ cs, h.get? p.2 = some emptyO
  out : ∀ p ∈ cs, K.lookup p.2 = none
  code : ∀ p ∈ cs, PySem.W.CodeHd h p.1 p.2

theorem law_tabs (KX : K.In s₁.heap) (g0 : s₁.heap.Ns mainGlobals mg) (b0 : s₁.heap.Ns builtinsNs mb) (bb : ∀ y : Str, y ≠ "__name__" → mb y = bootBuiltins y) (lim : s₁.heap.NoLimit) (bare : s₁.gens = #[])
    (mods : ∃ mm, s₁.heap.Ns sysModules mm) (TA : TabsAhead cs K s₁.heap)
    (bm : ∃ (m : Addr) (ob : Obj), mg "__builtins__" = some (.ref m) ∧ m ≠ builtinsNs ∧ s₁.heap.get? m = some ob ∧ ob.cls = .type "module" ∧ ob.dict = some builtinsNs ∧ ob.data = .plain)
    (ha : s₁.heap.get? a = some { cls := .type "list", data := .seq vs.toArray }) (hr : Room k callerA)
    (F : ∀ base : Heap, K.In base → base.Ns mainGlobals mg → HasMods base → (∀ p ∈ cs, LamX.TabB base mg p.1 p.2) → Keeps P w K mg base k fa fd [x] sp) (bind : ∀ (s : Shared) (u : Value), BindsTo s fd ⟨[u], []⟩ [(x, u)])
    (H : Hp) (only : ∀ b, H b = none ∨ (b = a ∧ ∃ o xs, H b = some (.frz o (.lst xs))) ∨ ((∃ p ∈ cs, b = p.2) ∧ H b = some (.tbl #[]))) (hok : HOk P w H s₁.heap) (hK : H a ≠ none → K.lookup a = none) (tr : ∀ p ∈ cs, H p.2 = some (.tbl #[]))
    (hsp : sp [.ref a] H (fun v _ => v = .bl true) fun _ _ _ => False) :
    codeAny (model P w) callerA (.call (.ref fa) ⟨[.ref a], []⟩) (LawEnd s₁) s₁ := by
  have untr : ∀ {b : Addr} {o : Obj}, s₁.heap.get? b = some o → (∀ us n, o.data ≠ .seq us n) → o.cls ≠ .none → H b = none := by
    intro b o e h1 h2
    rcases only b with z | ⟨z, _⟩ | ⟨⟨p, hp, z⟩, _⟩
    · exact z
    · rw [z, ha] at e
      cases e
      exact absurd rfl (h1 _ _)
    · rw [z, TA.at_ p hp] at e
      cases e
      exact absurd rfl h2
  have untrD : ∀ {b : Addr} {o : Obj} {es : Array DictEntry} {ep : Nat}, s₁.heap.get? b = some o → o.data = .dict es ep → H b = none := by
    intro b o es ep e d
    rcases only b with z | ⟨z, _⟩ | ⟨⟨p, hp, z⟩, _⟩
    · exact z
    · rw [z, ha] at e
      cases e
      cases (show Data.seq vs.toArray _ = Data.dict es ep from d)
    · rw [z, TA.at_ p hp] at e
      cases e
      cases (show Data.fields #[] = Data.dict es ep from d)
  have ns_of : ∀ {b : Addr} {m : Str → Option Value}, s₁.heap.Ns b m → (hidT s₁.heap H).Ns b m := by
    rintro b m ⟨o, es, ep, e, d, r⟩
    exact ⟨o, es, ep, hidT_get e (untrD e d), d, r⟩
  have kb : K.In (hidT s₁.heap H) := by
    intro b o e
    refine hidT_get (KX b o e) ?_
    rcases only b with z | ⟨z, _⟩ | ⟨⟨p, hp, z⟩, _⟩
    · exact z
    · cases q : H b with
      | none => rfl
      | some u =>
        have := hK (by rw [← z, q]; simp)
        rw [← z, e] at this
        cases this
    · rw [z, TA.out p hp] at e
      cases e
  have hmods : HasMods (hidT s₁.heap H) := by
    obtain ⟨mm, hm⟩ := mods
    obtain ⟨o, _, _, e, _⟩ := ns_of hm
    exact ⟨o, e⟩
  have md : Mod K mg (hidT s₁.heap H) := ⟨kb, ns_of g0, ⟨mb, ns_of b0, bb⟩, by
    obtain ⟨mc, h1, h2⟩ := lim
    exact ⟨mc, ns_of h1, h2⟩⟩
  have noG : ∀ {b : Addr} {o : Obj}, s₁.heap.get? b = some o → (∀ es ep, o.data ≠ .dict es ep) → b ≠ mainGlobals := by
    intro b o e h z
    obtain ⟨o', es, ep, e', d, _⟩ := g0
    rw [z, e'] at e
    cases e
    exact h _ _ d
  have TB : ∀ p ∈ cs, LamX.TabB (hidT s₁.heap H) mg p.1 p.2 := by
    intro p hp
    refine ⟨?_, ?_, fun z => ?_⟩
    · obtain ⟨o, us, file, tf, flags, tg, inF, text, tt, e1, r1, r2, r⟩ := TA.code p hp
      refine ⟨o, us, file, tf, flags, tg, inF, text, tt, hidT_get e1 (untr e1 (fun _ _ z => ?_) fun z => ?_), r1, r2, r⟩
      · rw [r2] at z
        cases z
      · rw [r1] at z
        cases z
    · obtain ⟨m, ob, b1, b2, b3, b4, b5, b6⟩ := bm
      refine ⟨m, ob, b1, b2, noG b3 fun _ _ z => ?_, fun z => ?_, hidT_get b3 (untr b3 (fun _ _ z => ?_) fun z => ?_), b4, b5, b6⟩
      · rw [b6] at z
        cases z
      · rw [z, TA.at_ p hp] at b3
        cases b3
        cases b6
      · rw [b6] at z
        cases z
      · rw [b4] at z
        cases z
    · exact noG (TA.at_ p hp) (fun _ _ q => by cases q) z.symm
  have e0 : Env0 P w K mg (hidT s₁.heap H) callerA [] s₁ H :=
    { frames := rfl, mod := md, bs := fun b o e => of_hidT e, bsz := Nat.le_of_eq (hidT_size _ _), funs := trivial, frf := (fun b hb => absurd (show b ∈ ([] : List Addr) from hb) (by simp)), hok := hok, bare := .of_eq bare }
  have run := (F _ kb (ns_of g0) hmods TB).go callerA [] s₁ H ⟨[.ref a], []⟩ [.ref a] [.ref a] _ _ rfl hr e0 (bind s₁ (.ref a)) (.cons rfl .nil) hsp
  refine codeAny_mono run ?_
  intro r s' h
  match r, h with
  | .ok (.ret u), h =>
    obtain ⟨v, H', os, br, un, hok', rv, hv⟩ := h
    cases (show v = .bl true from hv)
    cases (show u = Value.bool true from rv)
    have rest : ∀ b o, (¬ ∃ p ∈ cs, b = p.2) → s₁.heap.get? b = some o → s'.heap.get? b = some o := by
      intro b o nb e
      rcases only b with z | ⟨_, ob, xs, z⟩ | ⟨z, _⟩
      · exact un.keep b o e z (fun q => absurd (show b ∈ ([] : List Addr) from q) (by simp)) (by simp)
      · have z2 := un.frzs b ob _ z
        have e1 := (hok b _ z).1
        have e2 := (hok' b _ z2).1
        rw [e] at e1
        cases e1
        exact e2
      · exact absurd z nb
    have grown : ∀ p ∈ cs, ∃ more : Array Value, s'.heap.get? p.2 = some { cls := .none, data := .fields more } := by
      intro p hp
      obtain ⟨more, z⟩ := un.tbls p.2 #[] (tr p hp)
      exact ⟨_, hok' p.2 _ z⟩
    refine ⟨rfl, ⟨fun b o e => ?_, fun b o e => ?_⟩, os, br⟩
    · by_cases hb : ∃ p ∈ cs, b = p.2
      · obtain ⟨p, hp, eb⟩ := hb
        obtain ⟨more, hm⟩ := grown p hp
        rw [eb, TA.at_ p hp] at e
        cases e
        rw [eb]
        refine .inr (.inl ⟨((TA.code p hp).tab (TA.at_ p hp)).isCodeTable, rfl, #[], more, rfl, ?_⟩)
        rw [Array.empty_append]
        exact hm
      · exact .inl (rest b o hb e)
    · by_cases hb : ∃ p ∈ cs, b = p.2
      · obtain ⟨p, hp, eb⟩ := hb
        obtain ⟨more, hm⟩ := grown p hp
        exact ⟨_, by rw [eb]; exact hm⟩
      · exact ⟨o, rest b o hb e⟩

/-- the law's call, where its def keeps its promise in quiet, with tables -/
theorem law_quietT (KX : K.In s₁.heap) (g0 : s₁.heap.Ns mainGlobals mg) (b0 : s₁.heap.Ns builtinsNs mb) (bb : ∀ y : Str, y ≠ "__name__" → mb y = bootBuiltins y) (lim : s₁.heap.NoLimit) (bare : s₁.gens = #[])
    (mods : ∃ mm, s₁.heap.Ns sysModules mm) (TA : TabsAhead cs K s₁.heap)
    (bm : ∃ (m : Addr) (ob : Obj), mg "__builtins__" = some (.ref m) ∧ m ≠ builtinsNs ∧ s₁.heap.get? m = some ob ∧ ob.cls = .type "module" ∧ ob.dict = some builtinsNs ∧ ob.data = .plain)
    (ha : s₁.heap.get? a = some { cls := .type "list", data := .seq vs.toArray }) (hi : IntsAre vs ns) (hl : ns.length ≤ sizeLine) (hr : Room k callerA)
    (F : ∀ base : Heap, K.In base → base.Ns mainGlobals mg → HasMods base → (∀ p ∈ cs, LamX.TabB base mg p.1 p.2) → Keeps P w K mg base k fa fd [x] sp) (bind : ∀ (s : Shared) (u : Value), BindsTo s fd ⟨[u], []⟩ [(x, u)])
    (hsp : ∀ H : Hp, SqL K H a (ns.map V.int) → (∀ p ∈ cs, H p.2 = some (.tbl #[])) → sp [.ref a] H (fun v _ => v = .bl true) fun _ _ _ => False) :
    codeAny (model P w) callerA (.call (.ref fa) ⟨[.ref a], []⟩) (LawEnd s₁) s₁ := by
  have rv := vals_ints hi
  have lenV := hi.length
  have nat : ∀ p ∈ cs, p.2 ≠ a := fun p hp z => by
    have e := TA.at_ p hp
    rw [z, ha] at e
    cases e
  have isT : ∀ b, (∃ p ∈ cs, b = p.2) → s₁.heap.get? b = some emptyO := fun b ⟨p, hp, e⟩ => by
    rw [e]
    exact TA.at_ p hp
  cases hk : K.lookup a with
  | some o =>
    have e := KX a o hk
    rw [ha] at e
    cases e
    let H0 : Hp := fun b => if (∃ p ∈ cs, b = p.2) then some (.tbl #[]) else none
    have hb1 : ∀ b, (∃ p ∈ cs, b = p.2) → H0 b = some (.tbl #[]) := fun b h => if_pos h
    have hb2 : ∀ b, (¬ ∃ p ∈ cs, b = p.2) → H0 b = none := fun b h => if_neg h
    have na : H0 a = none := hb2 a fun ⟨p, hp, z⟩ => nat p hp z.symm
    refine law_tabs (cs := cs) KX g0 b0 bb lim bare mods TA bm ha hr F bind H0 (fun b => ?_) (fun b u z => ?_) (fun z => absurd na z) (fun p hp => hb1 _ ⟨p, hp, rfl⟩) (hsp H0 (.inr ?_) fun p hp => hb1 _ ⟨p, hp, rfl⟩)
    · by_cases hb : ∃ p ∈ cs, b = p.2
      · exact .inr (.inr ⟨hb, hb1 b hb⟩)
      · exact .inl (hb2 b hb)
    · by_cases hb : ∃ p ∈ cs, b = p.2
      · rw [hb1 b hb] at z
        cases z
        exact isT b hb
      · rw [hb2 b hb] at z
        cases z
    · exact ⟨_, vs.toArray, _, hk, rfl, rfl, rfl, by rw [List.size_toArray, lenV]; exact hl, by simpa using rv⟩
  | none =>
    let H0 : Hp := fun b => if b = a then some (HO.frz { cls := .type "list", data := .seq vs.toArray } (.lst (ns.map V.int))) else if (∃ p ∈ cs, b = p.2) then some (.tbl #[]) else none
    have hba : H0 a = some (HO.frz { cls := .type "list", data := .seq vs.toArray } (.lst (ns.map V.int))) := if_pos rfl
    have hb1 : ∀ b, (∃ p ∈ cs, b = p.2) → H0 b = some (.tbl #[]) := fun b h => by
      have nb : b ≠ a := by
        obtain ⟨p, hp, e⟩ := h
        rw [e]
        exact nat p hp
      exact (if_neg nb).trans (if_pos h)
    have hb2 : ∀ b, b ≠ a → (¬ ∃ p ∈ cs, b = p.2) → H0 b = none := fun b n h => (if_neg n).trans (if_neg h)
    refine law_tabs (cs := cs) KX g0 b0 bb lim bare mods TA bm ha hr F bind H0 (fun b => ?_) (fun b u z => ?_) (fun _ => hk) (fun p hp => hb1 _ ⟨p, hp, rfl⟩) (hsp H0 (.inl (.inr ⟨_, hba⟩)) fun p hp => hb1 _ ⟨p, hp, rfl⟩)
    · by_cases hn : b = a
      · exact .inr (.inl ⟨hn, _, _, by rw [hn]; exact hba⟩)
      · by_cases hb : ∃ p ∈ cs, b = p.2
        · exact .inr (.inr ⟨hb, hb1 b hb⟩)
        · exact .inl (hb2 b hn hb)
    · by_cases hn : b = a
      · subst hn
        rw [hba] at z
        cases z
        exact ⟨ha, by rw [List.length_map]; exact hl, vs, _, rv, ha⟩
      · by_cases hb : ∃ p ∈ cs, b = p.2
        · rw [hb1 b hb] at z
          cases z
          exact isT b hb
        · rw [hb2 b hn hb] at z
          cases z
end
/-- what is left of the row's statement, with tables -/
theorem walk_quietT {l : PySem.W.OpenLaw} {n k : Nat} {q : Program} {loose : List Str} {XP : (Str → Option Value) → Heap → Prop} {YP : World → Heap → Prop} {d : DefRec} {x : Str}
    (hn : l.most = some n) (hn2 : n ≤ sizeLine) (hdf : d.params.defaults = []) (hr : Room k callerA) (hq : importsNone q = true)
    (F : ∀ (w : World) (mg : Str → Option Value) (fa : Addr) (h : Heap), YP w h → h.Ns mainGlobals mg → mg d.name = some (.ref fa) →
      ∃ (K : PySem.W.Frag) (fd : FuncData) (sp : Sp) (cs : List (Addr × Addr)), K.In h ∧ TabsAhead cs K h ∧ (∀ (s : Shared) (u : Value), BindsTo s fd ⟨[u], []⟩ [(x, u)]) ∧
        (∀ (H : Hp) (a : Addr) (ns : List Int), ns.length ≤ n → SqL K H a (ns.map V.int) → (∀ p ∈ cs, H p.2 = some (.tbl #[])) → sp [.ref a] H (fun v _ => v = .bl true) fun _ _ _ => False) ∧
        ∀ base : Heap, K.In base → base.Ns mainGlobals mg → HasMods base → (∀ p ∈ cs, LamX.TabB base mg p.1 p.2) → Keeps l.prog w K mg base k fa fd [x] sp) :
    PySem.W.WalkO q loose XP YP l.row.toRowW d [] (fun f vs => PySem.call f vs) := by
  refine Att.attach_call hn hdf ?_
  intro w s₀ s₁ mg mb fa o pm cd doc a vs ns G Y ho hd hcd hmg hobj hints hlen hg
  obtain ⟨K, fd, sp, cs, KX, TA, hb, hsp, hF⟩ := F w mg fa _ Y G.T.g hmg
  obtain ⟨mm, hm, _⟩ := (G.T.seer hq).mods
  exact law_quietT KX G.T.g G.T.b G.T.builtins G.T.nolimit hg ⟨mm, hm⟩ TA G.T.bmain hobj hints (Nat.le_trans hlen hn2) hr hF hb fun H hS hT => hsp H a ns hlen hS hT
end Quiet
namespace Hd
open PySem PySem.Spec PyProof.Rows L2 Quiet He
/-- the facts, a boolean of one's own, the tables of some defs -/
def obT (fa : List Fa) (fn : List DefD) (ex : PySem.W.Frag → Bool) (tf : List Defn) (g : Addr → Option Obj) : AlK := (obsD fa fn (frT g (asK g)), ex (frT g (asK g)) && tabsB g tf (frT g (asK g)))
structure SaysTab (fa : List Fa) (fn : List DefD) (ex : PySem.W.Frag → Bool) (tf : List Defn) (h : Heap) (K : PySem.W.Frag) : Prop where
  d : SaysD fa fn K
  more : ex K = true
  tabs : TabsAhead (tf.map fun p => cT K p) K h
  hd : ∀ p ∈ tf, PySem.W.codeHdIn K (cT K p).1 (cT K p).2 = true
theorem saysTab_of {fa : List Fa} {fn : List DefD} {ex : PySem.W.Frag → Bool} {tf : List Defn} {h : Heap} (e : obT fa fn ex tf h.get? = (valD fn, true)) : SaysTab fa fn ex tf h (frT h.get? (asK h.get?)) := by
  have e1 := congrArg (fun z : AlK => z.1) e
  obtain ⟨h1, h2⟩ := ba (congrArg (fun z : AlK => z.2) e)
  have key : ∀ p ∈ tf, PySem.W.codeHdIn (frT h.get? (asK h.get?)) (cT (frT h.get? (asK h.get?)) p).1 (cT (frT h.get? (asK h.get?)) p).2 = true ∧ ∃ o, h.get? (cT (frT h.get? (asK h.get?)) p).2 = some o ∧ emptyTab o = true := by
    intro p hp
    obtain ⟨h3, h4⟩ := ba (List.all_eq_true.mp h2 p hp)
    refine ⟨h3, ?_⟩
    split at h4
    · rename_i o q
      exact ⟨o, q, h4⟩
    · cases h4
  refine ⟨e1, h1, ⟨fun q hq => ?_, fun q hq => ?_, fun q hq => ?_⟩, fun p hp => (key p hp).1⟩
  · obtain ⟨p, hp, rfl⟩ := List.mem_map.mp hq
    obtain ⟨_, o, e2, z⟩ := key p hp
    rw [e2, emptyTab_eq z]
  · obtain ⟨p, hp, rfl⟩ := List.mem_map.mp hq
    obtain ⟨_, o, e2, z⟩ := key p hp
    exact frT_none e2 z
  · obtain ⟨p, hp, rfl⟩ := List.mem_map.mp hq
    exact PySem.W.codeHd_of_K frT_in (key p hp).1
def hkT (fa : List Fa) (fn : List DefD) (ex : PySem.W.Frag → Bool) (tf : List Defn) : PySem.W.Hook where
  α := AlK
  obs := fun s => obT fa fn ex tf s.heap.get?
  val := fun _ => (valD fn, true)
  says := fun _ h => ∃ K : PySem.W.Frag, K.In h ∧ SaysTab fa fn ex tf h K
  of := fun _ _ e => ⟨_, frT_in, saysTab_of e⟩
  keeps := fun _ _ _ ⟨K, hK, c⟩ k => ⟨K, PySem.W.Frag.In.keeps hK k, ⟨c.d, c.more, ⟨fun p hp => k _ _ (c.tabs.at_ p hp), c.tabs.out, fun p hp => (c.tabs.code p hp).keeps k⟩, c.hd⟩⟩
def obTs (fa : List Fa) (fn : List DefD) (ex : PySem.W.Frag → Bool) (tf : List Defn) (s : PySem.W.SharedT) : AlK := obT fa fn ex tf (HandSHeadRun.getT s)
theorem obTs_eq (fa : List Fa) (fn : List DefD) (ex : PySem.W.Frag → Bool) (tf : List Defn) (s : PySem.W.SharedT) : obTs fa fn ex tf s = (hkT fa fn ex tf).obs s.abs := by
  have e : HandSHeadRun.getT s = s.abs.heap.get? := funext (HandSHeadRun.getT_eq s)
  unfold obTs
  rw [e]
  rfl
end Hd
set_option Elab.async false
set_option linter.all false
set_option maxRecDepth 100000
set_option maxHeartbeats 2000000
/-! ## A class of errors with one field, from few looks -/
namespace Kf
open PySem PySem.Spec PyProof.Rows L2 Quiet He Gn
/-- its maker is a function -/
def mkB (K : PySem.W.Frag) (C I : Addr) : Bool := (match PySem.W.findIn K (.ref C) "__init__" with
  | some (some (.ref a)) => decide (a = I)
  | _ => false) && (match K.lookup I with
  | some ⟨.type c, _, _, _⟩ => decide (c = "function")
  | _ => false)
theorem mkB_ok {K : PySem.W.Frag} {C I : Addr} (h : mkB K C I = true) : PySem.W.findIn K (.ref C) "__init__" = some (some (.ref I)) ∧ PySem.W.typeIn K (.ref I) = some (.type "function") := by
  obtain ⟨h1, h2⟩ := ba h
  refine ⟨?_, ?_⟩
  · split at h1
    · rename_i a e
      rw [of_decide_eq_true h1] at e
      exact e
    · cases h1
  · split at h2
    · rename_i c d dt sl e
      rw [of_decide_eq_true h2] at e
      show (K.lookup I).map (·.cls) = _
      rw [e]
      rfl
    · cases h2
def oneB (K : PySem.W.Frag) (F C I : Addr) (f : Str) : Bool := errB K F C (f :: spec) && mkB K C I
theorem one_ok {K : PySem.W.Frag} {mg : Str → Option Value} {F C I : Addr} {f x q : Str} {st : Stmt} {fd : FuncData} {lF : List Str} (hf : faceB K F lF = true) (hl : ∀ y ∈ spec, y ∈ lF) (h : oneB K F C I f = true) (hg : mg x = some (.ref C)) : Cle K mg x q st C I fd := by
  obtain ⟨h1, h2⟩ := ba h
  obtain ⟨h3, h4⟩ := mkB_ok h2
  have e := err_ok h1
  have fc := face_ok hf
  have hs : ∀ y ∈ spec, y ∈ f :: spec := fun y hy => List.mem_cons_of_mem _ hy
  exact ⟨hg, e.oex fc (hs _ (by decide +kernel)) (hl _ (by decide +kernel)), e.exc fc hs hl, e.xf fc hs hl, h3, h4⟩
theorem one_no {K : PySem.W.Frag} {F C I : Addr} {f : Str} {lF : List Str} (hf : faceB K F lF = true) (hm : f ∈ lF) (h : oneB K F C I f = true) (ha : PySem.W.alongIn K f tl = some none) : PySem.W.findIn K (.ref C) f = some none := by
  rw [(err_ok (ba h).1).find (face_ok hf) List.mem_cons_self hm]
  exact ha
end Kf
set_option Elab.async false
set_option linter.all false
set_option maxRecDepth 100000
set_option maxHeartbeats 0
namespace K14
open PySem PySem.Spec PyProof.Rows L2 Quiet He
def hFn : List DefD := [
  Hd.dOf "__init__" "NoRow.__init__" ("NoRow", some "__init__") s_NoRow___init__,
  Hd.dOf "is_integer" "is_integer" ("is_integer", none) s_is_integer,
  Hd.dOf "bodies" "bodies" ("bodies", none) s_bodies,
  Hd.dOf "with_bodies" "with_bodies" ("with_bodies", none) s_with_bodies,
  Hd.dOf "is_path" "is_path" ("is_path", none) s_is_path,
  Hd.dOf "body_at" "body_at" ("body_at", none) s_body_at,
  Hd.dOf "row_at" "row_at" ("row_at", none) s_row_at,
  Hd.dOf "spliced" "spliced" ("spliced", none) s_spliced,
  Hd.dOf "put" "put" ("put", none) s_put,
  Hd.dOf "out" "out" ("out", none) s_out,
  Hd.dOf "changed" "changed" ("changed", none) s_changed,
  Hd.dOf "_law_bag" "_law_bag" ("_law_bag", none) s__law_bag,
  Hd.dOf "_law_take" "_law_take" ("_law_take", none) s__law_take,
  Hd.dOf "_law_alike" "_law_alike" ("_law_alike", none) s__law_alike,
  Hd.dOf "_law_one" "_law_one" ("_law_one", none) s__law_one,
  Hd.dOf "_law_mixed" "_law_mixed" ("_law_mixed", none) s__law_mixed,
  Hd.dOf "_law_names" "_law_names" ("_law_names", none) s__law_names,
  Hd.dOf "_law_is_whole" "_law_is_whole" ("_law_is_whole", none) s__law_is_whole,
  Hd.dOf "_law_odd" "_law_odd" ("_law_odd", none) s__law_odd,
  Hd.dOf "_law_bodies" "_law_bodies" ("_law_bodies", none) s__law_bodies,
  Hd.dOf "_law_size" "_law_size" ("_law_size", none) s__law_size,
  Hd.dOf "_law_list_at" "_law_list_at" ("_law_list_at", none) s__law_list_at,
  Hd.dOf "_law_row_at" "_law_row_at" ("_law_row_at", none) s__law_row_at,
  Hd.dOf "_law_paths" "_law_paths" ("_law_paths", none) s__law_paths,
  Hd.dOf "_law_leaf" "_law_leaf" ("_law_leaf", none) s__law_leaf,
  Hd.dOf "_law_try" "_law_try" ("_law_try", none) s__law_try,
  Hd.dOf "_law_row" "_law_row" ("_law_row", none) s__law_row,
  Hd.dOf "_law_rows" "_law_rows" ("_law_rows", none) s__law_rows,
  Hd.dOf "_law_free_kit" "_law_free_kit" ("_law_free_kit", none) s__law_free_kit,
  Hd.dOf "_law_with" "_law_with" ("_law_with", none) s__law_with,
  Hd.dOf "_law_edited" "_law_edited" ("_law_edited", none) s__law_edited,
  Hd.dOf "_law_is_path" "_law_is_path" ("_law_is_path", none) s__law_is_path,
  Hd.dOf "_law_heard" "_law_heard" ("_law_heard", none) s__law_heard,
  Hd.dOf "_law_place" "_law_place" ("_law_place", none) s__law_place,
  Hd.dOf "_law_right" "_law_right" ("_law_right", none) s__law_right,
  Hd.dOf "law" "law" ("law", none) s_law]
def hFa : List Fa := [.glo "is_integer", .glo "bodies", .glo "with_bodies", .glo "is_path", .glo "body_at", .glo "row_at", .glo "spliced", .glo "put", .glo "out", .glo "changed", .glo "_law_bag", .glo "_law_take", .glo "_law_alike", .glo "_law_one", .glo "_law_mixed", .glo "_law_names", .glo "_law_is_whole", .glo "_law_odd", .glo "_law_bodies", .glo "_law_size", .glo "_law_list_at", .glo "_law_row_at", .glo "_law_paths", .glo "_law_leaf", .glo "_law_try", .glo "_law_row", .glo "_law_rows", .glo "_law_free_kit", .glo "_law_with", .glo "_law_edited", .glo "_law_is_path", .glo "_law_heard", .glo "_law_place", .glo "_law_right", .glo "law", .free "ValueError", .free "abs", .free "all", .free "bool", .free "dict", .free "enumerate", .free "int", .free "isinstance", .free "len", .free "list", .free "max", .free "min", .free "range", .free "repr", .free "sorted", .free "str", .free "sum", .free "tuple", .free "zip", .glo "FaceError", .glo "NoRow", .exm "NoRow" "FaceError" true]
def hNs : List Str := (["path"] : List Str) ++ Kf.spec
def hEx (K : PySem.W.Frag) : Bool := Kf.faceB K (ga K "FaceError") hNs && (Kf.oneB K (ga K "FaceError") (ga K "NoRow") (ma K (ga K "NoRow") "__init__") "path")
def hTf : List Defn := [("_law_right", none)]
section
variable {K : PySem.W.Frag} {h : Heap} {mg : Str → Option Value}
theorem txt_of (X : K.In h) (G : h.Ns mainGlobals mg) (c : SaysD hFa hFn K) (m : hEx K = true) (hd : ∀ p ∈ hTf, PySem.W.codeHdIn K (cT K p).1 (cT K p).2 = true) : ∃ A D C F, Txt K mg A D ∧ Tcl K mg A D C F ∧ A.law = ga K "law" ∧ FunD K "law" "law" (defArgs s_law) (defBody s_law) (defScope s_law) [] [] (ga K "law") D.law ∧ D._law_right.code = .ref (cT K ("_law_right", none)).1 := by
  obtain ⟨d0, F0⟩ : ∃ fd, FunD K "__init__" "NoRow.__init__" (defArgs s_NoRow___init__) (defBody s_NoRow___init__) (defScope s_NoRow___init__) [] [] (ma K (ga K "NoRow") "__init__") fd := c.def_ 0 rfl
  obtain ⟨d1, F1⟩ : ∃ fd, FunD K "is_integer" "is_integer" (defArgs s_is_integer) (defBody s_is_integer) (defScope s_is_integer) [] [] (ga K "is_integer") fd := c.def_ 1 rfl
  obtain ⟨d2, F2⟩ : ∃ fd, FunD K "bodies" "bodies" (defArgs s_bodies) (defBody s_bodies) (defScope s_bodies) [] [] (ga K "bodies") fd := c.def_ 2 rfl
  obtain ⟨d3, F3⟩ : ∃ fd, FunD K "with_bodies" "with_bodies" (defArgs s_with_bodies) (defBody s_with_bodies) (defScope s_with_bodies) [] [] (ga K "with_bodies") fd := c.def_ 3 rfl
  obtain ⟨d4, F4⟩ : ∃ fd, FunD K "is_path" "is_path" (defArgs s_is_path) (defBody s_is_path) (defScope s_is_path) [] [] (ga K "is_path") fd := c.def_ 4 rfl
  obtain ⟨d5, F5⟩ : ∃ fd, FunD K "body_at" "body_at" (defArgs s_body_at) (defBody s_body_at) (defScope s_body_at) [] [] (ga K "body_at") fd := c.def_ 5 rfl
  obtain ⟨d6, F6⟩ : ∃ fd, FunD K "row_at" "row_at" (defArgs s_row_at) (defBody s_row_at) (defScope s_row_at) [] [] (ga K "row_at") fd := c.def_ 6 rfl
  obtain ⟨d7, F7⟩ : ∃ fd, FunD K "spliced" "spliced" (defArgs s_spliced) (defBody s_spliced) (defScope s_spliced) [] [] (ga K "spliced") fd := c.def_ 7 rfl
  obtain ⟨d8, F8⟩ : ∃ fd, FunD K "put" "put" (defArgs s_put) (defBody s_put) (defScope s_put) [] [] (ga K "put") fd := c.def_ 8 rfl
  obtain ⟨d9, F9⟩ : ∃ fd, FunD K "out" "out" (defArgs s_out) (defBody s_out) (defScope s_out) [] [] (ga K "out") fd := c.def_ 9 rfl
  obtain ⟨d10, F10⟩ : ∃ fd, FunD K "changed" "changed" (defArgs s_changed) (defBody s_changed) (defScope s_changed) [] [] (ga K "changed") fd := c.def_ 10 rfl
  obtain ⟨d11, F11⟩ : ∃ fd, FunD K "_law_bag" "_law_bag" (defArgs s__law_bag) (defBody s__law_bag) (defScope s__law_bag) [] [] (ga K "_law_bag") fd := c.def_ 11 rfl
  obtain ⟨d12, F12⟩ : ∃ fd, FunD K "_law_take" "_law_take" (defArgs s__law_take) (defBody s__law_take) (defScope s__law_take) [] [] (ga K "_law_take") fd := c.def_ 12 rfl
  obtain ⟨d13, F13⟩ : ∃ fd, FunD K "_law_alike" "_law_alike" (defArgs s__law_alike) (defBody s__law_alike) (defScope s__law_alike) [] [] (ga K "_law_alike") fd := c.def_ 13 rfl
  obtain ⟨d14, F14⟩ : ∃ fd, FunD K "_law_one" "_law_one" (defArgs s__law_one) (defBody s__law_one) (defScope s__law_one) [] [] (ga K "_law_one") fd := c.def_ 14 rfl
  obtain ⟨d15, F15⟩ : ∃ fd, FunD K "_law_mixed" "_law_mixed" (defArgs s__law_mixed) (defBody s__law_mixed) (defScope s__law_mixed) [] [] (ga K "_law_mixed") fd := c.def_ 15 rfl
  obtain ⟨d16, F16⟩ : ∃ fd, FunD K "_law_names" "_law_names" (defArgs s__law_names) (defBody s__law_names) (defScope s__law_names) [] [] (ga K "_law_names") fd := c.def_ 16 rfl
  obtain ⟨d17, F17⟩ : ∃ fd, FunD K "_law_is_whole" "_law_is_whole" (defArgs s__law_is_whole) (defBody s__law_is_whole) (defScope s__law_is_whole) [] [] (ga K "_law_is_whole") fd := c.def_ 17 rfl
  obtain ⟨d18, F18⟩ : ∃ fd, FunD K "_law_odd" "_law_odd" (defArgs s__law_odd) (defBody s__law_odd) (defScope s__law_odd) [] [] (ga K "_law_odd") fd := c.def_ 18 rfl
  obtain ⟨d19, F19⟩ : ∃ fd, FunD K "_law_bodies" "_law_bodies" (defArgs s__law_bodies) (defBody s__law_bodies) (defScope s__law_bodies) [] [] (ga K "_law_bodies") fd := c.def_ 19 rfl
  obtain ⟨d20, F20⟩ : ∃ fd, FunD K "_law_size" "_law_size" (defArgs s__law_size) (defBody s__law_size) (defScope s__law_size) [] [] (ga K "_law_size") fd := c.def_ 20 rfl
  obtain ⟨d21, F21⟩ : ∃ fd, FunD K "_law_list_at" "_law_list_at" (defArgs s__law_list_at) (defBody s__law_list_at) (defScope s__law_list_at) [] [] (ga K "_law_list_at") fd := c.def_ 21 rfl
  obtain ⟨d22, F22⟩ : ∃ fd, FunD K "_law_row_at" "_law_row_at" (defArgs s__law_row_at) (defBody s__law_row_at) (defScope s__law_row_at) [] [] (ga K "_law_row_at") fd := c.def_ 22 rfl
  obtain ⟨d23, F23⟩ : ∃ fd, FunD K "_law_paths" "_law_paths" (defArgs s__law_paths) (defBody s__law_paths) (defScope s__law_paths) [] [] (ga K "_law_paths") fd := c.def_ 23 rfl
  obtain ⟨d24, F24⟩ : ∃ fd, FunD K "_law_leaf" "_law_leaf" (defArgs s__law_leaf) (defBody s__law_leaf) (defScope s__law_leaf) [] [] (ga K "_law_leaf") fd := c.def_ 24 rfl
  obtain ⟨d25, F25⟩ : ∃ fd, FunD K "_law_try" "_law_try" (defArgs s__law_try) (defBody s__law_try) (defScope s__law_try) [] [] (ga K "_law_try") fd := c.def_ 25 rfl
  obtain ⟨d26, F26⟩ : ∃ fd, FunD K "_law_row" "_law_row" (defArgs s__law_row) (defBody s__law_row) (defScope s__law_row) [] [] (ga K "_law_row") fd := c.def_ 26 rfl
  obtain ⟨d27, F27⟩ : ∃ fd, FunD K "_law_rows" "_law_rows" (defArgs s__law_rows) (defBody s__law_rows) (defScope s__law_rows) [] [] (ga K "_law_rows") fd := c.def_ 27 rfl
  obtain ⟨d28, F28⟩ : ∃ fd, FunD K "_law_free_kit" "_law_free_kit" (defArgs s__law_free_kit) (defBody s__law_free_kit) (defScope s__law_free_kit) [] [] (ga K "_law_free_kit") fd := c.def_ 28 rfl
  obtain ⟨d29, F29⟩ : ∃ fd, FunD K "_law_with" "_law_with" (defArgs s__law_with) (defBody s__law_with) (defScope s__law_with) [] [] (ga K "_law_with") fd := c.def_ 29 rfl
  obtain ⟨d30, F30⟩ : ∃ fd, FunD K "_law_edited" "_law_edited" (defArgs s__law_edited) (defBody s__law_edited) (defScope s__law_edited) [] [] (ga K "_law_edited") fd := c.def_ 30 rfl
  obtain ⟨d31, F31⟩ : ∃ fd, FunD K "_law_is_path" "_law_is_path" (defArgs s__law_is_path) (defBody s__law_is_path) (defScope s__law_is_path) [] [] (ga K "_law_is_path") fd := c.def_ 31 rfl
  obtain ⟨d32, F32⟩ : ∃ fd, FunD K "_law_heard" "_law_heard" (defArgs s__law_heard) (defBody s__law_heard) (defScope s__law_heard) [] [] (ga K "_law_heard") fd := c.def_ 32 rfl
  obtain ⟨d33, F33⟩ : ∃ fd, FunD K "_law_place" "_law_place" (defArgs s__law_place) (defBody s__law_place) (defScope s__law_place) [] [] (ga K "_law_place") fd := c.def_ 33 rfl
  obtain ⟨d34, F34⟩ : ∃ fd, FunD K "_law_right" "_law_right" (defArgs s__law_right) (defBody s__law_right) (defScope s__law_right) [] [] (ga K "_law_right") fd := c.def_ 34 rfl
  obtain ⟨d35, F35⟩ : ∃ fd, FunD K "law" "law" (defArgs s_law) (defBody s_law) (defScope s_law) [] [] (ga K "law") fd := c.def_ 35 rfl
  obtain ⟨hf, hx⟩ := ba m
  have hl : ∀ y ∈ Kf.spec, y ∈ hNs := fun y hy => List.mem_append_right _ hy
  have hx0 := hx
  have hc0 : d34.code = .ref (cT K ("_law_right", none)).1 := by
    obtain ⟨oc, od, dV, kV, doc, pm, an, cdv, ct, osl, e, lk, hcd, _⟩ := F34.ex
    obtain ⟨cc, ec⟩ := codeIn_ref hcd
    have e2 : d34.code = cdv := by rw [e]
    rw [e2, ec]
    show _ = Value.ref (codeOf K ("_law_right", none))
    rw [codeOf_eq (c := cc) (p := ("_law_right", none)) lk (by rw [e2, ec])]
  refine ⟨⟨ma K (ga K "NoRow") "__init__", ga K "is_integer", ga K "bodies", ga K "with_bodies", ga K "is_path", ga K "body_at", ga K "row_at", ga K "spliced", ga K "put", ga K "out", ga K "changed", ga K "_law_bag", ga K "_law_take", ga K "_law_alike", ga K "_law_one", ga K "_law_mixed", ga K "_law_names", ga K "_law_is_whole", ga K "_law_odd", ga K "_law_bodies", ga K "_law_size", ga K "_law_list_at", ga K "_law_row_at", ga K "_law_paths", ga K "_law_leaf", ga K "_law_try", ga K "_law_row", ga K "_law_rows", ga K "_law_free_kit", ga K "_law_with", ga K "_law_edited", ga K "_law_is_path", ga K "_law_heard", ga K "_law_place", ga K "_law_right", ga K "law"⟩, ⟨d0, d1, d2, d3, d4, d5, d6, d7, d8, d9, d10, d11, d12, d13, d14, d15, d16, d17, d18, d19, d20, d21, d22, d23, d24, d25, d26, d27, d28, d29, d30, d31, d32, d33, d34, d35⟩, ga K "NoRow", ga K "FaceError", ⟨
    Hd.fun_of F0,
    Hd.fun_of F1, He.glo_ok X G (c.fact 0 (f := .glo "is_integer") rfl),
    Hd.fun_of F2, He.glo_ok X G (c.fact 1 (f := .glo "bodies") rfl),
    Hd.fun_of F3, He.glo_ok X G (c.fact 2 (f := .glo "with_bodies") rfl),
    Hd.fun_of F4, He.glo_ok X G (c.fact 3 (f := .glo "is_path") rfl),
    Hd.fun_of F5, He.glo_ok X G (c.fact 4 (f := .glo "body_at") rfl),
    Hd.fun_of F6, He.glo_ok X G (c.fact 5 (f := .glo "row_at") rfl),
    Hd.fun_of F7, He.glo_ok X G (c.fact 6 (f := .glo "spliced") rfl),
    Hd.fun_of F8, He.glo_ok X G (c.fact 7 (f := .glo "put") rfl),
    Hd.fun_of F9, He.glo_ok X G (c.fact 8 (f := .glo "out") rfl),
    Hd.fun_of F10, He.glo_ok X G (c.fact 9 (f := .glo "changed") rfl),
    Hd.fun_of F11, He.glo_ok X G (c.fact 10 (f := .glo "_law_bag") rfl),
    Hd.fun_of F12, He.glo_ok X G (c.fact 11 (f := .glo "_law_take") rfl),
    Hd.fun_of F13, He.glo_ok X G (c.fact 12 (f := .glo "_law_alike") rfl),
    Hd.fun_of F14, He.glo_ok X G (c.fact 13 (f := .glo "_law_one") rfl),
    Hd.fun_of F15, He.glo_ok X G (c.fact 14 (f := .glo "_law_mixed") rfl),
    Hd.fun_of F16, He.glo_ok X G (c.fact 15 (f := .glo "_law_names") rfl),
    Hd.fun_of F17, He.glo_ok X G (c.fact 16 (f := .glo "_law_is_whole") rfl),
    Hd.fun_of F18, He.glo_ok X G (c.fact 17 (f := .glo "_law_odd") rfl),
    Hd.fun_of F19, He.glo_ok X G (c.fact 18 (f := .glo "_law_bodies") rfl),
    Hd.fun_of F20, He.glo_ok X G (c.fact 19 (f := .glo "_law_size") rfl),
    Hd.fun_of F21, He.glo_ok X G (c.fact 20 (f := .glo "_law_list_at") rfl),
    Hd.fun_of F22, He.glo_ok X G (c.fact 21 (f := .glo "_law_row_at") rfl),
    Hd.fun_of F23, He.glo_ok X G (c.fact 22 (f := .glo "_law_paths") rfl),
    Hd.fun_of F24, He.glo_ok X G (c.fact 23 (f := .glo "_law_leaf") rfl),
    Hd.fun_of F25, He.glo_ok X G (c.fact 24 (f := .glo "_law_try") rfl),
    Hd.fun_of F26, He.glo_ok X G (c.fact 25 (f := .glo "_law_row") rfl),
    Hd.fun_of F27, He.glo_ok X G (c.fact 26 (f := .glo "_law_rows") rfl),
    Hd.fun_of F28, He.glo_ok X G (c.fact 27 (f := .glo "_law_free_kit") rfl),
    Hd.fun_of F29, He.glo_ok X G (c.fact 28 (f := .glo "_law_with") rfl),
    Hd.fun_of F30, He.glo_ok X G (c.fact 29 (f := .glo "_law_edited") rfl),
    Hd.fun_of F31, He.glo_ok X G (c.fact 30 (f := .glo "_law_is_path") rfl),
    Hd.fun_of F32, He.glo_ok X G (c.fact 31 (f := .glo "_law_heard") rfl),
    Hd.fun_of F33, He.glo_ok X G (c.fact 32 (f := .glo "_law_place") rfl),
    Hd.fun_of F34, He.glo_ok X G (c.fact 33 (f := .glo "_law_right") rfl),
    Hd.fun_of F35, He.glo_ok X G (c.fact 34 (f := .glo "law") rfl),
    He.free_ok X G (c.fact 35 (f := .free "ValueError") rfl),
    He.free_ok X G (c.fact 36 (f := .free "abs") rfl),
    He.free_ok X G (c.fact 37 (f := .free "all") rfl),
    He.free_ok X G (c.fact 38 (f := .free "bool") rfl),
    He.free_ok X G (c.fact 39 (f := .free "dict") rfl),
    He.free_ok X G (c.fact 40 (f := .free "enumerate") rfl),
    He.free_ok X G (c.fact 41 (f := .free "int") rfl),
    He.free_ok X G (c.fact 42 (f := .free "isinstance") rfl),
    He.free_ok X G (c.fact 43 (f := .free "len") rfl),
    He.free_ok X G (c.fact 44 (f := .free "list") rfl),
    He.free_ok X G (c.fact 45 (f := .free "max") rfl),
    He.free_ok X G (c.fact 46 (f := .free "min") rfl),
    He.free_ok X G (c.fact 47 (f := .free "range") rfl),
    He.free_ok X G (c.fact 48 (f := .free "repr") rfl),
    He.free_ok X G (c.fact 49 (f := .free "sorted") rfl),
    He.free_ok X G (c.fact 50 (f := .free "str") rfl),
    He.free_ok X G (c.fact 51 (f := .free "sum") rfl),
    He.free_ok X G (c.fact 52 (f := .free "tuple") rfl),
    He.free_ok X G (c.fact 53 (f := .free "zip") rfl)⟩, ?_, rfl, F35, hc0⟩
  exact ⟨Kf.one_ok hf hl hx0 (He.glo_ok X G (c.fact 55 (f := .glo "NoRow") rfl)), He.glo_ok X G (c.fact 54 (f := .glo "FaceError") rfl), He.exm_ok (c.fact 56 (f := .exm "NoRow" "FaceError" true) rfl), Kf.kit_eq, Kf.one_no hf (by decide +kernel) hx0 (by kernel_rfl)⟩
theorem facts {P : Program} {w : World} {f : Addr} (X : K.In h) (G : h.Ns mainGlobals mg) (hfa : mg ("law" : Str) = some (.ref f)) (c : Hd.SaysTab hFa hFn hEx hTf h K) :
    ∃ fd : FuncData, (∀ (s : Shared) (v : Value), BindsTo s fd ⟨[v], []⟩ [("script", v)]) ∧ ∀ base : Heap, K.In base → base.Ns mainGlobals mg → HasMods base → (∀ p ∈ hTf.map fun p => cT K p, LamX.TabB base mg p.1 p.2) → Keeps P w K mg base 30 f fd ["script"] (spLaw K [((cT K ("_law_right", none)).2, lamQ)]) := by
  obtain ⟨A, D, C, F, T, T2, eA, FL, hc⟩ := txt_of X G c.d c.more c.hd
  have e : A.law = f := by
    have z := T.m_law.symm.trans hfa
    cases z
    rfl
  have b := FunD.bindsA (ps := ["script"]) FL fun _ _ _ _ _ _ us hl => match us, hl with | [_], _ => rfl
  subst e
  refine ⟨D.law, fun s v => b s [v] rfl, fun base _ _ hm TB => ok_law T T2 hm hc (TB _ (List.mem_map_of_mem (f := fun p => cT K p) (List.mem_cons_self))) List.mem_cons_self fun p hp _ => ?_⟩
  rw [List.mem_singleton.mp hp]
end
end K14
set_option Elab.async false
set_option linter.all false
set_option maxRecDepth 100000
set_option maxHeartbeats 0
namespace K14
open PySem PySem.Spec PyProof.Rows L2 Quiet He
abbrev R : PySem.W.OpenRow := PySem.W.OpenLaw.row PySem.Challenge.rw_fourfaces_k14_rows_put_otherwise
def loose1 : List Str := ["is_integer", "bodies", "with_bodies", "is_path", "body_at", "row_at", "spliced", "put", "out", "changed", "_law_bag", "_law_take", "_law_alike", "_law_one", "_law_mixed", "_law_names", "_law_is_whole", "_law_odd"]
def loose2 : List Str := ["_law_bodies", "_law_size", "_law_list_at", "_law_row_at", "_law_paths", "_law_leaf", "_law_try", "_law_row", "_law_rows", "_law_free_kit", "_law_with", "_law_edited", "_law_is_path", "_law_heard", "_law_place", "_law_right", "FaceError", "NoRow"]
def loose : List Str := loose1 ++ loose2
theorem run (w : World) : HandSHeadRun.RunEq R (PySem.W.view R.prog [40]) (Hd.hkT hFa hFn hEx hTf) (Hd.obTs hFa hFn hEx hTf) 9000 loose w := by
  intro os
  kernel_rfl
end K14
set_option Elab.async false
set_option linter.all false
set_option maxRecDepth 100000
set_option maxHeartbeats 0
open PySem PySem.W PySem.Calls PyProof.Rows
theorem PySem.Challenge.cw_fourfaces_k14_rows_put_otherwise_holds : PySem.Challenge.rw_fourfaces_k14_rows_put_otherwise.Holds := by
  w_on; o_law
  refine HandSHeadRun.head_any (r := K14.R) (q := view K14.R.prog [40]) (H := Hd.hkT K14.hFa K14.hFn K14.hEx K14.hTf) (ob := Hd.obTs K14.hFa K14.hFn K14.hEx K14.hTf) (M := 9000) (loose := K14.loose) (d := HandSHeadRun.topDef K14.R.prog 40) (kwd := []) (Hd.obTs_eq K14.hFa K14.hFn K14.hEx K14.hTf)
    (by kernel_rfl) (fun s => by kernel_rfl) K14.run (by kernel_rfl) (by kernel_rfl) (by kernel_rfl) (by rfl) (by first | assumption | decide +kernel) (by decide +kernel) ⟨rfl, rfl, rfl, rfl, rfl, by decide +kernel⟩ ?hw ?hc
  case hw => w_witness2
  case hc =>
    refine Quiet.walk_quietT (l := PySem.Challenge.rw_fourfaces_k14_rows_put_otherwise) (n := 63) (k := 30) (x := "script") rfl (by decide) (by kernel_rfl) ⟨rfl, by decide, by decide⟩ (by kernel_rfl) ?F
    intro w mg fa h Y G hmg0
    obtain ⟨K, KX, c⟩ := Y
    have hmg : mg ("law" : PySem.Str) = some (.ref fa) := by
      have e : (HandSHeadRun.topDef K14.R.prog 40).name = ("law" : PySem.Str) := by kernel_rfl
      rw [← e]
      exact hmg0
    obtain ⟨fd, hb, hF⟩ := K14.facts (P := (PySem.Challenge.rw_fourfaces_k14_rows_put_otherwise).prog) (w := w) KX G hmg c
    refine ⟨K, fd, K14.spLaw K _, _, KX, c.tabs, hb, fun H a ns hl hS hT => ⟨a, ns, rfl, hS, fun p hp => ?_, fun _ => rfl⟩, hF⟩
    rw [List.mem_singleton.mp hp]
    exact LamX.TabS.nil (hT _ (List.mem_map_of_mem (f := fun p => He.cT K p) (List.mem_cons_self)))
