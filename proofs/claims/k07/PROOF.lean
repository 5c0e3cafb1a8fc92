import PyProof.Rows.All
import Wide.All
import OpenK.AllK
import Wide.FinOn
import HandS.ForMost
import HandS.ForExc
import HandS.ExcInit
import HandS.ExcValue
import HandS.IsInst
import KE.KExcIs
import HandS.ExcField
import HandS.TupSets
import HandS.Deep
import HandS.Conv
import HandS.Style
import KE.DatumOrd
import HandS.Walk
import HandS.Iter
import HandS.Text
import HandS.Zip
import HandS.TupAny
import PyProof.Rows.BitMore
import HandS.WideBits
import HandS.NamedTupSort
import HandS.StrMore
import PyProof.StrLawsRepr
import HandS.SetFor
import HandS.Strs
import HandS.ExcOwn
import PySem.Challenge.RW_perfectgraphs_k07_whole_chromatic_number
set_option Elab.async false
set_option linter.all false
set_option maxRecDepth 100000
set_option maxHeartbeats 2000000
/-! Defs that are asked where nothing is being displayed: repr of data, whatever it holds. -/
namespace My
open PySem PySem.Spec PyProof.Rows L2

/-- like FnOk, for calls outside of any display -/
structure FnG (P : Program) (w : World) (K : PySem.W.Frag) (mg : Str → Option Value) (base : Heap) (C : CXT) (n : Nat) (f : Addr) (fd : FuncData) (ps : List Str) (sp : Sp) : Prop where
  arity : ∀ xs H Q E, sp xs H Q E → xs.length = ps.length
  goes : ∀ (A : Around) (out : List Env) (s : Shared) (H : Hp) (args : Args) (us : List Value) (xs : List V) (Q : VK) (E : XK), A.guards = some [] → Room n A → Env0 P w K mg base A out s H →
    BindsTo s fd args (ps.zip us) → Vals xs us → sp xs H Q E → codeAny (model P w) A (.call (.ref f) args) (CR C out P w H s Q E) s
section
variable {P : Program} {w : World} {K : PySem.W.Frag} {mg : Str → Option Value} {base : Heap} {C : CXT} {n : Nat} {f : Addr} {fd : FuncData} {ps : List Str} {sp : Sp}
theorem FnG.of (F : FnOk P w K mg base C n f fd ps sp) : FnG P w K mg base C n f fd ps sp :=
  { arity := F.len, goes := fun A out s H args us xs Q E _ r e b v h => F.run A out s H args us xs Q E r e b v h }
end

section
variable {X : Cx} {C : CXT} {n : Nat} {f : Addr} {fd : FuncData} {ps : List Str} {sp : Sp} {E : XK} {nm : Str} {p pos : Pos} {a : Expr} {as : List Expr} {t : TA}
theorem FnG.call_at {pins : List (Addr × Obj)} {σ : L2.St} {H : Hp} {s : Shared} {Q : VK} {us : List Value} {xs : List V} (F : FnG X.prog X.w X.K X.mg X.base C n f fd ps sp) (gd : X.A.guards = some []) (r : Room n X.A) (b : Binds X.K fd ps []) (x : Passes C X E)
    (I : Inv X pins σ H s) (v : Vals xs us) (h : sp xs H Q E) : wpAny (model X.prog X.w) X.A (call (.ref f) us) (EP X pins σ Q) X.xe s := by
  have len : (us ++ []).length = ps.length := by
    rw [List.append_nil, ← v.length]
    exact F.arity _ _ _ _ h
  have bd := b s us I.kIn len
  rw [List.append_nil] at bd
  refine wpAny_call (codeAny_mono (F.goes X.A X.stack s H ⟨us, []⟩ us xs Q E gd r I.env0 bd v h) ?_)
  rintro (er | fl) s' hq
  · exact x pins σ H s er s' I hq
  · cases fl <;> first | exact hq.elim | exact I.after hq
/-- f(a, ..), f such a def -/
theorem pe_callG (F : FnG X.prog X.w X.K X.mg X.base C n f fd ps sp) (gd : X.A.guards = some []) (r : Room n X.A) (g : Gl X nm) (m : X.mg nm = some (.ref f)) (kp : PySem.W.keepIn X.K (.ref f) = true) (b : Binds X.K fd ps []) (x : Passes C X E)
    (ha : PA X (a :: as) t) (nd : (nm == ("__debug__" : Str)) = false := by decide) (st : starEach (a :: as) X.env = (false, eval a X.env) :: starEach as X.env := by rfl) (pl : (backTo pos (starEach as X.env)).any (·.1) = false := by rfl) :
    PE X (.Call (.Name nm p) (a :: as) [] pos) (tCall sp [] E t) := by
  constructor
  intro pins s σ H Q I h
  refine wpAny_Call_Name_kw (ld_glob I g m ?_ nd)
  refine PySem.W.callWith_K (h₀ := X.base) I.ok.mod.kin kp (thn (ha.run pos pins s σ H _ I h) ?_) st pl
  rintro us s1 ⟨xs, H1, I1, v, q⟩
  rw [List.append_nil] at q
  exact ⟨I1.kIn, F.call_at gd r b x I1 v q⟩
end

section
variable {P : Program} {w : World} {K : PySem.W.Frag} {mg : Str → Option Value} {base : Heap} {C : CXT} {n : Nat} {f : Addr} {ps N : List Str} {sp : Sp}
/-- such a def by its body -/
theorem fnG_of {name qual : Str} {pm : Arguments} {body : List Stmt} {sc : Scope} {dV kV doc md cdv ct oc : Value} {an od : Option Addr} {sl : Array (Option Value)}
    (lk : K.lookup f = some ⟨oc, od, .func (PySem.W.fnOf name qual pm body sc dV kV doc md an cdv ct), sl⟩) (cd : PySem.W.codeIn K cdv qual = true) (S : FnScope N ps sc) (ar : ∀ xs H Q E, sp xs H Q E → xs.length = ps.length)
    (hb : ∀ (A : Around) (out : List Env) (s : Shared) (H : Hp) (xs : List V) (Q : VK) (E : XK), A.guards = some [] → Room n (A.deeper (envOfC qual sc s.heap.objs.size f cdv)) → sp xs H Q E →
      ∃ t, PSs (cxOf C P w K mg base N qual sc f cdv A out s H E) body t ∧ t { nx := fun _ H' => Q .non H', rt := Q } (start N xs) H) :
    FnG P w K mg base C (n + 1) f (PySem.W.fnOf name qual pm body sc dV kV doc md an cdv ct) ps sp := by
  refine { arity := ar, goes := ?_ }
  intro A out s H args us xs Q E gd r e bd v h
  have all : K.In s.heap := e.mod.kin.keeps fun b o z => (e.bs b o z).1
  have nolim : s.heap.NoLimit := e.mod.nolimit.keeps fun b o z => (e.bs b o z).1
  have kinds : ∀ y ∈ ps.zip us, sc.names.lookup y.1 = some .local ∨ (sc.names.lookup y.1 = some .cell ∧ ((cellsFrom (s.heap.objs.size + 1) sc.names []).lookup y.1).isSome = true) := by
    rintro ⟨y, u⟩ hy
    exact (S.par y (List.of_mem_zip hy).1).imp id fun z => ⟨z, PySem.W.cellsFrom_some _ _ _ (.inl z)⟩
  refine codeAny_call_function r.depth (all _ _ lk) rfl S.co S.gen rfl (PySem.W.codeRec_of all cd) (bd _ _ _ _ (wpAny_newFunctionEnv_cells S.kind kinds ?_))
  intro env he s1 x
  cases he
  obtain ⟨t, ht, hq⟩ := hb A out s H xs Q E gd (r.deeper _) h
  refine ⟨nolim.keeps x.toInCall.keep, codeAny_func (wpAny_mono (ht.run [] s1 (start N xs) H _ (inv_start S r.hd e (ar _ _ _ _ h) v x) hq) ?_ fun _ _ z => z)⟩
  rintro fl s' hs
  cases fl with
  | ret u =>
    obtain ⟨y, σ', H', J, ry, q⟩ := hs
    exact ⟨y, H', J.os, J.bare, J.base, J.hok, ry, q⟩
  | next =>
    obtain ⟨σ', H', J, q⟩ := hs
    exact ⟨.non, H', J.os, J.bare, J.base, J.hok, rfl, q⟩
  | brk => exact hs.choose_spec.choose_spec.2.elim
  | cont => exact hs.choose_spec.choose_spec.2.elim
theorem okG {name qual : Str} {st : Stmt} {fd : FuncData} (F : L2.Fun K name qual st f fd) (S : FnScope N ps (defScope st)) (ar : ∀ xs H Q E, sp xs H Q E → xs.length = ps.length)
    (hb : ∀ (cdv : Value) (A : Around) (out : List Env) (s : Shared) (H : Hp) (xs : List V) (Q : VK) (E : XK), A.guards = some [] → Room n (A.deeper (envOfC qual (defScope st) s.heap.objs.size f cdv)) → sp xs H Q E →
      ∃ t, PSs (cxOf CX0 P w K mg base N qual (defScope st) f cdv A out s H E).nox (defBody st) t ∧ t { nx := fun _ H' => Q .non H', rt := Q } (start N xs) H) : FnG P w K mg base CX0 (n + 1) f fd ps sp := by
  obtain ⟨_, _, _, _, _, _, cdv, _, _, rfl, lk, cd⟩ := F.ex
  refine fnG_of lk cd S ar ?_
  intro A out s H xs Q E gd r h
  obtain ⟨t, ht, q⟩ := hb cdv A out s H xs Q E gd r h
  exact ⟨t, ht.nox, q⟩
end

/-! ### the end of a law's row -/
/-- the call of the law itself, over one abstract heap -/
theorem law_at {P : Program} {w : World} {K : PySem.W.Frag} {mg mb : Str → Option Value} {n : Nat} {fa a : Addr} {fd : FuncData} {x : Str} {sp : Sp} {s : Shared} {vs : List Value} {H : Hp}
    (KX : K.In s.heap) (hns : s.heap.Ns mainGlobals mg) (hb : s.heap.Ns builtinsNs mb) (hbb : ∀ x : Str, x ≠ "__name__" → mb x = bootBuiltins x) (lim : s.heap.NoLimit) (ng : s.gens = #[])
    (ha : s.heap.get? a = some { cls := .type "list", data := .seq vs.toArray }) (hr : Room n callerA)
    (F : ∀ base : Heap, K.In base → base.Ns mainGlobals mg → FnG P w K mg base CX0 n fa fd [x] sp) (bd : BindsTo s fd ⟨[.ref a], []⟩ [(x, .ref a)])
    (hsp : sp [.ref a] H (fun v _ => v = .bl true) E0) (hO : Only H) (hok : HOk P w H s.heap) (one : ∀ b, H b ≠ none → b = a) (apart : H a ≠ none → K.lookup a = none) :
    codeAny (model P w) callerA (.call (.ref fa) ⟨[.ref a], []⟩) (fun r s' => r = .ok (.ret (.bool true)) ∧ OldK s.heap s'.heap ∧ s'.os = s.os ∧ AllBare s'.gens) s := by
  have no : ∀ {b : Addr} {o : Obj}, s.heap.get? b = some o → (∀ its m, o.data ≠ .seq its m) → H b = none := by
    intro b o e d
    refine Classical.byContradiction fun z => ?_
    cases one b z
    rw [ha] at e
    cases e
    exact d _ _ rfl
  have keep : ∀ {b : Addr} {m : Str → Option Value}, s.heap.Ns b m → (hidT s.heap H).Ns b m := by
    rintro b m ⟨o, es, ep, e, d, r⟩
    exact ⟨o, es, ep, hidT_get e (no e fun its m z => by rw [d] at z; cases z), d, r⟩
  have inb : K.In (hidT s.heap H) := by
    intro b o e
    refine hidT_get (KX b o e) (Classical.byContradiction fun z => ?_)
    have eb := one b z
    rw [eb] at z e
    rw [apart z] at e
    cases e
  obtain ⟨mc, l1, l2⟩ := lim
  have M : Mod K mg (hidT s.heap H) := ⟨inb, keep hns, ⟨mb, keep hb, hbb⟩, ⟨mc, keep l1, l2⟩⟩
  have e0 : Env0 P w K mg (hidT s.heap H) callerA [] s H :=
    { frames := rfl, mod := M, bs := fun b o e => of_hidT e, bsz := Nat.le_of_eq (hidT_size _ _), funs := trivial, frf := fun b z => absurd (show b ∈ ([] : List Addr) from z) List.not_mem_nil, hok := hok, bare := .of_eq ng }
  refine codeAny_mono ((F _ inb (keep hns)).goes callerA [] s H ⟨[.ref a], []⟩ [.ref a] [.ref a] _ _ rfl hr e0 bd (.cons rfl .nil) hsp) ?_
  rintro (er | fl) s' h
  · exact False.elim h
  · cases fl with
    | ret u =>
      obtain ⟨v, H', os, bare, un, hok', rv, q⟩ := h
      cases (show v = .bl true from q)
      cases (show u = Value.bool true from rv)
      refine ⟨rfl, OldK.of_keep ?_, os, bare⟩
      intro b o e
      rcases hO b with z | ⟨ob, xs, z⟩
      · exact un.keep b o e z (fun y => absurd (show b ∈ ([] : List Addr) from y) List.not_mem_nil) List.not_mem_nil
      · have i1 := (hok b _ z).1
        rw [e] at i1
        rw [i1]
        exact (hok' b _ (un.frzs b ob _ z)).1
    | next => exact False.elim h
    | brk => exact False.elim h
    | cont => exact False.elim h
theorem walkG {l : PySem.W.OpenLaw} {m n : Nat} {q : Program} {loose : List Str} {XP : (Str → Option Value) → Heap → Prop} {YP : World → Heap → Prop} {d : DefRec} {K : Params → PySem.W.Frag} {sp : PySem.W.Frag → Sp} {x : Str}
    (hm : l.most = some m) (hm2 : m ≤ sizeLine) (hdf : d.params.defaults = []) (hr : Room n callerA) (hY : ∀ (w : World) (h : Heap), YP w h → (K w.params).In h)
    (F : ∀ (w : World) (mg : Str → Option Value) (fa : Addr) (h : Heap), (K w.params).In h → h.Ns mainGlobals mg → mg d.name = some (.ref fa) →
      ∃ fd : FuncData, (∀ (s : Shared) (u : Value), BindsTo s fd ⟨[u], []⟩ [(x, u)]) ∧
        ∀ base : Heap, (K w.params).In base → base.Ns mainGlobals mg → FnG l.prog w (K w.params) mg base CX0 n fa fd [x] (sp (K w.params)))
    (hsp : ∀ (K : PySem.W.Frag) (H : Hp) (a : Addr) (ns : List Int), ns.length ≤ m → Only H → SqL K H a (ns.map V.int) → sp K [.ref a] H (fun v _ => v = .bl true) E0) :
    PySem.W.WalkO q loose XP YP l.row.toRowW d [] (fun f vs => PySem.call f vs) := by
  refine Att.attach_call hm hdf ?_
  intro w s₀ s mg mb fa o pm cd doc a vs ns G Y ho hd hcd hmg hobj hints hlen hg
  have KX := hY w _ Y
  obtain ⟨fd, hb, hF⟩ := F w mg fa _ KX G.T.g hmg
  have rv := vals_ints hints
  have hl : (ns.map V.int).length ≤ sizeLine := by
    rw [List.length_map]
    exact Nat.le_trans hlen hm2
  cases hk : (K w.params).lookup a with
  | some ob =>
    have e := KX a ob hk
    rw [hobj] at e
    cases e
    refine law_at KX G.T.g G.T.b G.T.builtins G.T.nolimit hg hobj hr hF (hb s _) (H := fun _ => none) (hsp _ _ a ns hlen (fun _ => .inl rfl) (.inr ?_)) (fun _ => .inl rfl) (fun b u z => nomatch (show (none : Option HO) = some u from z)) (fun b z => absurd rfl z) fun z => absurd rfl z
    exact ⟨_, vs.toArray, _, hk, rfl, rfl, rfl, by rw [List.size_toArray, ← rv.length]; exact hl, by simpa using rv⟩
  | none =>
    let T : HO := .frz { cls := .type "list", data := .seq vs.toArray } (.lst (ns.map V.int))
    let H0 : Hp := fun _ => none
    have at_a : upd H0 a T a = some T := upd_same
    have off : ∀ b, b ≠ a → upd H0 a T b = none := fun b z => upd_ne z
    refine law_at KX G.T.g G.T.b G.T.builtins G.T.nolimit hg hobj hr hF (hb s _) (H := upd H0 a T) (hsp _ _ a ns hlen ?_ (.inl (.inr ⟨_, at_a⟩))) ?_ ?_ ?_ fun _ => hk
    · intro b
      by_cases z : b = a
      · cases z
        exact .inr ⟨_, _, at_a⟩
      · exact .inl (off b z)
    · intro b
      by_cases z : b = a
      · cases z
        exact .inr ⟨_, _, at_a⟩
      · exact .inl (off b z)
    · intro b u e
      by_cases z : b = a
      · cases z
        cases at_a.symm.trans e
        exact ⟨hobj, hl, vs, _, rv, hobj⟩
      · rw [off b z] at e
        cases e
    · intro b z
      exact Classical.byContradiction fun y => z (off b y)
end My

set_option maxHeartbeats 2000000
/-! repr of data: flat things, lists, tuples at any depth, and dicts of flat things. -/
namespace My
open PySem PySem.Spec PyProof.Rows L2

def flatD : V → Option PyData
  | .non => some .none
  | .bl b => some (.bool b)
  | .int i => some (.int i)
  | .str x => some (.str x)
  | _ => none
def keyD : Key → PyData
  | .inl i => .int i
  | .inr x => .str x
/-- the value v is the datum d -/
inductive Dd (K : PySem.W.Frag) (H : Hp) : V → PyData → Prop
  | dat {v : V} {d : PyData} : Dp K H v d → d.hasDict = false → Dd K H v d
  | dct {a : Addr} {kvs : List (Key × V)} {ds : List PyData} : H a = some (.dK kvs) → kvs.map (fun p => flatD p.2) = ds.map some → Dd K H (.ref a) (.dict ((kvs.map fun p => keyD p.1).zip ds))
theorem flat_reads {h : Heap} {v : V} {u : Value} {d : PyData} (e : flatD v = some d) (r : RelV v u) : Reads h u d [] := by
  cases v with
  | non => cases e; cases (show u = Value.none from r); exact .none
  | bl b => cases e; cases (show u = Value.bool b from r); exact .bool b
  | int i => cases e; obtain ⟨t, rfl⟩ := (show ∃ t, u = Value.int i t from r); exact .int i t
  | str x => cases e; obtain ⟨t, rfl⟩ := (show ∃ t, u = Value.str x t from r); exact .str x t
  | byt b => cases e
  | flt b => cases e
  | ref a => cases e
  | ty n => cases e
theorem key_reads {h : Heap} {k : Key} {u : Value} (e : keyIs k u = true) : Reads h u (keyD k) [] := by
  rcases keyIs_shape e with ⟨i, t, rfl, rfl⟩ | ⟨x, t, rfl, rfl⟩
  · exact .int i t
  · exact .str x t
theorem pairs_reads {P : Program} {w : World} {h : Heap} : ∀ {kvs : List (Key × V)} {vs : List (Key × Value)} {es : List DictEntry} {ds : List PyData}, KV kvs vs → Pairs (mixKind P w) es vs → kvs.map (fun p => flatD p.2) = ds.map some →
    ReadsAll h (es.map (·.key)) (((kvs.map fun p => keyD p.1).zip ds).map (·.1)) [] ∧ ReadsAll h (es.map (·.val)) (((kvs.map fun p => keyD p.1).zip ds).map (·.2)) []
  | [], _, _, [], .nil, .nil, _ => ⟨.nil, .nil⟩
  | [], _, _, _ :: _, _, _, e => by cases e
  | _ :: _, _, _, [], _, _, e => by cases e
  | p :: kvs, _, _, d :: ds, .cons r rs, .cons k v ps, e => by
    obtain ⟨e1, e2⟩ := List.cons.inj e
    obtain ⟨i1, i2⟩ := pairs_reads (h := h) rs ps e2
    rw [← r.1] at k
    rw [← v] at r
    exact ⟨ReadsAll.cons (as := []) (bs := []) (key_reads k) i1, ReadsAll.cons (as := []) (bs := []) (flat_reads e1 r.2) i2⟩
section
variable {X : Cx} {pins : List (Addr × Obj)} {σ : L2.St} {H : Hp} {s : Shared}
theorem Dd.reads (I : Inv X pins σ H s) {v : V} {u : Value} {d : PyData} (h : Dd X.K H v d) (r : RelV v u) : ∃ as, Reads s.heap u d as ∧ (d.hasDict = true → sysModules ∉ as) := by
  cases h with
  | dat hd n =>
    obtain ⟨as, q⟩ := Dp.reads I d v u hd r
    exact ⟨as, q, fun z => by rw [n] at z; cases z⟩
  | @dct a kvs ds ha e =>
    cases (show u = Value.ref a from r)
    obtain ⟨_, ns, vs, kv, o, es, ep, ho, ex, hd, _, ps, _⟩ := (show ObjOk X.prog X.w H s.heap a (.dK kvs) from I.hok a _ ha)
    obtain ⟨q1, q2⟩ := pairs_reads (h := s.heap) kv ps e
    refine ⟨_, Reads.dict (as := []) (bs := []) ho ex.1 hd q1 q2, fun _ z => ?_⟩
    have z' : sysModules = a := by simpa using z
    rw [z'] at ns
    simp at ns
/-- repr(v), v a datum -/
def rRepr (K : PySem.W.Frag) : List V → Hp → VK → Prop := fun xs H Q => ∃ v d, xs = [v] ∧ Dd K H v d ∧ d.showable = true ∧ d.depth ≤ 60 ∧ d.shown.length ≤ sizeLine ∧ Q (.str d.shown) H
theorem call_repr (gd : X.A.guards = some []) (hu : X.A.units + 64 < cLine) : CallR X (.builtin "repr") (rRepr X.K) := by
  rintro pins s σ H xs us Q I r ⟨v, d, rfl, hd, sh, dp, sz, q⟩
  obtain ⟨u, rfl, ru⟩ := vals1 r
  obtain ⟨as, rd, ns⟩ := hd.reads I ru
  cases rd with
  | none =>
    refine PySem.P.repr_of_none ⟨.str "None", H, I.tok _, ⟨_, rfl⟩, ?_⟩
    simpa only [PyData.shown] using q
  | bool b =>
    refine PySem.P.repr_of_bool ⟨.str (if b then "True" else "False"), H, I.tok _, ⟨_, rfl⟩, ?_⟩
    simpa only [PyData.shown] using q
  | int i t =>
    refine PySem.P.repr_of_int (by simpa [PyData.showable] using sh) ⟨.str (toString i), H, I.tok _, ⟨_, rfl⟩, ?_⟩
    simpa only [PyData.shown] using q
  | str x t =>
    refine PySem.P.repr_of_str ⟨.str (reprText x), H, I.tok _, ⟨_, rfl⟩, ?_⟩ (by simpa only [PyData.shown] using sz)
    simpa only [PyData.shown] using q
  | list h1 h2 h3 h4 => exact repr_of_reads' (.list h1 h2 h3 h4) sh ns gd (by omega) (fun _ _ e => e) (fun h1 u tk hk => ⟨.str _, H, I.kept hk, ⟨u, rfl⟩, q⟩) sz
  | tuple h1 h2 h3 h4 => exact repr_of_reads' (.tuple h1 h2 h3 h4) sh ns gd (by omega) (fun _ _ e => e) (fun h1 u tk hk => ⟨.str _, H, I.kept hk, ⟨u, rfl⟩, q⟩) sz
  | dict h1 h2 h3 h4 h5 => exact repr_of_reads' (.dict h1 h2 h3 h4 h5) sh ns gd (by omega) (fun _ _ e => e) (fun h1 u tk hk => ⟨.str _, H, I.kept hk, ⟨u, rfl⟩, q⟩) sz
end
theorem Same.tup {K : PySem.W.Frag} {H H' : Hp} {a : Addr} {xs : List V} (e : Same H H') (h : SqT K H a xs) : SqT K H' a xs := by
  rcases h with (h | ⟨o, h⟩) | h
  · exact .inl (.inl (e _ _ h))
  · exact .inl (.inr ⟨o, e _ _ h⟩)
  · exact .inr h
mutual
theorem Dp.same {K : PySem.W.Frag} {H H' : Hp} (e : Same H H') : ∀ (d : PyData) (v : V), Dp K H v d → Dp K H' v d
  | .none, _, h => by cases h; exact .non
  | .bool _, _, h => by cases h; exact .bl _
  | .int _, _, h => by cases h; exact .int _
  | .str _, _, h => by cases h; exact .str _
  | .list ds, _, h => by
    cases h with
    | lst s a => exact .lst (L2.Same.seq e s) (DpAll.same e ds _ a)
  | .tuple ds, _, h => by
    cases h with
    | tup s a => exact .tup (Same.tup e s) (DpAll.same e ds _ a)
  | .dict _, _, h => by cases h
theorem DpAll.same {K : PySem.W.Frag} {H H' : Hp} (e : Same H H') : ∀ (ds : List PyData) (vs : List V), DpAll K H vs ds → DpAll K H' vs ds
  | [], _, h => by cases h; exact .nil
  | d :: ds, _, h => by
    cases h with
    | cons a b => exact .cons (Dp.same e d _ a) (DpAll.same e ds _ b)
end
theorem Dd.same {K : PySem.W.Frag} {H H' : Hp} (e : Same H H') {v : V} {d : PyData} (h : Dd K H v d) : Dd K H' v d := by
  cases h with
  | dat a n => exact .dat (Dp.same e _ _ a) n
  | dct a n => exact .dct (e _ _ a) n
end My

set_option maxHeartbeats 4000000
/-! Exceptions of own classes over ValueError as values: made by position and by name, their fields, isinstance. -/
namespace MyX
open PySem PySem.W PySem.Calls PyProof.Rows PySem.HandSPX
open Builtin Builtin.ObjectAttr
section
variable {M : Model} {prog : Program} {w : World} {A : Around} {E : Value → Shared → Prop} {R : Result → Shared → Prop} {h : Heap} {g : Array GenState} {d : Drawn} {t : Nat} {os : OsState}
variable {nm q : Str} {C N : Addr} {bs bm bmB : List Value} {hdct : Bool} {sn : List Str} {sub : List Value} {ab : Bool} {col : Option Bool} {dd : Option Addr} {k0 k1 k2 k3 k5 : Option Value} {B newId initId : String} {key : Str} {val : Value}
theorem check_type_kw {Q : Unit → Shared → Prop} (hC : h.get? C = some (excClassObj nm q C N bs bm hdct sn sub ab col dd k0 k1 k2 k3 k5 newId)) (z : Q () ⟨h, g, d, t, os⟩) :
    wpAny M A (checkBuiltinCall "type.__call__" ⟨[.ref C], [(key, val)]⟩) Q E ⟨h, g, d, t, os⟩ := by
  have e3 := tc_sub
  have ty : (⟨h, g, d, t, os⟩ : Shared).TypeIs (.ref C) "type" := ⟨_, hC, rfl⟩
  simp only [checkBuiltinCall, tc_kind, tc_split]
  repeat (any_goals (first
    | assumption
    | with_reducible refine wpAny_loadPart_at hC ?_
    | with_reducible refine wpAny_onRaise ?_
    | with_reducible refine wpAny_map ?_
    | wp_step))
theorem check_new_kw (F : ExcBaseFacts B newId initId bmB) (hT : ∀ X : String, bm.contains (.type X) = bmB.contains (.type X)) {Q : Unit → Shared → Prop}
    (hC : h.get? C = some (excClassObj nm q C N bs bm hdct sn sub ab col dd k0 k1 k2 k3 k5 newId)) (z : Q () ⟨h, g, d, t, os⟩) : wpAny M A (checkBuiltinCall newId ⟨[.ref C], [(key, val)]⟩) Q E ⟨h, g, d, t, os⟩ := by
  have hc : (Value.ref C :: bm).contains (.type B) = true := by rw [List.contains_cons, hT, F.hasB, Bool.or_true]
  have ns := F.noStar
  simp only [checkBuiltinCall, F.newKind, F.newSplit, F.newRow]
  repeat (first
    | refine wpAny_loadPart_at hC ?_
    | (refine wpAny_isSubtype_exc hC ?_; rw [hc])
    | refine wpAny_staticBase_exc hC ?_
    | refine wpAny_madeBy_exc hC ?_
    | simp only [bne_self_eq_false, Bool.false_eq_true, if_false]
    | wp_step)
  exact z
theorem new_kw (F : ExcBaseFacts B newId initId bmB) (hT : ∀ X : String, bm.contains (.type X) = bmB.contains (.type X))
    (hC : h.get? C = some (excClassObj nm q C N bs bm hdct sn sub ab col dd k0 k1 k2 k3 k5 newId))
    (z : R (.ok (.ret (.ref (h.objs.size + 1)))) ⟨(h.push (kdv_tup [])).push (excO C h.objs.size), g, d, t, os⟩) :
    codeAny (model prog w) A (.builtin newId ⟨[.ref C], [(key, val)]⟩) R ⟨h, g, d, t, os⟩ := by
  have he := F.ends
  have c1 : (Value.ref C :: bm).contains (.type B) = true := by rw [List.contains_cons, hT, F.hasB, Bool.or_true]
  have c2 : (Value.ref C :: bm).contains (.type "AttributeError") = false := by
    rw [List.contains_cons, hT, F.noAttr]
    rfl
  have c3 : (Value.ref C :: bm).contains (.type "NameError") = false := by
    rw [List.contains_cons, hT, F.noName]
    rfl
  refine codeAny_builtinAt F.entry ?_
  unfold Builtin.«BaseException.__new__»
  refine PySem.wpAt_bind ?_
  show PySem.wpAt _ _ _ (stack >>= _) _ _ _
  refine PySem.wpAt_bind (PySem.wpAt_stack fun p below => PySem.wpAt_of_wpAny ?_)
  wp_walk
  refine PySem.wpAt_of_wpAny ?_
  rw [F.owner]
  repeat (first
    | with_reducible refine wpAny_madeHere_exc F.canon hC ?_
    | with_reducible refine wpAny_loadPart_at hC ?_
    | (with_reducible refine wpAny_isSubtype_exc hC ?_; first | rw [c1] | rw [c2] | rw [c3])
    | wp_step)
  show R _ _
  rw [Heap.size_push]
  exact z
theorem type_call_kw (F : ExcBaseFacts B newId initId bmB) (hT : ∀ X : String, bm.contains (.type X) = bmB.contains (.type X)) {fI : Addr} {Q : Fin → Shared → Prop}
    (hC : h.get? C = some (excClassObj nm q C N bs bm hdct sn sub ab col dd k0 k1 k2 k3 k5 newId))
    (hi : Looks (model prog w) h (typeLookup (.ref C) "__init__") (some (.ref fI))) (hb : ∀ self, Looks (model prog w) h (bindSpecial (.ref fI) self) (.ref fI, [self]))
    (z : codeAny (model prog w) A (.call (.ref fI) ⟨[.ref (h.objs.size + 1)], [(key, val)]⟩)
      (fun r s' => match r with | .ok (.ret v) => v = .none ∧ Q (.done (.ret (.ref (h.objs.size + 1)))) s' | .ok _ => False | .error e => E e s')
      ⟨(h.push (kdv_tup [])).push (excO C h.objs.size), g, d, t, os⟩) :
    wpAny (model prog w) A (Builtin.«type.__call__» ⟨[.ref C], [(key, val)]⟩) Q E ⟨h, g, d, t, os⟩ := by
  repeat (first
    | with_reducible refine wpAny_loadPart_at hC ?_
    | with_reducible refine wpAny_madeBy_exc hC ?_
    | wp_step)
  refine codeAny_call_builtin_code (Code.quiet_builtin _ F.quiet) (check_new_kw F hT hC ?_)
  refine new_kw F hT hC ?_
  show wpAny _ _ _ _ _ _
  have k : ∀ b o, h.get? b = some o → ((h.push (kdv_tup [])).push (excO C h.objs.size)).get? b = some o := fun b o e => Heap.get?_push_of_some _ (Heap.get?_push_of_some _ e)
  have hC2 := k _ _ hC
  have at1 : ((h.push (kdv_tup [])).push (excO C h.objs.size)).get? (h.objs.size + 1) = some (excO C h.objs.size) := by heap_get
  have cc : (Value.ref C :: bm).contains (.ref C) = true := by simp
  have i1 := hi.keeps k
  have b1 := (hb (.ref (h.objs.size + 1))).keeps k
  unfold isInstance
  repeat (first
    | with_reducible refine wpAny_loadPart_at at1 ?_
    | (with_reducible refine wpAny_isSubtype_exc hC2 ?_; rw [cc])
    | wp_step)
  show wpAny _ _ (typeLookup (.ref C) _) _ _ _
  refine i1.at ?_
  refine wpAny_holding (wpAny_bind (b1.at ?_))
  refine wpAny_bind (wpAny_call (codeAny_mono z ?_))
  rintro (e | (v | _ | _ | _)) s' y <;> first | exact y | exact y.elim | skip
  all_goals first
    | (obtain ⟨rfl, y⟩ := y; first | exact wpAny_pure (wpAny_pure y) | (wp_walk; exact y))
    | exact y
theorem call_kw (F : ExcBaseFacts B newId initId bmB) (hT : ∀ X : String, bm.contains (.type X) = bmB.contains (.type X)) {fI : Addr}
    (hC : h.get? C = some (excClassObj nm q C N bs bm hdct sn sub ab col dd k0 k1 k2 k3 k5 newId))
    (hi : Looks (model prog w) h (typeLookup (.ref C) "__init__") (some (.ref fI))) (hb : ∀ self, Looks (model prog w) h (bindSpecial (.ref fI) self) (.ref fI, [self]))
    (z : codeAny (model prog w) (A.under (.builtin "type.__call__" ⟨[.ref C], [(key, val)]⟩)) (.call (.ref fI) ⟨[.ref (h.objs.size + 1)], [(key, val)]⟩) (InitBack (h.objs.size + 1) R)
      ⟨(h.push (kdv_tup [])).push (excO C h.objs.size), g, d, t, os⟩) :
    codeAny (model prog w) A (.call (.ref C) ⟨[], [(key, val)]⟩) R ⟨h, g, d, t, os⟩ := by
  have e1 := tc_lookup
  have e2 := tc_bind (.ref C)
  have ty : (⟨h, g, d, t, os⟩ : Shared).TypeIs (.ref C) "type" := ⟨_, hC, rfl⟩
  refine codeAny_of_tree ?_
  show wpAny _ _ (callAny (.ref C) _) _ _ _
  repeat (any_goals (first
    | assumption
    | with_reducible refine wpAny_loadPart_at hC ?_
    | wp_step))
  refine ⟨rfl, ?_⟩
  refine codeAny_call_builtin_at (Code.quiet_builtin _ (by decide +kernel)) entry_typeCall (check_type_kw hC (type_call_kw F hT hC hi hb ?_))
  refine codeAny_mono z ?_
  rintro (e | (v | _ | _ | _)) s' y <;> exact y
end
end MyX

set_option maxHeartbeats 4000000
/-! The layer's rules for exceptions as values. -/
namespace My
open PySem PySem.Spec PyProof.Rows L2

/-- an exception's own __init__: one field -/
def spInit (C : Addr) (fld : Str) : Sp := fun xs H Q _ => ∃ (a : Addr) (v : V), xs = [.ref a, v] ∧ H a = some (exo a C none) ∧
  ∀ d, H d = none → d ≠ a → Q .non (upd (upd H d (exd d [(fld, v)])) a (exo a C (some d)))
/-- what the class at C, its __init__ at fI must be -/
structure XCls (K : PySem.W.Frag) (C fI : Addr) (fld : Str) : Prop where
  ox : OexC K C
  iC : PySem.W.findIn K (.ref C) "__init__" = some (some (.ref fI))
  tI : PySem.W.typeIn K (.ref fI) = some (.type "function")
  xf : XfC K C
  no : PySem.W.findIn K (.ref C) fld = some none
/-- a new exception of the class at C, its dict with the one field -/
def NewX (C : Addr) (fld : Str) (v : V) (H : Hp) (Q : VK) : Prop := ∀ a d, H a = none → H d = none → d ≠ a → Q (.ref a) (upd (upd (upd H a (exo a C none)) d (exd d [(fld, v)])) a (exo a C (some d)))
def tMkX (C : Addr) (fld : Str) (ta : TA) : TE := fun σ H Q => ta σ H fun vs H1 => ∃ v, vs = [v] ∧ NewX C fld v H1 Q
section
variable {X : Cx} {nm : Str} {C fI : Addr} {k : Nat} {fd : FuncData} {fld : Str} {e : Expr} {te : TE} {ta : TA} {p pos kpos : Pos} {pins : List (Addr × Obj)} {σ : L2.St} {H : Hp}
theorem mkx_start {hp : Heap} {g : Array GenState} {dr : Drawn} {tk : Nat} {os : OsState} {us : List Value} {v : V} {Q : VK} (I : Inv X pins σ H ⟨hp, g, dr, tk, os⟩) (q : NewX C fld v H Q) :
    Inv X pins σ (upd H (hp.objs.size + 1) (exo (hp.objs.size + 1) C none)) ⟨(hp.push (PySem.W.kdv_tup us)).push (PySem.HandSPX.excO C hp.objs.size), g, dr, tk, os⟩ ∧
    spInit C fld [.ref (hp.objs.size + 1), v] (upd H (hp.objs.size + 1) (exo (hp.objs.size + 1) C none)) (fun r H2 => r = .non ∧ Q (.ref (hp.objs.size + 1)) H2) E0 := by
  have big : hp.objs.size ≤ hp.objs.size + 1 := Nat.le_succ _
  have none1 : H (hp.objs.size + 1) = none := I.hok.fresh big
  have here : ((hp.push (PySem.W.kdv_tup us)).push (PySem.HandSPX.excO C hp.objs.size)).get? (hp.objs.size + 1) = some (PySem.HandSPX.excO C hp.objs.size) := by heap_get
  refine ⟨I.laid (fun b o e => Heap.get?_push_of_some _ (Heap.get?_push_of_some _ e)) big (exo_ok here), _, v, rfl, upd_same, ?_⟩
  intro d hd hne
  rw [upd_ne hne] at hd
  exact ⟨rfl, q _ d none1 hd hne⟩
/-- behind __init__ -/
theorem mkx_end {s : Shared} {n : Addr} {Q : VK} (I : Inv X pins σ H s) {r : Result} {s' : Shared} (h : CR CX0 X.stack X.prog X.w H s (fun r H2 => r = .non ∧ Q (.ref n) H2) E0 r s') :
    PySem.W.InitBack n (fun r s' => match r with | .ok (.ret v) => EP X pins σ Q v s' | .ok _ => False | .error e => X.xe e s') r s' := by
  rcases r with er | fl
  · exact False.elim h
  · cases fl with
    | ret u =>
      obtain ⟨v, H', J, rv, ev, q⟩ := I.after h
      subst ev
      exact ⟨rv, .ref n, H', J, rfl, q⟩
    | next => exact False.elim h
    | brk => exact False.elim h
    | cont => exact False.elim h
theorem pe_mkX (T : XCls X.K C fI fld) (G : FnOk X.prog X.w X.K X.mg X.base CX0 k fI fd ["self", fld] (spInit C fld)) (hr : Room (k + 1) X.A) (hb : Binds X.K fd ["self", fld] []) (hg : Gl X nm) (hm : X.mg nm = some (.ref C)) (ha : PA X [e] ta)
    (hdb : (nm == ("__debug__" : Str)) = false := by decide) (hs : starEach [e] X.env = (false, eval e X.env) :: starEach [] X.env := by rfl) (hpl : (backTo pos (starEach [] X.env)).any (·.1) = false := by rfl) :
    PE X (.Call (.Name nm p) [e] [] pos) (tMkX C fld ta) := by
  refine ⟨?_⟩
  intro pins s σ H Q I h
  obtain ⟨cn, q, N, bs, bm, sn, sub, ab, col, dd, k0, k1, k2, k3, k5, hC, hbm⟩ := T.ox.cls
  refine wpAny_Call_Name_kw (ld_glob I hg hm ?_ hdb)
  refine PySem.W.callWith_K (h₀ := X.base) I.ok.mod.kin T.ox.kC (thn (ha.run pos pins s σ H _ I h) ?_) hs hpl
  rintro us s1 ⟨vs, H1, I1, r, v, rfl, q1⟩
  refine ⟨I1.kIn, ?_⟩
  obtain ⟨u, rfl, ru⟩ := vals1 r
  obtain ⟨hp, g, dr, tk, os⟩ := s1
  obtain ⟨I2, h2⟩ := mkx_start (us := [u]) I1 q1
  show wpAny _ _ (call (.ref C) [u]) _ _ _
  have bd := hb _ [.ref (hp.objs.size + 1), u] I2.kIn rfl
  refine wpAny_call (PySem.HandSPX.call_own PySem.F.excBase_ValueError (fun Y => PySem.HandSPX.refsVE_contains Y bm hbm) (I1.kIn _ _ hC) (PySem.W.looks_findIn I1.kIn T.iC) (fun self => PySem.W.bind_fn I1.kIn self T.tI) (by show 1 ≤ sizeLine; decide) ?_)
  refine codeAny_mono (G.run _ X.stack _ _ ⟨[.ref (hp.objs.size + 1), u], []⟩ [.ref (hp.objs.size + 1), u] [.ref (hp.objs.size + 1), v] _ E0 (hr.make C [u] []) (I2.env0.make C [u] []) bd (.cons rfl (.cons ru .nil)) h2) ?_
  intro r s' hq
  exact mkx_end I2 hq
/-- the same by the field's name -/
theorem pe_mkXK {tk : TA} (T : XCls X.K C fI fld) (G : FnOk X.prog X.w X.K X.mg X.base CX0 k fI fd ["self", fld] (spInit C fld)) (hr : Room (k + 1) X.A) (hb : ∀ (s : Shared) (a u : Value), BindsTo s fd ⟨[a], [(fld, u)]⟩ ([("self" : Str), fld].zip [a, u])) (hg : Gl X nm) (hm : X.mg nm = some (.ref C))
    {kws : List Keyword} (hk : PK X kws tk) (hall : (backToKw pos (keywordEach kws X.env)).all (·.1.isSome) = true := by rfl) (hks : (backToKw pos (keywordEach kws X.env)).filterMap (·.1) = [fld] := by rfl)
    (hdb : (nm == ("__debug__" : Str)) = false := by decide) (hpl : ((backTo pos (starEach [] X.env)).any (·.1) || (backToKw pos (keywordEach kws X.env)).any (·.1.isNone)) = false := by rfl) :
    PE X (.Call (.Name nm p) [] kws pos) (tMkX C fld tk) := by
  refine ⟨?_⟩
  intro pins s σ H Q I h
  obtain ⟨cn, q, N, bs, bm, sn, sub, ab, col, dd, k0, k1, k2, k3, k5, hC, hbm⟩ := T.ox.cls
  refine wpAny_Call_Name_kw (ld_glob I hg hm ?_ hdb)
  refine PySem.W.callWith_KW0 (h₀ := X.base) I.ok.mod.kin T.ox.kC hall (thn (hk.run pos pins s σ H _ I h) ?_) hpl
  rintro us s1 ⟨vs, H1, I1, r, v, rfl, q1⟩
  refine ⟨I1.kIn, ?_⟩
  obtain ⟨u, rfl, ru⟩ := vals1 r
  rw [hks]
  obtain ⟨hp, g, dr, tk, os⟩ := s1
  obtain ⟨I2, h2⟩ := mkx_start (us := []) I1 q1
  show wpAny _ _ (call (.ref C) [] [(fld, u)]) _ _ _
  refine wpAny_call (MyX.call_kw PySem.F.excBase_ValueError (fun Y => PySem.HandSPX.refsVE_contains Y bm hbm) (I1.kIn _ _ hC) (PySem.W.looks_findIn I1.kIn T.iC) (fun self => PySem.W.bind_fn I1.kIn self T.tI) ?_)
  refine codeAny_mono (G.run _ X.stack _ _ ⟨[.ref (hp.objs.size + 1)], [(fld, u)]⟩ [.ref (hp.objs.size + 1), u] [.ref (hp.objs.size + 1), v] _ E0 (hr.make C [] [(fld, u)]) (I2.env0.make C [] [(fld, u)]) (hb _ _ _) (.cons rfl (.cons ru .nil)) h2) ?_
  intro r s' hq
  exact mkx_end I2 hq
/-- C(), an own exception class without an __init__ -/
theorem pe_mkX0 {bmB : List Value} {B newId initId : String} (F : ExcBaseFacts B newId initId bmB) (q : PySem.W.excIn X.K C bmB newId = true) (gC : X.mg nm = some (.ref C)) (kC : PySem.W.keepIn X.K (.ref C) = true) (hg : Gl X nm) (hdb : (nm == ("__debug__" : Str)) = false := by decide) :
    PE X (.Call (.Name nm p) [] [] pos) (fun _ H Q => ∀ a, H a = none → Q (.ref a) (upd H a (ExO (.ref C) a))) := by
  refine ⟨?_⟩
  intro pins s σ H Q I h
  refine wpAny_Call_Name_kw (ld_glob I hg gC ?_ hdb)
  refine PySem.W.callWith_K0 I.kIn kC ?_
  show wpAny _ _ (call (.ref C) []) _ _ _
  obtain ⟨bm, N, nm, qn, bs, hdct, sn, sub, ab, col, dd, k0, k1, k2, k3, k5, mN, hC, hN, hni, T⟩ := exc_obj I.kIn q
  refine wpAny_call_exc_subT F T hC hN hni ?_ (by show 0 ≤ sizeLine; decide)
  intro h' a hm
  have hn : H a = none := I.hok.gone hm.new
  obtain ⟨t, ht, _, _⟩ := hm.there
  exact ⟨.ref a, _, I.laidN hm.keeps hm.new hn (exO_ok ht ⟨rfl, rfl⟩ rfl rfl rfl (show 4 < 6 by decide)), rfl, h a hn⟩

/-- e.f, e such an exception -/
def tXget (K : PySem.W.Frag) (f : Str) (te : TE) : TE := fun σ H Q => te σ H fun x H1 => ∃ (a C d : Addr) (fs : List (Str × V)) (v : V), x = .ref a ∧ H1 a = some (exo a C (some d)) ∧ H1 d = some (exd d fs) ∧ XfC K C ∧
  PySem.W.findIn K (.ref C) f = some none ∧ fs.lookup f = some v ∧ Q v H1
theorem pe_xget {f : Str} (he : PE X e te) (hb : attributeBase e f X.env (eval e X.env) = eval e X.env := by rfl) : PE X (.Attribute e f pos) (tXget X.K f te) := by
  refine ⟨?_⟩
  intro pins s σ H Q I h
  refine attr_of hb (thn (he.run pins s σ H _ I h) ?_)
  rintro u s1 ⟨x, H1, I1, rx, a, C, d, fs, v, rfl, ha, hd, T, no, l, q⟩
  obtain rfl : u = Value.ref a := rx
  obtain ⟨t1, oa⟩ := exo_at I1.hok ha
  obtain ⟨mA, ns, rel⟩ := exd_at I1.hok hd
  obtain ⟨od, hod, hl⟩ := lookIn_ns ns
  obtain ⟨u, hu, ru⟩ := RelO.some_of (v := v) (o := mA f) (by rw [← l]; exact rel f)
  have J : PySem.W.InstAt s1.heap a { cls := .ref C, dict := some d, data := .fields #[.ref t1, .none, .none, .none, .bool false, .none] } C (some od) := ⟨oa, rfl, rfl, hod⟩
  exact HandSPX.exc_get I1.kIn J T.ga T.gg T.exC (PySem.W.findObj_own T.hdC no rfl (by rw [hl, hu])) (handed_of ru) ⟨v, H1, I1.tok _, ru, q⟩

/-- at a: an exception of the class at C -/
def IsX (H : Hp) (a C : Addr) : Prop := (∃ d fs, H a = some (exo a C (some d)) ∧ H d = some (exd d fs)) ∨ H a = some (ExO (.ref C) a)
/-- what isinstance asks of such a class -/
structure XIs (K : PySem.W.Frag) (C : Addr) : Prop where
  cl : (PySem.W.clsIn K C).isSome = true
  xf : XfC K C
  ha : PySem.W.findIn K (.ref C) "__class__" = some (some (.builtin "object.__class__"))
  hn : PySem.W.specialIn K (.builtin "object.__class__") "__get__" = some (some (.builtin "getset_descriptor.__get__"))
  ht : PySem.W.takesIn K (.builtin "object.__class__") = some true
  hm : PySem.W.mroIn K C (.type "object") = some true
def rIsX (K : PySem.W.Frag) : List V → Hp → VK → Prop := fun xs H Q => ∃ (a C : Addr) (c : V) (u : Value) (b : Bool), xs = [.ref a, c] ∧ ClsV c u ∧ IsX H a C ∧ XIs K C ∧ PySem.W.kitOne K (.ref C) u = some b ∧ Q (.bl b) H
theorem call_isX : CallR X (.builtin "isinstance") (rIsX X.K) := by
  rintro pins s σ H xs us Q I r ⟨a, C, c, u, b, rfl, cv, hx, T, kit, q⟩
  obtain ⟨u1, u2, rfl, r1, r2⟩ := vals2 r
  obtain rfl : u2 = u := cv.eq r2
  obtain rfl : u1 = Value.ref a := r1
  have go : ∀ (ox : Obj) (od : Option Obj), PySem.W.InstAt s.heap a ox C od → wpAny (model X.prog X.w) X.A (call (.builtin "isinstance") [.ref a, u2]) (EP X pins σ Q) X.xe s := fun ox od J =>
    PySem.W.kia_one (PySem.W.kitx_exc T.cl T.xf.ga T.xf.gg T.xf.exC T.ha T.hn T.ht T.hm) I.kIn J kit (fun z => nomatch z) fun tk => ⟨.bl b, H, I.tok tk, rfl, q⟩
  rcases hx with ⟨d, fs, ha, hd⟩ | ha
  · obtain ⟨t1, oa⟩ := exo_at I.hok ha
    obtain ⟨mA, ⟨od, es, ep, hod, _⟩, _⟩ := exd_at I.hok hd
    exact go _ (some od) ⟨oa, rfl, rfl, hod⟩
  · have z : ObjOk X.prog X.w H s.heap a (ExO (.ref C) a) := I.hok a _ ha
    obtain ⟨⟨oe, vs, ho, ⟨z1, z2⟩, hd, _⟩, _⟩ := z
    refine go oe none ⟨ho, z1, ?_, ?_⟩
    · unfold PySem.W.notCls
      rw [hd]
    · rw [z2]
      trivial
end
end My

set_option maxHeartbeats 4000000
/-! The law's draws: the well, a draw, a pick, sameness of what is shown. -/
namespace My
open PySem PySem.Spec PyProof.Rows L2
def top (i : Nat) : Stmt := PySem.Challenge.pw_perfectgraphs_k07_whole_chromatic_number.main.body.getD i (.Pass ⟨0, 0, 0, 0⟩)
abbrev sWell : Stmt := top 23
abbrev sDraw : Stmt := top (23 + 1)
abbrev sPick : Stmt := top (23 + 2)
abbrev sSame : Stmt := top (23 + 3)
theorem scWell : FnScope ["script", "turn", "cell", "mixed", "each"] ["script", "turn"] (defScope sWell) := ⟨rfl, rfl, rfl, by decide +kernel, rfl, by decide +kernel, by decide +kernel⟩
theorem scDraw : FnScope ["well", "many", "figure", "mixed"] ["well", "many"] (defScope sDraw) := ⟨rfl, rfl, rfl, by decide +kernel, rfl, by decide +kernel, by decide +kernel⟩
theorem scPick : FnScope ["well", "some"] ["well", "some"] (defScope sPick) := ⟨rfl, rfl, rfl, by decide +kernel, rfl, by decide +kernel, by decide +kernel⟩
theorem scSame : FnScope ["told", "due"] ["told", "due"] (defScope sSame) := ⟨rfl, rfl, rfl, by decide +kernel, rfl, by decide +kernel, by decide +kernel⟩

theorem same_new {H : Hp} {p : Addr} (h : H p = none) (o : HO) : Same H (upd H p o) := fun b u q => by rw [upd_ne (ne_of_none q h)]; exact q
theorem small {n : Nat} (h : n ≤ 1000) : n ≤ sizeLine := Nat.le_of_lt (small1000 h)
theorem iteB {c : Bool} {A B : Prop} (h1 : c = true → A) (h2 : c = false → B) : if c = true then A else B := by
  cases c with
  | true => exact iteT (h1 rfl)
  | false => exact iteF (h2 rfl)
/-- what follows one of two ways, once: the value goes on with K -/
theorem join {i : Nat} {σ : L2.St} {N : L2.St → Hp → Prop} {H : Hp} {G : Prop} {R : V → Prop} (h : (∀ v, R v → gName i v σ H N) → G) (g : ∀ v, R v → gName i v σ H N) : G := h g
/-- a well at p -/
def Wl (H : Hp) (p : Addr) : Prop := ∃ a b c : Int, H p = some (.lst [.int a, .int b, .int c])
/-- all but p is as it was -/
def But (p : Addr) (H H' : Hp) : Prop := ∀ q o, q ≠ p → H q = some o → H' q = some o
theorem But.refl (p : Addr) (H : Hp) : But p H H := fun _ _ _ e => e
theorem But.trans {p : Addr} {H1 H2 H3 : Hp} (x : But p H1 H2) (y : But p H2 H3) : But p H1 H3 := fun q o n e => y q o n (x q o n e)
theorem But.new {p q : Addr} {H : Hp} {o : HO} (n : H q = none) : But p H (upd H q o) := fun b u _ e => by rw [upd_ne (ne_of_none e n)]; exact e
theorem But.put {p : Addr} {H : Hp} {o : HO} : But p H (upd H p o) := fun b u n e => by rw [upd_ne n]; exact e
theorem But.of {p : Addr} {H H' : Hp} (s : Same H H') : But p H H' := fun b u _ e => s b u e
/-- the heap without p -/
def hide (p : Addr) (H : Hp) : Hp := fun q => if q = p then none else H q
theorem hide_ne {p q : Addr} {H : Hp} (h : q ≠ p) : hide p H q = H q := if_neg h
theorem hide_at {p : Addr} {H : Hp} : hide p H p = none := if_pos rfl
theorem hide_some {p q : Addr} {H : Hp} {o : HO} (h : hide p H q = some o) : q ≠ p ∧ H q = some o := by
  by_cases e : q = p
  · rw [e, hide_at] at h
    cases h
  · rw [hide_ne e] at h
    exact ⟨e, h⟩
theorem hide_sub (p : Addr) (H : Hp) : Same (hide p H) H := fun q o h => (hide_some h).2
theorem But.hide {p : Addr} {H H' : Hp} (h : But p H H') : Same (hide p H) (hide p H') := fun q o e => by
  obtain ⟨n, e⟩ := hide_some e
  rw [hide_ne n]
  exact h q o n e
/-- fit to be shown -/
def Fine (d : PyData) : Prop := d.showable = true ∧ d.depth ≤ 60 ∧ d.shown.length ≤ sizeLine
instance (d : PyData) : Decidable (Fine d) := inferInstanceAs (Decidable (_ ∧ _ ∧ _))

def spWell (K : PySem.W.Frag) : Sp := fun vs H Q _ => ∃ (a : Addr) (ns : List Int) (t : Nat), vs = [.ref a, .int (t : Int)] ∧ SqL K H a (ns.map V.int) ∧ ns.length ≤ 63 ∧ t ≤ 2 ∧
  ∀ (H' : Hp) (p : Addr), Same H H' → H p = none → Wl H' p → Q (.ref p) H'
def spDraw : Sp := fun vs H Q _ => ∃ (p : Addr) (m : Int), vs = [.ref p, .int m] ∧ Wl H p ∧ 0 < m ∧ m < 1000000 ∧
  ∀ (r : Int) (H' : Hp), 0 ≤ r → r < m → But p H H' → Wl H' p → Q (.int r) H'
/-- from a tuple that stands beside the well -/
def spPick (K : PySem.W.Frag) : Sp := fun vs H Q _ => ∃ (p t : Addr) (xs : List V), vs = [.ref p, .ref t] ∧ Wl H p ∧ SqT K (hide p H) t xs ∧ 0 < xs.length ∧ xs.length < 1000 ∧
  ∀ (i : Nat) (v : V) (H' : Hp), xs[i]? = some v → But p H H' → Wl H' p → Q v H'
def spSame (K : PySem.W.Frag) : Sp := fun vs H Q _ => ∃ (x y : V) (d e : PyData), vs = [x, y] ∧ Dd K H x d ∧ Dd K H y e ∧ Fine d ∧ Fine e ∧ Q (.bl (decide (V.str d.shown = V.str e.shown))) H
section
variable {P : Program} {w : World} {K : PySem.W.Frag} {mg : Str → Option Value} {base : Heap} {f fD : Addr} {fd dD : FuncData}
theorem ok_well (F : L2.Fun K "_law_well" "_law_well" sWell f fd) (ml : mg "len" = none) (mi : mg "int" = none) (ma : mg "abs" = none) : FnOk P w K mg base CX0 1 f fd ["script", "turn"] (spWell K) := by
  refine F.ok scWell (fun vs H Q E h => ?_) (fun cdv A outer s H vs Q E hr h => ?_)
  · obtain ⟨a, ns, t, rfl, _⟩ := h
    rfl
  obtain ⟨a, ns, t, rfl, hS, h63, h2, q⟩ := h
  refine ⟨_, pss_cons (ps_set (i := 2) scWell.nd rfl (.inl rfl) (pe_ifExp (pt_cmpR op_lt (pv 1) (pe_callB call_len_seq (by rfl) ml PySem.boot_len (pa_cons (pv 0) pa_nil)) (nomark _))
        (pe_callTy call_int1 (by rfl) mi (by decide +kernel) (pa_cons (pe_ix ix_list (pv 0) (pv 1) (fun _ _ => rfl)) pa_nil))
        (pe_op op_add (pe_op op_mul pe_int (pv 1)) pe_int)))
    (pss_cons (ps_set (i := 3) scWell.nd rfl (.inl rfl) (pe_op op_add pe_int (pe_op op_mul pe_int (pv 1))))
    (pss_cons (ps_for PassesOwn.never rfl (pi_list (pe_slice sl_list (pv 0) po_none (po_some pe_int))) (pg_name (i := 4) scWell.nd rfl (.inl rfl))
      (pss_one (ps_set (i := 3) scWell.nd rfl (.inl rfl) (pe_op op_mod (pe_callTy call_int1 (by rfl) mi (by decide +kernel) (pa_cons (pe_op op_add (pe_op op_add (pe_op op_mul (pv 3) pe_int)
        (pe_op op_mod (pe_callTy call_int1 (by rfl) mi (by decide +kernel) (pa_cons (pv 4) pa_nil)) pe_int)) pe_int) pa_nil)) pe_int))))
    (pss_cons (ps_set (i := 3) scWell.nd rfl (.inl rfl) (pe_op op_mod (pe_callTy call_int1 (by rfl) mi (by decide +kernel) (pa_cons (pe_op op_add (pe_op op_add (pe_op op_mul (pv 3) pe_int)
        (pe_op op_mul (pe_op op_mod (pe_callTy call_int1 (by rfl) mi (by decide +kernel) (pa_cons (pv 2) pa_nil)) pe_int) pe_int)) pe_int) pa_nil)) pe_int))
    (pss_one (ps_ret (pe_lst (pa_cons (pe_ifExp (PW.pt (pw_or (pt_cmpR op_lt (pv 2) pe_int (nomark _)) (pw_or1 (pt_cmpR op_ge (pv 2) (pe_op op_pow pe_int pe_int) (nomark _)))))
      (pe_callB call_abs (by rfl) ma (by decide +kernel) (pa_cons (pv 2) pa_nil)) pe_int) (pa_cons (pv 3) (pa_cons pe_int pa_nil))))))))), ?_⟩
  have hl : (ns.map V.int).length = ns.length := List.length_map _
  refine ⟨_, rfl, _, rfl, a, _, rfl, .inl hS, _, _, rfl, rfl, _, rfl, ?_⟩
  refine' join (i := 2) (R := fun v => ∃ n : Int, v = V.int n) (fun go => ?_) ?_
  rotate_left 3
  · refine iteB (fun c => ?_) (fun c => ?_)
    · have c1 : ((t : Nat) : Int) < (((ns.map V.int).length : Nat) : Int) := of_decide_eq_true c
      have c2 : t < ns.length := by rw [hl] at c1; omega
      have at1 : atI (ns.map V.int) ((t : Nat) : Int) = some (.int ns[t]) := atI_nat (by rw [List.getElem?_map, List.getElem?_eq_getElem c2] <;> rfl)
      exact ⟨_, rfl, _, rfl, a, _, _, _, rfl, rfl, hS, at1, .inl ⟨_, rfl, go _ ⟨_, rfl⟩⟩⟩
    · exact ⟨_, rfl, _, _, rfl, rfl, .inl ⟨by decide, by decide⟩, _, _, rfl, rfl, go _ ⟨_, rfl⟩⟩
  rintro _ ⟨cell, rfl⟩
  refine ⟨_, rfl, _, _, rfl, rfl, .inl ⟨by decide, by decide⟩, _, _, rfl, rfl, ?_⟩
  refine ⟨_, rfl, 9, rfl, a, _, rfl, hS, fun p np => ?_⟩
  refine ⟨p, rfl, ⟨_, SqL.of upd_same⟩, for_list (K := K) (a := p) (xs := cutV (ns.map V.int) none (some 9)) (fun i σ H' => ∃ (m : Int) (e : Option V), σ = [some (.ref a), some (.int (t : Int)), some (.int cell), some (.int m), e] ∧ H' = upd H p (.lst (cutV (ns.map V.int) none (some 9)))) ⟨_, none, rfl, rfl⟩ ?_ ?_ ?_⟩
  · rintro i σ H' _ ⟨m, e, rfl, rfl⟩
    exact SqL.of upd_same
  · rintro i x σ H' hi ⟨m, e, rfl, rfl⟩
    obtain ⟨z, rfl⟩ : ∃ z, x = V.int z := by
      have mem := List.mem_of_getElem? hi
      unfold cutV at mem
      have mem2 := List.mem_of_mem_drop (List.mem_of_mem_take mem)
      obtain ⟨z, _, e⟩ := List.mem_map.mp mem2
      exact ⟨z, e.symm⟩
    refine ⟨_, rfl, _, _, rfl, rfl, .inr ⟨by decide, by decide⟩, _, rfl, .inl ⟨_, rfl, _, _, rfl, rfl, (show (0 : Int) < 2147483543 by decide), _, _, rfl, rfl, _, _, rfl, rfl, .inl ⟨_, rfl, _, _, rfl, rfl, (show (0 : Int) < 2147483629 by decide), ?_⟩⟩⟩
    exact ⟨_, _, rfl, rfl⟩
  rintro σ H' ⟨m, e, rfl, rfl⟩
  refine ⟨_, rfl, _, _, rfl, rfl, .inr ⟨by decide, by decide⟩, _, rfl, .inl ⟨_, rfl, _, _, rfl, rfl, (show (0 : Int) < 2147483543 by decide), _, _, rfl, rfl, .inr ⟨by decide, by decide⟩, _, _, rfl, rfl, _, _, rfl, rfl, .inl ⟨_, rfl, _, _, rfl, rfl, (show (0 : Int) < 2147483629 by decide), ?_⟩⟩⟩
  have fin : ∀ (x y : Int) (r : Addr), upd H p (.lst (cutV (ns.map V.int) none (some 9))) r = none → Q (.ref r) (upd (upd H p (.lst (cutV (ns.map V.int) none (some 9)))) r (.lst [.int x, .int y, .int 0])) := fun x y r nr =>
    q _ r ((same_new np _).trans (same_new nr _)) ((same_new np _).free nr) ⟨x, y, 0, upd_same⟩
  refine ⟨_, rfl, _, _, rfl, rfl, _, rfl, iteB (fun _ => iteT ?_) (fun _ => ⟨_, rfl, _, _, rfl, rfl, (by show (0 : Int) ≤ 15 ∧ (15 : Int) ≤ 1000000 ∧ (10 : Int).natAbs < 2 ^ 64; decide), _, _, rfl, rfl, _, rfl, iteB (fun _ => ?_) (fun _ => ?_)⟩)⟩
  · exact ⟨_, rfl, _, rfl, _, rfl, (by show 3 ≤ sizeLine; decide), fun r nr => fin _ _ r nr⟩
  · exact ⟨_, rfl, _, rfl, _, rfl, (by show 3 ≤ sizeLine; decide), fun r nr => fin _ _ r nr⟩
  · exact ⟨_, rfl, (by show 3 ≤ sizeLine; decide), fun r nr => fin _ _ r nr⟩
theorem ok_draw (F : L2.Fun K "_law_draw" "_law_draw" sDraw f fd) (md : mg "divmod" = none) (mi : mg "int" = none) : FnOk P w K mg base CX0 1 f fd ["well", "many"] spDraw := by
  refine F.ok scDraw (fun vs H Q E h => ?_) (fun cdv A outer s H vs Q E hr h => ?_)
  · obtain ⟨p, m, rfl, _⟩ := h
    rfl
  obtain ⟨p, m, rfl, ⟨a, b, c, hp⟩, m0, m1, q⟩ := h
  refine ⟨_, pss_cons (ps_if (pt_cmpR op_gt (pe_ix ix_list (pv 0) pe_int (fun _ _ => rfl)) pe_int (nomark _))
      (pss_cons (ps_asg (pe_callB call_divmod (by rfl) md (by decide +kernel) (pa_cons (pe_ix ix_list (pv 0) pe_int (fun _ _ => rfl)) (pa_cons (pv 1) pa_nil))) (pg_tup (by rfl) (pgs_cons (pg_sub (pv 0) pe_int set_list) (pgs_cons (pg_name (i := 2) scDraw.nd rfl (.inl rfl)) pgs_nil))))
        (pss_one (ps_ret (pv 2)))) pss_nil)
    (pss_cons (ps_asg (pe_op op_add (pe_ix ix_list (pv 0) pe_int (fun _ _ => rfl)) pe_int) (pg_sub (pv 0) pe_int set_list))
    (pss_cons (ps_set (i := 3) scDraw.nd rfl (.inl rfl) (pe_op op_mod (pe_callTy call_int1 (by rfl) mi (by decide +kernel) (pa_cons (pe_op op_add (pe_op op_add (pe_op op_mul (pe_ix ix_list (pv 0) pe_int (fun _ _ => rfl)) pe_int)
        (pe_op op_mul pe_int (pe_ix ix_list (pv 0) pe_int (fun _ _ => rfl)))) pe_int) pa_nil)) pe_int))
    (pss_cons (ps_asg (pe_op op_mod (pe_callTy call_int1 (by rfl) mi (by decide +kernel) (pa_cons (pe_op op_add (pe_op op_mul (pv 3) (pe_op op_add (pe_op op_mod (pe_callTy call_int1 (by rfl) mi (by decide +kernel) (pa_cons (pv 3) pa_nil)) pe_int) pe_int))
        (pe_ix ix_list (pv 0) pe_int (fun _ _ => rfl))) pa_nil)) pe_int) (pg_sub (pv 0) pe_int set_list))
    (pss_one (ps_ret (pe_op op_mod (pe_callTy call_int1 (by rfl) mi (by decide +kernel) (pa_cons (pe_op op_fdiv (pe_ix ix_list (pv 0) pe_int (fun _ _ => rfl)) pe_int) pa_nil)) (pv 1))))))), ?_⟩
  refine ⟨_, rfl, p, _, _, _, rfl, rfl, SqL.of hp, rfl, _, _, rfl, rfl, _, rfl, iteB (fun c1 => ?_) (fun _ => ?_)⟩
  · have a0 : a > 0 := of_decide_eq_true c1
    refine ⟨_, rfl, p, _, _, _, rfl, rfl, SqL.of hp, rfl, _, rfl, a, m, rfl, ⟨m0, by omega⟩, fun t nt => ?_⟩
    refine ⟨t, _, rfl, SqT.of upd_same, rfl, _, _, rfl, _, rfl, p, [.int a, .int b, .int c], _, 0, rfl, rfl, ?_, rfl, ?_⟩
    · rw [upd_ne (ne_of_none hp nt)]
      exact hp
    refine ⟨_, _, rfl, ⟨rfl, _, rfl, ?_⟩⟩
    exact q (a % m) _ (Int.emod_nonneg _ (by omega)) (Int.emod_lt_of_pos _ m0) ((But.new nt).trans But.put) ⟨_, _, _, upd_same⟩
  · refine ⟨_, rfl, p, _, _, _, rfl, rfl, SqL.of hp, rfl, _, _, rfl, rfl, _, rfl, p, [.int a, .int b, .int c], _, 2, rfl, rfl, hp, rfl, ?_⟩
    have h1 : upd H p (.lst [.int a, .int b, .int (c + 1)]) p = some (.lst [.int a, .int b, .int (c + 1)]) := upd_same
    refine ⟨_, rfl, p, _, _, _, rfl, rfl, SqL.of h1, rfl, _, _, rfl, rfl, .inr ⟨by decide, by decide⟩, _, rfl, p, _, _, _, rfl, rfl, SqL.of h1, rfl, _, _, rfl, rfl, .inl ⟨by decide, by decide⟩, _, _, rfl, rfl, _, _, rfl, rfl,
      .inl ⟨_, rfl, _, _, rfl, rfl, (show (0 : Int) < 2147483399 by decide), ?_⟩⟩
    generalize (b * 40692 + 3301 * (c + 1) + 83) % 2147483399 = z
    have y1 := Int.emod_nonneg z (show (4001 : Int) ≠ 0 by decide)
    have y2 := Int.emod_lt_of_pos z (show (0 : Int) < 4001 by decide)
    refine ⟨_, rfl, _, rfl, .inl ⟨_, rfl, _, _, rfl, rfl, (show (0 : Int) < 4001 by decide), _, _, rfl, rfl, _, _, rfl, rfl, .inr ⟨by omega, by omega⟩, _, rfl, p, _, _, _, rfl, rfl, SqL.of h1, rfl, _, _, rfl, rfl,
      .inl ⟨_, rfl, _, _, rfl, rfl, (show (0 : Int) < 2147483399 by decide), _, rfl, p, [.int a, .int b, .int (c + 1)], _, 1, rfl, rfl, h1, rfl, ?_⟩⟩⟩
    refine ⟨_, rfl, p, _, _, _, rfl, rfl, SqL.of upd_same, rfl, _, _, rfl, rfl, ⟨by decide, by decide⟩, .inl ⟨_, rfl, _, rfl, _, _, rfl, rfl, m0, ?_⟩⟩
    exact q _ _ (Int.emod_nonneg _ (by omega)) (Int.emod_lt_of_pos _ m0) (But.put.trans But.put) ⟨_, _, _, upd_same⟩
theorem ok_pick (F : L2.Fun K "_law_pick" "_law_pick" sPick f fd) (GD : FnOk P w K mg base CX0 1 fD dD ["well", "many"] spDraw) (bD : L2.Binds K dD ["well", "many"] []) (kD : PySem.W.keepIn K (.ref fD) = true) (mD : mg "_law_draw" = some (.ref fD)) (ml : mg "len" = none) :
    FnOk P w K mg base CX0 2 f fd ["well", "some"] (spPick K) := by
  refine F.ok scPick (fun vs H Q E h => ?_) (fun cdv A outer s H vs Q E hr h => ?_)
  · obtain ⟨p, t, xs, rfl, _⟩ := h
    rfl
  obtain ⟨p, t, xs, rfl, hW, hT, l0, l1, q⟩ := h
  refine ⟨_, pss_one (ps_ret (pe_ix ix_tup (pv 1) (pe_call GD hr (by rfl) mD kD bD .nil pass0 (pa_cons (pv 0) (pa_cons (pe_callB call_len_seq (by rfl) ml PySem.boot_len (pa_cons (pv 1) pa_nil)) pa_nil))) (fun _ _ => rfl))), ?_⟩
  have hT0 : SqT K H t xs := Same.tup (hide_sub p H) hT
  refine ⟨_, rfl, _, rfl, _, rfl, t, xs, rfl, .inr hT0, p, _, rfl, hW, by omega, by omega, fun r H' r0 r1 bt hW' => ?_⟩
  obtain ⟨i, rfl⟩ : ∃ i : Nat, r = (i : Int) := ⟨r.toNat, by omega⟩
  have hi : i < xs.length := by omega
  exact ⟨t, xs, _, xs[i], rfl, rfl, Same.tup (hide_sub p H') (Same.tup bt.hide hT), atI_nat (List.getElem?_eq_getElem hi), q i _ H' (List.getElem?_eq_getElem hi) bt hW'⟩
theorem ok_same (F : L2.Fun K "_law_same" "_law_same" sSame f fd) (mr : mg "repr" = none) : FnG P w K mg base CX0 1 f fd ["told", "due"] (spSame K) := by
  refine okG F scSame (fun vs H Q E h => ?_) (fun cdv A outer s H vs Q E gd hr h => ?_)
  · obtain ⟨x, y, d, e, rfl, _⟩ := h
    rfl
  obtain ⟨x, y, d, e, rfl, h1, h2, ⟨f1, f2, f3⟩, ⟨g1, g2, g3⟩, q⟩ := h
  have gd' : (A.deeper (envOfC "_law_same" (defScope sSame) s.heap.objs.size f cdv)).guards = some [] := gd
  refine ⟨_, pss_one (ps_ret (pe_cmpR op_eq (pe_callB (call_repr gd' hr.units) (by rfl) mr (by decide +kernel) (pa_cons (pv 0) pa_nil)) (pe_callB (call_repr gd' hr.units) (by rfl) mr (by decide +kernel) (pa_cons (pv 1) pa_nil)) (nomark _))), ?_⟩
  exact ⟨_, rfl, _, d, rfl, h1, f1, f2, f3, _, rfl, _, e, rfl, h2, g1, g2, g3, rfl, q⟩
end
end My

set_option maxHeartbeats 2000000
/-! Graphs as pairs of numbers: what a GRAPH is, in plain Lean. -/
namespace My
open PySem PySem.Spec PyProof.Rows L2
abbrev E2 := Nat × Nat
theorem same_put {H H1 : Hp} {D : Addr} {o : HO} (s : Same H H1) (n : H D = none) : Same H (upd H1 D o) := fun b u e => by
  rw [upd_ne (ne_of_none e n)]
  exact s b u e
/-- a stands ahead of b, as tuples -/
def ahead (a b : E2) : Prop := a.1 < b.1 ∨ (a.1 = b.1 ∧ a.2 < b.2)
instance (a b : E2) : Decidable (ahead a b) := inferInstanceAs (Decidable (_ ∨ _))
structure Good (n : Nat) (es : List E2) : Prop where
  n9 : n ≤ 9
  lt : ∀ p ∈ es, p.1 < p.2 ∧ p.2 < n
  up : es.Pairwise ahead
/-- the pairs with u ahead, below n; all pairs below n, ascending -/
def rowP (n u : Nat) : List E2 := (List.range (n - (u + 1))).map fun j => (u, u + 1 + j)
def allP (n : Nat) : List E2 := (List.range n).flatMap (rowP n)
theorem mem_rowP {n u : Nat} {p : E2} : p ∈ rowP n u ↔ p.1 = u ∧ u < p.2 ∧ p.2 < n := by
  unfold rowP
  rw [List.mem_map]
  constructor
  · rintro ⟨j, hj, rfl⟩
    have := List.mem_range.mp hj
    refine ⟨rfl, ?_, ?_⟩ <;> show _ < _ <;> omega
  · rintro ⟨h1, h2, h3⟩
    refine ⟨p.2 - (u + 1), List.mem_range.mpr (by omega), ?_⟩
    obtain ⟨a, b⟩ := p
    simp only at h1 h2 h3 ⊢
    rw [h1, show u + 1 + (b - (u + 1)) = b by omega]
theorem mem_allP {n : Nat} {p : E2} : p ∈ allP n ↔ p.1 < p.2 ∧ p.2 < n := by
  unfold allP
  rw [List.mem_flatMap]
  constructor
  · rintro ⟨u, hu, h⟩
    obtain ⟨h1, h2, h3⟩ := mem_rowP.mp h
    omega
  · rintro ⟨h1, h2⟩
    exact ⟨p.1, List.mem_range.mpr (by omega), mem_rowP.mpr ⟨rfl, h1, h2⟩⟩
theorem allP_up : ∀ n, n ≤ 9 → (allP n).Pairwise ahead := by decide +kernel
theorem allP_few : ∀ n, n ≤ 9 → (allP n).length ≤ 36 := by decide +kernel
theorem ahead_ne {a b : E2} (h : ahead a b) : a ≠ b := by
  rintro rfl
  rcases h with h | h <;> omega
theorem sub_few {α : Type} [DecidableEq α] : ∀ {l m : List α}, l.Nodup → (∀ x ∈ l, x ∈ m) → l.length ≤ m.length
  | [], _, _, _ => Nat.zero_le _
  | a :: l, m, nd, sub => by
    obtain ⟨na, nl⟩ := List.nodup_cons.mp nd
    have ma : a ∈ m := sub a (List.mem_cons_self ..)
    have ih := sub_few (l := l) (m := m.erase a) nl fun x hx => by
      have hne : x ≠ a := fun e => na (e ▸ hx)
      exact (List.mem_erase_of_ne hne).mpr (sub x (List.mem_cons_of_mem _ hx))
    have le := List.length_erase_of_mem ma
    have pos : 0 < m.length := List.length_pos_of_mem ma
    rw [List.length_cons]
    omega
theorem Good.nodup {n : Nat} {es : List E2} (g : Good n es) : es.Nodup := g.up.imp fun h => ahead_ne h
theorem Good.few {n : Nat} {es : List E2} (g : Good n es) : es.length ≤ 36 := Nat.le_trans (sub_few g.nodup fun p hp => mem_allP.mpr (g.lt p hp)) (allP_few n g.n9)
theorem Good.filter {n : Nat} (h : n ≤ 9) (f : E2 → Bool) : Good n ((allP n).filter f) := ⟨h, fun p hp => mem_allP.mp (List.mem_filter.mp hp).1, (allP_up n h).filter _⟩
theorem Good.nil {n : Nat} (h : n ≤ 9) : Good n [] := ⟨h, fun _ z => (nomatch z), .nil⟩
theorem Good.more {n m : Nat} {es : List E2} (g : Good n es) (h : n ≤ m) (h9 : m ≤ 9) : Good m es := ⟨h9, fun p hp => ⟨(g.lt p hp).1, by have := (g.lt p hp).2; omega⟩, g.up⟩

/-! ### on the heap -/
/-- the pair p as a tuple -/
def PairAt (K : PySem.W.Frag) (H : Hp) (x : V) (p : E2) : Prop := ∃ t, x = .ref t ∧ SqT K H t [.int (p.1 : Int), .int (p.2 : Int)]
abbrev PairsAt (K : PySem.W.Frag) (H : Hp) : List V → List E2 → Prop := Paired (PairAt K H)
theorem PairAt.same {K : PySem.W.Frag} {H H' : Hp} (e : Same H H') {x : V} {p : E2} (h : PairAt K H x p) : PairAt K H' x p := by
  obtain ⟨t, rfl, h⟩ := h
  exact ⟨t, rfl, Same.tup e h⟩
theorem PairsAt.same {K : PySem.W.Frag} {H H' : Hp} (e : Same H H') : ∀ {xs : List V} {ps : List E2}, PairsAt K H xs ps → PairsAt K H' xs ps
  | _, _, .nil => .nil
  | _, _, .cons a b => .cons (a.same e) (PairsAt.same e b)
theorem PairsAt.append {K : PySem.W.Frag} {H : Hp} : ∀ {xs ys : List V} {ps qs : List E2}, PairsAt K H xs ps → PairsAt K H ys qs → PairsAt K H (xs ++ ys) (ps ++ qs)
  | _, _, _, _, .nil, h => h
  | _, _, _, _, .cons a b, h => .cons a (PairsAt.append b h)
/-- a graph -/
def GraphAt (K : PySem.W.Frag) (H : Hp) (x : V) (n : Nat) (es : List E2) : Prop := ∃ (t e : Addr) (xs : List V), x = .ref t ∧ SqT K H t [.int (n : Int), .ref e] ∧ SqT K H e xs ∧ PairsAt K H xs es
theorem GraphAt.same {K : PySem.W.Frag} {H H' : Hp} (s : Same H H') {x : V} {n : Nat} {es : List E2} (h : GraphAt K H x n es) : GraphAt K H' x n es := by
  obtain ⟨t, e, xs, rfl, h1, h2, h3⟩ := h
  exact ⟨t, e, xs, rfl, Same.tup s h1, Same.tup s h2, h3.same s⟩
def pairD (p : E2) : PyData := .tuple [.int (p.1 : Int), .int (p.2 : Int)]
def graphD (n : Nat) (es : List E2) : PyData := .tuple [.int (n : Int), .tuple (es.map pairD)]
theorem PairAt.dp {K : PySem.W.Frag} {H : Hp} {x : V} {p : E2} (h : PairAt K H x p) : Dp K H x (pairD p) := by
  obtain ⟨t, rfl, h⟩ := h
  exact .tup h (.cons (.int _) (.cons (.int _) .nil))
theorem PairsAt.dp {K : PySem.W.Frag} {H : Hp} : ∀ {xs : List V} {ps : List E2}, PairsAt K H xs ps → DpAll K H xs (ps.map pairD)
  | _, _, .nil => .nil
  | _, _, .cons a b => .cons a.dp (PairsAt.dp b)
theorem GraphAt.dp {K : PySem.W.Frag} {H : Hp} {x : V} {n : Nat} {es : List E2} (h : GraphAt K H x n es) : Dp K H x (graphD n es) := by
  obtain ⟨t, e, xs, rfl, h1, h2, h3⟩ := h
  exact .tup h1 (.cons (.int _) (.cons (.tup h2 h3.dp) .nil))
theorem PairsAt.get {K : PySem.W.Frag} {H : Hp} {xs : List V} {ps : List E2} {i : Nat} {x : V} (h : PairsAt K H xs ps) (e : xs[i]? = some x) : ∃ p, ps[i]? = some p ∧ PairAt K H x p := by
  have go : ∀ {xs : List V} {ps : List E2} {i : Nat} {x : V}, PairsAt K H xs ps → xs[i]? = some x → ∃ p, ps[i]? = some p ∧ PairAt K H x p := by
    intro xs
    induction xs with
    | nil => intro ps i x _ e; simp at e
    | cons a l ih =>
      intro ps i x h e
      cases h with
      | cons r t =>
        cases i with
        | zero => simp at e; subst e; exact ⟨_, rfl, r⟩
        | succ i => obtain ⟨p, h1, h2⟩ := ih t (by simpa using e); exact ⟨p, by simpa using h1, h2⟩
  exact go h e
end My

set_option maxHeartbeats 2000000
/-! Rules that pairs want: the lesser and the greater number of one; a list of pairs made a set, sorted, made a tuple. -/
namespace My
open PySem PySem.Spec PyProof.Rows L2
section
variable {X : Cx}
def rOfPair (f : Int → Int → Int) (K : PySem.W.Frag) : List V → Hp → VK → Prop := fun xs H Q => ∃ (t : Addr) (u v : Int), xs = [.ref t] ∧ SqT K H t [.int u, .int v] ∧ Q (.int (f u v)) H
theorem pair_reads {pins : List (Addr × Obj)} {σ : L2.St} {H : Hp} {s : Shared} {t : Addr} {u v : Int} (I : Inv X pins σ H s) (h : SqT X.K H t [.int u, .int v]) : ∃ vs : Array Value, s.heap.IsTuple t vs ∧ ∃ as, ReadsAll s.heap vs.toList [.int u, .int v] as := by
  obtain ⟨its, r, p, _⟩ := I.tuple h
  obtain ⟨as, q⟩ := Dp.readsAll I [.int u, .int v] [.int u, .int v] its (.cons (.int _) (.cons (.int _) .nil)) r
  obtain ⟨o, ho, hc, n, hd⟩ := p
  exact ⟨its.toArray, ⟨o, ho, hc, n, hd⟩, as, by simpa using q⟩
theorem call_minPair (hc : X.calm = true) (hu : X.A.units + 64 < cLine) : CallR X (.builtin "min") (rOfPair min X.K) := by
  rintro pins s σ H xs us Q I r ⟨t, u, v, rfl, h, q⟩
  rw [Vals.ref1 r]
  obtain ⟨vs, ht, as, rs⟩ := pair_reads I h
  refine PySem.W.min_tuple_data (I.ok.hd hc) ht rs (PySem.W.alikeAll_datum [u, v]) (by simp only [PyData.depthAll, PyData.depth]; omega) ?_
  intro i x h' tk bs hi rd hk
  have e := PySem.W.minD_ints u [v]
  have e' : PySem.W.minD (.int u) [.int v] = .int (min u v) := e
  rw [e'] at rd
  cases rd
  exact ⟨.int _, H, I.kept hk, ⟨_, rfl⟩, q⟩
theorem call_maxPair (hc : X.calm = true) (hu : X.A.units + 64 < cLine) : CallR X (.builtin "max") (rOfPair max X.K) := by
  rintro pins s σ H xs us Q I r ⟨t, u, v, rfl, h, q⟩
  rw [Vals.ref1 r]
  obtain ⟨vs, ht, as, rs⟩ := pair_reads I h
  refine PySem.W.max_tuple_data (I.ok.hd hc) ht rs (PySem.W.alikeAll_datum [u, v]) (by simp only [PyData.depthAll, PyData.depth]; omega) ?_
  intro i x h' tk bs hi rd hk
  have e := PySem.W.maxD_ints u [v]
  have e' : PySem.W.maxD (.int u) [.int v] = .int (max u v) := e
  rw [e'] at rd
  cases rd
  exact ⟨.int _, H, I.kept hk, ⟨_, rfl⟩, q⟩
end
/-! ### a pair among the pairs of a tuple -/
theorem pairD_lay (p : E2) : (pairD p).canLay0 = true := by simp [pairD, PyData.canLay0, PyData.canLayAll0]
theorem pairD_depth (p : E2) : (pairD p).depth = 1 := by simp [pairD, PyData.depth, PyData.depthAll]
theorem pairsD_lay : ∀ ps : List E2, PyData.canLayAll0 (ps.map pairD) = true
  | [] => by rw [List.map_nil]; simp [PyData.canLayAll0]
  | p :: ps => by simp [PyData.canLayAll0, pairD_lay p, pairsD_lay ps]
theorem pairsD_depth : ∀ ps : List E2, PyData.depthAll (ps.map pairD) ≤ 1
  | [] => by rw [List.map_nil]; simp [PyData.depthAll]
  | p :: ps => by
    have a := pairsD_depth ps
    have b := pairD_depth p
    rw [List.map_cons]
    simp only [PyData.depthAll]
    omega
theorem pairD_eqv (p q : E2) : PyData.eqv (pairD p) (pairD q) = decide (p = q) := by
  obtain ⟨a, b⟩ := p
  obtain ⟨c, d⟩ := q
  simp only [pairD, PyData.eqv, PyData.eqvAll, Bool.and_true]
  by_cases h1 : a = c
  · subst h1
    by_cases h2 : b = d
    · subst h2
      simp
    · have z : ((b : Int) == (d : Int)) = false := beq_eq_false_iff_ne.mpr fun e => h2 (by omega)
      simp [z, h2]
  · have z : ((a : Int) == (c : Int)) = false := beq_eq_false_iff_ne.mpr fun e => h1 (by omega)
    simp [z, h1]
theorem any_pairs (p : E2) : ∀ es : List E2, ((es.map pairD).any fun z => PyData.eqv z (pairD p)) = decide (p ∈ es)
  | [] => rfl
  | q :: es => by
    rw [List.map_cons, List.any_cons, any_pairs p es, pairD_eqv]
    by_cases h : q = p
    · subst h
      simp
    · have h' : p ≠ q := fun e => h e.symm
      simp [h, h']
section
variable {X : Cx}
def rInP (k : Bool → Bool) (K : PySem.W.Frag) : R2 := fun x y H Q => ∃ (p : E2) (t : Addr) (xs : List V) (es : List E2), PairAt K H x p ∧ y = .ref t ∧ SqT K H t xs ∧ PairsAt K H xs es ∧ Q (.bl (k (decide (p ∈ es)))) H
theorem op_inP (hu : X.A.units + 64 < cLine) : OpR X (compareOp .In) (rInP id X.K) := by
  rintro pins s σ H x y v u Q I rx ry ⟨p, t, xs, es, hp, rfl, ht, hes, q⟩
  obtain ⟨as, r1⟩ := Dp.reads I _ x v hp.dp rx
  obtain ⟨bs, r2⟩ := Dp.reads I (.tuple (es.map pairD)) (.ref t) u (.tup ht hes.dp) ry
  refine SeqAt.in_tuple_reads r2 r1 (pairsD_lay es) (pairD_lay p) ?_ ?_
  · have := pairD_depth p
    have := Nat.min_le_right (PyData.depthAll (es.map pairD)) (pairD p).depth
    omega
  · rw [any_pairs]
    exact ⟨.bl _, H, I, rfl, q⟩
theorem op_notInP (hu : X.A.units + 64 < cLine) : OpR X (compareOp .NotIn) (rInP not X.K) := by
  rintro pins s σ H x y v u Q I rx ry ⟨p, t, xs, es, hp, rfl, ht, hes, q⟩
  obtain ⟨as, r1⟩ := Dp.reads I _ x v hp.dp rx
  obtain ⟨bs, r2⟩ := Dp.reads I (.tuple (es.map pairD)) (.ref t) u (.tup ht hes.dp) ry
  refine SeqAt.notIn_tuple_reads r2 r1 (pairsD_lay es) (pairD_lay p) ?_ ?_
  · have := pairD_depth p
    have := Nat.min_le_right (PyData.depthAll (es.map pairD)) (pairD p).depth
    omega
  · rw [any_pairs]
    exact ⟨.bl _, H, I, rfl, q⟩
end
end My

set_option maxHeartbeats 4000000
/-! The law's graphs, drawn: each is a GRAPH. -/
namespace My
open PySem PySem.Spec PyProof.Rows L2
abbrev sOfPairs : Stmt := top (23 + 4)
theorem scOfPairs : FnScope ["n", "pairs", "each"] ["n", "pairs"] (defScope sOfPairs) := ⟨rfl, rfl, rfl, by decide +kernel, rfl, by decide +kernel, by decide +kernel⟩
theorem take_succ {α : Type} {l : List α} {i : Nat} {x : α} (h : l[i]? = some x) : l.take (i + 1) = l.take i ++ [x] := by
  rw [List.take_succ, h]
  rfl
theorem PairsAt.len {K : PySem.W.Frag} {H : Hp} : ∀ {xs : List V} {ps : List E2}, PairsAt K H xs ps → xs.length = ps.length
  | _, _, .nil => rfl
  | _, _, .cons _ b => congrArg (· + 1) (PairsAt.len b)
def norm (p : E2) : E2 := (min p.1 p.2, max p.1 p.2)
/-- from the pairs as tuples to what the sets' rules ask -/
theorem pairs_ks {K : PySem.W.Frag} {H : Hp} : ∀ {ys : List V} {qs : List E2}, PairsAt K H ys qs → ∃ ks : List (Addr × List Int), ys = ks.map (fun p => V.ref p.1) ∧ ks.map (·.2) = qs.map (fun q => [(q.1 : Int), (q.2 : Int)]) ∧ ∀ p ∈ ks, SqT K H p.1 (p.2.map V.int)
  | _, _, .nil => ⟨[], rfl, rfl, fun _ z => nomatch z⟩
  | _, _, .cons a b => by
    obtain ⟨t, rfl, h⟩ := a
    obtain ⟨ks, h1, h2, h3⟩ := pairs_ks b
    refine ⟨(t, _) :: ks, by rw [h1]; rfl, by rw [List.map_cons, h2]; rfl, ?_⟩
    intro p hp
    rcases List.mem_cons.mp hp with rfl | hp
    · exact h
    · exact h3 p hp
def toE (ns : List Int) : E2 := ((ns.getD 0 0).toNat, (ns.getD 1 0).toNat)
theorem toE_of (q : E2) : toE [(q.1 : Int), (q.2 : Int)] = q := by
  unfold toE
  simp
theorem ks_pairs {K : PySem.W.Frag} {H : Hp} : ∀ {L : List (Addr × List Int)}, (∀ p ∈ L, SqT K H p.1 (p.2.map V.int)) → (∀ p ∈ L, p.2 = [((toE p.2).1 : Int), ((toE p.2).2 : Int)]) → PairsAt K H (L.map fun q => V.ref q.1) (L.map fun p => toE p.2)
  | [], _, _ => .nil
  | p :: L, h, b => by
    refine .cons ⟨p.1, rfl, ?_⟩ (ks_pairs (fun r hr => h r (List.mem_cons_of_mem _ hr)) fun r hr => b r (List.mem_cons_of_mem _ hr))
    have z := h p (List.mem_cons_self ..)
    rw [b p (List.mem_cons_self ..)] at z
    exact z
def spOfPairs (K : PySem.W.Frag) : Sp := fun vs H Q _ => ∃ (n : Nat) (l : Addr) (xs : List V) (ps : List E2), vs = [.int (n : Int), .ref l] ∧ n ≤ 9 ∧ SqL K H l xs ∧ PairsAt K H xs ps ∧ xs.length < 64 ∧ (∀ p ∈ ps, p.1 ≠ p.2 ∧ p.1 < n ∧ p.2 < n) ∧
  ∀ (x : V) (es : List E2) (H' : Hp), Same H H' → GraphAt K H' x n es → Good n es → (∀ q, q ∈ es ↔ q ∈ ps.map norm) → Q x H'
section
variable {P : Program} {w : World} {K : PySem.W.Frag} {mg : Str → Option Value} {base : Heap} {f : Addr} {fd : FuncData}
theorem ok_of_pairs (F : L2.Fun K "_law_of_pairs" "_law_of_pairs" sOfPairs f fd) (mt : mg "tuple" = none) (msd : mg "sorted" = none) (mst : mg "set" = none) (mn : mg "min" = none) (mx : mg "max" = none) : FnOk P w K mg base CX0 1 f fd ["n", "pairs"] (spOfPairs K) := by
  refine F.ok scOfPairs (fun vs H Q E h => ?_) (fun cdv A outer s H vs Q E hr h => ?_)
  · obtain ⟨n, l, xs, ps, rfl, _⟩ := h
    rfl
  obtain ⟨n, l, xs, ps, rfl, n9, hS, hP, l64, hps, q⟩ := h
  refine ⟨_, pss_one (ps_ret (pe_tup (pa_cons (pv 0) (pa_cons (pe_callTy call_tuple_of (by rfl) mt (by decide +kernel) (pa_cons (pe_callB (cr_sortedT rfl) (by rfl) msd (by decide +kernel) (pa_cons (pe_callTy (cr_setOfT rfl hr.units) (by rfl) mst (by decide +kernel) (pa_cons
      (pe_lc (own := [("each", 2)]) (g := gName 2) (tt := tYes) rfl scOfPairs.nd (pi_list (pv 1)) (blkOk_by (N := ["n", "pairs", "each"]) (sc := defScope sOfPairs) (by decide +kernel)) (fun _ _ _ _ _ => pg_name (i := 2) scOfPairs.nd rfl (Or.inl rfl)) (fun _ _ _ _ _ => pts_nil)
        (fun _ _ _ _ _ => pe_tup (pa_cons (pe_callB (id := "min") (r := rOfPair min K) (call_minPair rfl hr.units) (by rfl) mn (by decide +kernel) (pa_cons (pv 2) pa_nil)) (pa_cons (pe_callB (id := "max") (r := rOfPair max K) (call_maxPair rfl hr.units) (by rfl) mx (by decide +kernel) (pa_cons (pv 2) pa_nil)) pa_nil)))) pa_nil)) pa_nil)) pa_nil)) pa_nil)))), ?_⟩
  refine ⟨_, rfl, _, rfl, l, rfl, ⟨_, hS⟩, fun D nD => lc_list (K := K) (a := l) (xs := xs) (fun i H' => Same H H' ∧ ∃ ys, H' D = some (.lst ys) ∧ ys.length = i ∧ PairsAt K (hide D H') ys ((ps.take i).map norm)) ⟨same_new nD _, [], upd_same, rfl, .nil⟩ ?_ ?_ ?_⟩
  · rintro i H1 _ ⟨s1, _⟩
    exact L2.Same.seq s1 hS
  · rintro i x H1 hi ⟨s1, ys, hD, ly, py⟩
    obtain ⟨p, hp, t, rfl, ht⟩ := PairsAt.get (hP.same s1) hi
    refine ⟨rfl, ?_⟩
    refine ⟨_, rfl, t, _, _, rfl, ht, _, rfl, t, _, _, rfl, ht, (by show 2 ≤ sizeLine; decide), fun r nr => ?_⟩
    have e1 : min ((p.1 : Nat) : Int) ((p.2 : Nat) : Int) = (((norm p).1 : Nat) : Int) := by show _ = ((min p.1 p.2 : Nat) : Int); omega
    have e2 : max ((p.1 : Nat) : Int) ((p.2 : Nat) : Int) = (((norm p).2 : Nat) : Int) := by show _ = ((max p.1 p.2 : Nat) : Int); omega
    rw [e1, e2]
    have s2 := same_new nr (.tup [.int ((norm p).1 : Int), .int ((norm p).2 : Int)])
    have rD : r ≠ D := fun z => by rw [← z, nr] at hD; cases hD
    have bt : But D H1 (upd (upd H1 r (.tup [.int ((norm p).1 : Int), .int ((norm p).2 : Int)])) D (.lst (ys ++ [.ref r]))) := (But.new nr).trans .put
    refine ⟨ys, s2 _ _ hD, small1000 (by have := (List.getElem?_eq_some_iff.mp hi).1; omega), same_put (s1.trans s2) nD, _, upd_same, by rw [List.length_append, ly]; rfl, ?_⟩
    rw [take_succ hp, List.map_append]
    refine (py.same bt.hide).append (.cons ⟨r, rfl, SqT.of ?_⟩ .nil)
    rw [hide_ne rD, upd_ne rD]
    exact upd_same
  · rintro H1 ⟨s1, ys, hD, ly, py⟩
    have lps : xs.length = ps.length := PairsAt.len hP
    rw [lps, List.take_length] at py
    obtain ⟨ks, e1, e2, e3⟩ := pairs_ks (py.same (hide_sub D H1))
    have lk : ks.length < 64 := by
      have z := congrArg List.length e1
      rw [List.length_map] at z
      omega
    refine ⟨D, ks, rfl, by rw [← e1]; exact SqL.of hD, e3, lk, fun a L na sub sup => ?_⟩
    have form : ∀ p ∈ ks, ∃ r ∈ ps.map norm, p.2 = [(r.1 : Int), (r.2 : Int)] := fun p hp => by
      have z : p.2 ∈ ks.map (·.2) := List.mem_map.mpr ⟨p, hp, rfl⟩
      rw [e2] at z
      obtain ⟨r, h1, h2⟩ := List.mem_map.mp z
      exact ⟨r, h1, h2.symm⟩
    have small : ∀ r ∈ ps.map norm, r.1 < r.2 ∧ r.2 < n := fun r hr => by
      obtain ⟨p, hp, rfl⟩ := List.mem_map.mp hr
      obtain ⟨h1, h2, h3⟩ := hps p hp
      show min p.1 p.2 < max p.1 p.2 ∧ max p.1 p.2 < n
      omega
    refine ⟨a, L, 2, 9, rfl, upd_same, fun p hp => Same.tup (same_new na _) (e3 p (sub p hp)), by decide, fun p hp => ?_, fun L' p perm nd few up np => ?_⟩
    · obtain ⟨r, hr, e⟩ := form p (sub p hp)
      have z := small r hr
      rw [e]
      refine ⟨rfl, fun m hm => ?_⟩
      rcases List.mem_cons.mp hm with rfl | hm
      · omega
      · have := List.mem_singleton.mp hm
        omega
    refine ⟨p, _, rfl, .inl ⟨SqL.of upd_same, fun e ne => ?_⟩⟩
    refine ⟨(by show 2 ≤ sizeLine; decide), fun t nt => ?_⟩
    have m' : ∀ p ∈ L', p ∈ ks := fun p hp => sub p (perm.mem_iff.mp hp)
    have s3 := s1.trans ((same_new na (SetTO P w a L)).trans ((same_new np (.lst (L'.map fun q => V.ref q.1))).trans ((same_new ne (.tup (L'.map fun q => V.ref q.1))).trans (same_new nt (.tup [.int (n : Int), .ref e])))))
    have s4 : Same H1 _ := (same_new na (SetTO P w a L)).trans ((same_new np (.lst (L'.map fun q => V.ref q.1))).trans ((same_new ne (.tup (L'.map fun q => V.ref q.1))).trans (same_new nt (.tup [.int (n : Int), .ref e]))))
    have back : ∀ p ∈ L', p.2 = [((toE p.2).1 : Int), ((toE p.2).2 : Int)] ∧ toE p.2 ∈ ps.map norm := fun p hp => by
      obtain ⟨r, hr, e⟩ := form p (m' p hp)
      rw [e, toE_of]
      exact ⟨rfl, hr⟩
    refine q (.ref t) (L'.map fun p => toE p.2) _ s3 ⟨t, e, _, rfl, SqT.of upd_same, SqT.of ((same_new nt _) _ _ upd_same), ?_⟩ ⟨n9, ?_, ?_⟩ ?_
    · exact ks_pairs (fun p hp => Same.tup s4 (e3 p (m' p hp))) fun p hp => (back p hp).1
    · intro r hr
      obtain ⟨p, hp, rfl⟩ := List.mem_map.mp hr
      exact small _ (back p hp).2
    · rw [List.pairwise_map]
      have nd2 := List.pairwise_map.mp nd
      have both := up.and nd2
      refine both.imp_of_mem ?_
      intro p r hp hr ⟨le, neq⟩
      have b1 := (back p hp).1
      have b2 := (back r hr).1
      have z1 := small _ (back p hp).2
      have z2 := small _ (back r hr).2
      rw [b1, b2] at le neq
      have c1 : TS.code 9 [((toE p.2).1 : Int), ((toE p.2).2 : Int)] = ((toE p.2).1 : Int) * 9 + ((toE p.2).2 : Int) := by simp [TS.code]
      have c2 : TS.code 9 [((toE r.2).1 : Int), ((toE r.2).2 : Int)] = ((toE r.2).1 : Int) * 9 + ((toE r.2).2 : Int) := by simp [TS.code]
      rw [c1, c2] at le
      have ne2 : ¬ ((toE p.2).1 = (toE r.2).1 ∧ (toE p.2).2 = (toE r.2).2) := fun ⟨x, y⟩ => neq (by rw [x, y])
      show (toE p.2).1 < (toE r.2).1 ∨ ((toE p.2).1 = (toE r.2).1 ∧ (toE p.2).2 < (toE r.2).2)
      omega
    · intro r
      constructor
      · intro hr
        obtain ⟨p, hp, rfl⟩ := List.mem_map.mp hr
        exact (back p hp).2
      · intro hr
        have z : [(r.1 : Int), (r.2 : Int)] ∈ ks.map (·.2) := by
          rw [e2]
          exact List.mem_map.mpr ⟨r, hr, rfl⟩
        obtain ⟨p, hp, ep⟩ := List.mem_map.mp z
        have z2 := sup p hp
        obtain ⟨p2, hp2, ep2⟩ := List.mem_map.mp z2
        refine List.mem_map.mpr ⟨p2, perm.mem_iff.mpr hp2, ?_⟩
        show toE p2.2 = r
        rw [show p2.2 = [(r.1 : Int), (r.2 : Int)] from ep2.trans ep, toE_of]
end
end My

set_option maxHeartbeats 4000000
namespace My
open PySem PySem.Spec PyProof.Rows L2
abbrev sTurned : Stmt := top (23 + 5)
theorem scTurned : FnScope ["graph", "n", "edges", "found", "u", "v"] ["graph"] (defScope sTurned) := ⟨rfl, rfl, rfl, by decide +kernel, rfl, by decide +kernel, by decide +kernel⟩
/-- what is left of all pairs -/
def leftP (n : Nat) (es : List E2) : List E2 := (allP n).filter fun p => decide (p ∉ es)
theorem leftP_eq (n : Nat) (es : List E2) : leftP n es = (List.range n).flatMap fun u => (rowP n u).filter fun p => decide (p ∉ es) := List.filter_flatMap
theorem rows_few : ∀ u, u ≤ 9 → ∀ n, n ≤ 9 → ((List.range u).flatMap (rowP n)).length ≤ 81 := by decide +kernel
def spTurned (K : PySem.W.Frag) : Sp := fun vs H Q _ => ∃ (x : V) (n : Nat) (es : List E2), vs = [x] ∧ GraphAt K H x n es ∧ n ≤ 9 ∧ ∀ (y : V) (H' : Hp), Same H H' → GraphAt K H' y n (leftP n es) → Q y H'
section
variable {P : Program} {w : World} {K : PySem.W.Frag} {mg : Str → Option Value} {base : Heap} {f : Addr} {fd : FuncData}
theorem ok_turned (F : L2.Fun K "_law_turned" "_law_turned" sTurned f fd) (mr : mg "range" = none) (mt : mg "tuple" = none) : FnOk P w K mg base CX0 1 f fd ["graph"] (spTurned K) := by
  refine F.ok scTurned (fun vs H Q E h => ?_) (fun cdv A outer s H vs Q E hr h => ?_)
  · obtain ⟨x, n, es, rfl, _⟩ := h
    rfl
  obtain ⟨x, n, es, rfl, ⟨t, e, xs, rfl, ht, he, hes⟩, n9, q⟩ := h
  refine ⟨_, pss_cons (ps_asg (pv 0) (pg_tup (by rfl) (pgs_cons (pg_name (i := 1) scTurned.nd rfl (.inl rfl)) (pgs_cons (pg_name (i := 2) scTurned.nd rfl (.inr rfl)) pgs_nil))))
    (pss_cons (ps_set (i := 3) scTurned.nd rfl (.inl rfl) (pe_lst pa_nil))
    (pss_cons (ps_for PassesOwn.never rfl (pi_range1 rfl mr (pa_cons (pv 1) pa_nil)) (pg_name (i := 4) scTurned.nd rfl (.inr rfl))
      (pss_one (ps_set (i := 3) scTurned.nd rfl (.inl rfl) (pe_op op_cat (pv 3) (pe_lc (own := [("v", 5)]) (g := gName 5) rfl scTurned.nd (pi_range2 (by rfl) mr (pa_cons (pe_op op_add (pv 4) pe_int) (pa_cons (pv 1) pa_nil)))
        (blkOk_by (N := ["graph", "n", "edges", "found", "u", "v"]) (sc := defScope sTurned) (by decide +kernel)) (fun _ _ _ _ _ => pg_name (i := 5) scTurned.nd rfl (Or.inl rfl))
        (fun _ _ _ _ _ => pts_one (pt_cmpR (r := rInP not K) (op_notInP hr.units) (pe_tup (pa_cons (pv 4) (pa_cons (pv 5) pa_nil))) (pv 2) (by rfl)))
        (fun _ _ _ _ _ => pe_tup (pa_cons (pv 4) (pa_cons (pv 5) pa_nil))))))))
    (pss_one (ps_ret (pe_tup (pa_cons (pv 1) (pa_cons (pe_callTy call_tuple_of (by rfl) mt (by decide +kernel) (pa_cons (pv 3) pa_nil)) pa_nil))))))), ?_⟩
  refine ⟨_, rfl, t, _, rfl, ht, rfl, _, _, rfl, _, _, rfl, rfl, (by show 0 ≤ sizeLine; decide), fun a na => ?_⟩
  refine ⟨_, rfl, (n : Int), rfl, by omega, by omega, for_range (lo := 0) (n := ((n : Nat) : Int).toNat) (fun i σ H' => ∃ (b : Addr) (ys : List V) (s4 : Option V), σ = [some (.ref t), some (.int (n : Int)), some (.ref e), some (.ref b), s4, none] ∧ Same H H' ∧ H' b = some (.lst ys) ∧
      PairsAt K H' ys ((List.range i).flatMap fun u => (rowP n u).filter fun p => decide (p ∉ es))) ⟨a, [], none, rfl, same_new na _, upd_same, .nil⟩ ?_ ?_⟩
  · rintro u σ H1 lu ⟨b, ys, s4, rfl, s1, hb, py⟩
    rw [Int.zero_add]
    have un : u < n := by omega
    refine ⟨_, rfl, _, rfl, _, _, rfl, rfl, _, rfl, _, _, rfl, ⟨by omega, by omega, by omega, by omega⟩, fun D nD => lc_range (lo := (u : Int) + 1) (n := ((n : Int) - ((u : Int) + 1)).toNat)
      (fun k H2 => Same H1 H2 ∧ ∃ zs, H2 D = some (.lst zs) ∧ zs.length ≤ k ∧ PairsAt K (hide D H2) zs (((List.range k).map fun j => (u, u + 1 + j)).filter fun p => decide (p ∉ es))) ⟨same_new nD _, [], upd_same, Nat.le_refl _, .nil⟩ ?_ ?_⟩
    · rintro k H2 lk ⟨s2, zs, hD, lz, pz⟩
      rw [show ((u : Int) + 1 + (k : Int)) = ((u + 1 + k : Nat) : Int) by omega]
      refine ⟨rfl, ?_⟩
      refine ⟨_, rfl, _, rfl, (by show 2 ≤ sizeLine; decide), fun r nr => ?_⟩
      have s3 := same_new nr (.tup [.int ((u : Nat) : Int), .int ((u + 1 + k : Nat) : Int)])
      have sH := (s1.trans s2).trans s3
      refine ⟨_, rfl, (u, u + 1 + k), e, xs, es, ⟨r, rfl, SqT.of upd_same⟩, rfl, Same.tup sH he, hes.same sH, _, rfl, iteB (fun c => ?_) (fun c => ?_)⟩
      · have c' : (u, u + 1 + k) ∉ es := by simpa using c
        refine ⟨_, rfl, _, rfl, (by show 2 ≤ sizeLine; decide), fun r2 nr2 => ?_⟩
        have s4 := same_new nr2 (.tup [.int ((u : Nat) : Int), .int ((u + 1 + k : Nat) : Int)])
        have hD4 := s4 _ _ (s3 _ _ hD)
        have ne2 : r2 ≠ D := fun z => by
          rw [z] at nr2
          rw [s3 _ _ hD] at nr2
          cases nr2
        refine ⟨zs, hD4, small1000 (by omega), same_put ((s2.trans s3).trans s4) nD, _, upd_same, by rw [List.length_append]; show zs.length + 1 ≤ k + 1; omega, ?_⟩
        rw [List.range_succ, List.map_append, List.filter_append]
        have bt : But D H2 _ := (But.new nr).trans ((But.new (o := .tup [.int ((u : Nat) : Int), .int ((u + 1 + k : Nat) : Int)]) nr2).trans (.put (o := .lst (zs ++ [.ref r2]))))
        refine (pz.same bt.hide).append ?_
        show PairsAt K _ [V.ref r2] ([(u, u + 1 + k)].filter fun p => decide (p ∉ es))
        rw [List.filter_cons_of_pos (by simpa using c'), List.filter_nil]
        refine .cons ⟨r2, rfl, SqT.of ?_⟩ .nil
        rw [hide_ne ne2, upd_ne ne2]
        exact upd_same
      · have c' : (u, u + 1 + k) ∈ es := by simpa using c
        refine ⟨s2.trans s3, zs, s3 _ _ hD, by omega, ?_⟩
        rw [List.range_succ, List.map_append, List.filter_append]
        show PairsAt K _ zs (_ ++ [(u, u + 1 + k)].filter fun p => decide (p ∉ es))
        rw [List.filter_cons_of_neg (by simpa using c'), List.filter_nil, List.append_nil]
        exact pz.same (But.new nr).hide
    · rintro H2 ⟨s2, zs, hD, lz, pz⟩
      have le1 : ys.length ≤ 81 := by
        rw [PairsAt.len py]
        have z := List.length_filter_le (fun p => decide (p ∉ es)) ((List.range u).flatMap (rowP n))
        rw [List.filter_flatMap] at z
        exact Nat.le_trans z (rows_few u (by omega) n n9)
      refine ⟨b, D, ys, zs, rfl, rfl, s2 _ _ hb, hD, small (by omega), fun c nc => ?_⟩
      have s3 := same_new nc (.lst (ys ++ zs))
      refine ⟨c, _, _, rfl, (s1.trans s2).trans s3, upd_same, ?_⟩
      rw [List.range_succ, List.flatMap_append]
      refine (py.same (s2.trans s3)).append ?_
      have ek : ((n : Int) - ((u : Int) + 1)).toNat = n - (u + 1) := by omega
      rw [ek] at pz
      show PairsAt K _ zs ([u].flatMap fun u => (rowP n u).filter fun p => decide (p ∉ es))
      rw [List.flatMap_cons, List.flatMap_nil, List.append_nil]
      exact (pz.same (hide_sub D H2)).same s3
  · rintro σ H1 ⟨b, ys, s4, rfl, s1, hb, py⟩
    rw [show ((n : Nat) : Int).toNat = n by omega, ← leftP_eq] at py
    refine ⟨_, rfl, _, rfl, b, _, rfl, .inl ⟨SqL.of hb, fun l nl => ⟨(by show 2 ≤ sizeLine; decide), fun r nr => ?_⟩⟩⟩
    have s2 := same_new nl (.tup ys)
    have s3 := same_new nr (.tup [.int (n : Int), .ref l])
    exact q (.ref r) _ ((s1.trans s2).trans s3) ⟨r, l, ys, rfl, SqT.of upd_same, SqT.of (s3 _ _ upd_same), (py.same s2).same s3⟩
end
end My

set_option maxHeartbeats 4000000
namespace My
open PySem PySem.Spec PyProof.Rows L2
/-- every tuple stays -/
def TS (H H' : Hp) : Prop := ∀ q xs, Rd H q (.tup xs) → Rd H' q (.tup xs)
theorem TS.refl (H : Hp) : TS H H := fun _ _ h => h
theorem TS.trans {H1 H2 H3 : Hp} (a : TS H1 H2) (b : TS H2 H3) : TS H1 H3 := fun q xs h => b q xs (a q xs h)
theorem TS.of {H H' : Hp} (s : Same H H') : TS H H' := fun q xs h => by
  rcases h with h | ⟨o, h⟩
  · exact .inl (s _ _ h)
  · exact .inr ⟨o, s _ _ h⟩
theorem TS.put {H : Hp} {D : Addr} {zs : List V} {o : HO} (h : H D = some (.lst zs)) : TS H (upd H D o) := fun q xs r => by
  have ne : q ≠ D := fun z => by
    rw [z] at r
    rcases r with r | ⟨_, r⟩ <;> (rw [h] at r; cases r)
  unfold Rd
  rw [upd_ne ne]
  exact r
theorem TS.but {p : Addr} {H H' : Hp} (b : But p H H') (w : Wl H p) : TS H H' := fun q xs r => by
  obtain ⟨x, y, z, hp⟩ := w
  have ne : q ≠ p := fun e => by
    rw [e] at r
    rcases r with r | ⟨_, r⟩ <;> (rw [hp] at r; cases r)
  rcases r with r | ⟨o, r⟩
  · exact .inl (b _ _ ne r)
  · exact .inr ⟨o, b _ _ ne r⟩
theorem TS.tup {K : PySem.W.Frag} {H H' : Hp} (s : TS H H') {t : Addr} {xs : List V} (h : SqT K H t xs) : SqT K H' t xs := by
  rcases h with h | h
  · exact .inl (s _ _ h)
  · exact .inr h
theorem PairsAt.ts {K : PySem.W.Frag} {H H' : Hp} (e : TS H H') : ∀ {xs : List V} {ps : List E2}, PairsAt K H xs ps → PairsAt K H' xs ps
  | _, _, .nil => .nil
  | _, _, .cons ⟨t, h1, h2⟩ b => .cons ⟨t, h1, e.tup h2⟩ (PairsAt.ts e b)
theorem GraphAt.ts {K : PySem.W.Frag} {H H' : Hp} (s : TS H H') {x : V} {n : Nat} {es : List E2} (h : GraphAt K H x n es) : GraphAt K H' x n es := by
  obtain ⟨t, e, xs, rfl, h1, h2, h3⟩ := h
  exact ⟨t, e, xs, rfl, s.tup h1, s.tup h2, h3.ts s⟩
theorem Wl.same {H H' : Hp} {p : Addr} (s : Same H H') (w : Wl H p) : Wl H' p := by
  obtain ⟨a, b, c, h⟩ := w
  exact ⟨a, b, c, s _ _ h⟩
theorem Wl.put {H : Hp} {p D : Addr} {o : HO} (w : Wl H p) (ne : D ≠ p) : Wl (upd H D o) p := by
  obtain ⟨a, b, c, h⟩ := w
  exact ⟨a, b, c, by rw [upd_ne (Ne.symm ne)]; exact h⟩
theorem Wl.ne {H : Hp} {p D : Addr} (w : Wl H p) (n : H D = none) : D ≠ p := by
  obtain ⟨a, b, c, h⟩ := w
  rintro rfl
  rw [h] at n
  cases n
theorem Wl.off {K : PySem.W.Frag} {H : Hp} {p t : Addr} {xs : List V} (w : Wl H p) (h : SqT K H t xs) : SqT K (hide p H) t xs := by
  obtain ⟨a, b, c, hp⟩ := w
  rcases h with h | h
  · left
    have ne : t ≠ p := fun e => by
      rw [e] at h
      rcases h with r | ⟨_, r⟩ <;> (rw [hp] at r; cases r)
    unfold Rd
    rw [hide_ne ne]
    exact h
  · exact .inr h
/-- one more pair in a list -/
theorem push_pair {K : PySem.W.Frag} {H : Hp} {D r : Addr} {zs : List V} {ps : List E2} (p : E2) (hD : H D = some (.lst zs)) (nr : H r = none) (h : PairsAt K H zs ps) :
    TS H (upd (upd H r (.tup [.int (p.1 : Int), .int (p.2 : Int)])) D (.lst (zs ++ [.ref r]))) ∧ PairsAt K (upd (upd H r (.tup [.int (p.1 : Int), .int (p.2 : Int)])) D (.lst (zs ++ [.ref r]))) (zs ++ [.ref r]) (ps ++ [p]) := by
  have s1 := same_new nr (.tup [.int (p.1 : Int), .int (p.2 : Int)])
  have s2 : TS (upd H r (.tup [.int (p.1 : Int), .int (p.2 : Int)])) (upd (upd H r (.tup [.int (p.1 : Int), .int (p.2 : Int)])) D (.lst (zs ++ [.ref r]))) := TS.put (s1 _ _ hD)
  exact ⟨(TS.of s1).trans s2, (h.ts ((TS.of s1).trans s2)).append (.cons ⟨r, rfl, s2.tup (SqT.of upd_same)⟩ .nil)⟩
abbrev sRound : Stmt := top (23 + 6)
abbrev sCalled : Stmt := top (23 + 7)
abbrev sOrder : Stmt := top (23 + 8)
theorem scRound : FnScope ["many", "k"] ["many"] (defScope sRound) := ⟨rfl, rfl, rfl, by decide +kernel, rfl, by decide +kernel, by decide +kernel⟩
theorem scCalled : FnScope ["graph", "names", "u", "v"] ["graph", "names"] (defScope sCalled) := ⟨rfl, rfl, rfl, by decide +kernel, rfl, by decide +kernel, by decide +kernel⟩
theorem scOrder : FnScope ["well", "many", "left", "found", "turn"] ["well", "many"] (defScope sOrder) := ⟨rfl, rfl, rfl, by decide +kernel, rfl, by decide +kernel, by decide +kernel⟩
def spRound (K : PySem.W.Frag) : Sp := fun vs H Q _ => ∃ m : Nat, vs = [.int (m : Int)] ∧ 2 ≤ m ∧ m ≤ 9 ∧ ∀ (x : V) (es : List E2) (H' : Hp), Same H H' → GraphAt K H' x m es → Good m es → Q x H'
def nums (ns : List Nat) : List V := ns.map fun (k : Nat) => V.int ((k : Nat) : Int)
structure Perm (n : Nat) (ns : List Nat) : Prop where
  len : ns.length = n
  nd : ns.Nodup
  lt : ∀ k ∈ ns, k < n
def spCalled (K : PySem.W.Frag) : Sp := fun vs H Q _ => ∃ (x : V) (t : Addr) (n : Nat) (es : List E2) (ns : List Nat), vs = [x, .ref t] ∧ GraphAt K H x n es ∧ Good n es ∧ SqT K H t (nums ns) ∧ Perm n ns ∧ ∀ (y : V) (es' : List E2) (H' : Hp), Same H H' → GraphAt K H' y n es' → Good n es' → Q y H'
def spOrder (K : PySem.W.Frag) : Sp := fun vs H Q _ => ∃ (p : Addr) (n : Nat), vs = [.ref p, .int (n : Int)] ∧ Wl H p ∧ n ≤ 9 ∧ ∀ (t : Addr) (ns : List Nat) (H' : Hp), But p H H' → Wl H' p → SqT K H' t (nums ns) → Perm n ns → Q (.ref t) H'
section
variable {P : Program} {w : World} {K : PySem.W.Frag} {mg : Str → Option Value} {base : Heap} {f fD fP : Addr} {fd dD dP : FuncData}
theorem ok_round (F : L2.Fun K "_law_round" "_law_round" sRound f fd) (GP : FnOk P w K mg base CX0 1 fP dP ["n", "pairs"] (spOfPairs K)) (bP : L2.Binds K dP ["n", "pairs"] []) (kP : PySem.W.keepIn K (.ref fP) = true) (mP : mg "_law_of_pairs" = some (.ref fP)) (mr : mg "range" = none) (mi : mg "int" = none) :
    FnOk P w K mg base CX0 2 f fd ["many"] (spRound K) := by
  refine F.ok scRound (fun vs H Q E h => ?_) (fun cdv A outer s H vs Q E hr h => ?_)
  · obtain ⟨m, rfl, _⟩ := h
    rfl
  obtain ⟨m, rfl, m2, m9, q⟩ := h
  refine ⟨_, pss_one (ps_ret (pe_call GP hr (by rfl) mP kP bP .nil pass0 (pa_cons (pv 0) (pa_cons (pe_lc (own := [("k", 1)]) (g := gName 1) (tt := tYes) rfl scRound.nd (pi_range1 rfl mr (pa_cons (pv 0) pa_nil))
    (blkOk_by (N := ["many", "k"]) (sc := defScope sRound) (by decide +kernel)) (fun _ _ _ _ _ => pg_name (i := 1) scRound.nd rfl (Or.inl rfl)) (fun _ _ _ _ _ => pts_nil)
    (fun _ _ _ _ _ => pe_tup (pa_cons (pv 1) (pa_cons (pe_op op_mod (pe_callTy call_int1 (by rfl) mi (by decide +kernel) (pa_cons (pe_op op_add (pv 1) pe_int) pa_nil)) (pv 0)) pa_nil)))) pa_nil)))), ?_⟩
  refine ⟨_, rfl, _, rfl, (m : Int), rfl, by omega, by omega, fun D nD => lc_range (lo := 0) (n := ((m : Nat) : Int).toNat)
      (fun k H2 => Same H H2 ∧ ∃ zs, H2 D = some (.lst zs) ∧ zs.length = k ∧ PairsAt K H2 zs ((List.range k).map fun j => (j, (j + 1) % m))) ⟨same_new nD _, [], upd_same, rfl, .nil⟩ ?_ ?_⟩
  · rintro k H2 lk ⟨s2, zs, hD, lz, pz⟩
    rw [Int.zero_add]
    have km : k < m := by omega
    refine ⟨rfl, ?_⟩
    refine ⟨_, rfl, _, rfl, _, _, rfl, rfl, .inl ⟨_, rfl, _, rfl, _, _, rfl, rfl, (show (0 : Int) < (m : Int) by omega), (by show 2 ≤ sizeLine; decide), fun r nr => ?_⟩⟩
    have e : ((k : Int) + 1) % (m : Int) = (((k + 1) % m : Nat) : Int) := by
      rw [Int.natCast_emod]
      rfl
    dsimp only
    rw [e]
    obtain ⟨t1, p1⟩ := push_pair (k, (k + 1) % m) hD nr pz
    refine ⟨zs, (same_new nr _) _ _ hD, small1000 (by omega), same_put (s2.trans (same_new nr _)) nD, _, upd_same, by rw [List.length_append]; show zs.length + 1 = k + 1; omega, ?_⟩
    rw [List.range_succ, List.map_append]
    exact p1
  · rintro H2 ⟨s2, zs, hD, lz, pz⟩
    rw [show ((m : Nat) : Int).toNat = m by omega] at lz pz
    refine ⟨m, D, zs, _, rfl, m9, SqL.of hD, pz, by omega, fun p hp => ?_, fun x es H' s g good _ => q x es H' (s2.trans s) g good⟩
    obtain ⟨j, hj, rfl⟩ := List.mem_map.mp hp
    have hj := List.mem_range.mp hj
    show j ≠ (j + 1) % m ∧ j < m ∧ (j + 1) % m < m
    refine ⟨?_, hj, Nat.mod_lt _ (by omega)⟩
    by_cases e : j + 1 = m
    · rw [e, Nat.mod_self]
      omega
    · rw [Nat.mod_eq_of_lt (by omega)]
      omega
theorem perm_at {n : Nat} {ns : List Nat} (h : Perm n ns) {i : Nat} (hi : i < n) : ∃ k, ns[i]? = some k ∧ k < n := by
  have l : i < ns.length := by rw [h.len]; exact hi
  exact ⟨ns[i], List.getElem?_eq_getElem l, h.lt _ (List.getElem_mem l)⟩
theorem perm_ne {n : Nat} {ns : List Nat} (h : Perm n ns) {i j a b : Nat} (hi : ns[i]? = some a) (hj : ns[j]? = some b) (ne : i ≠ j) : a ≠ b := by
  obtain ⟨l1, e1⟩ := List.getElem?_eq_some_iff.mp hi
  obtain ⟨l2, e2⟩ := List.getElem?_eq_some_iff.mp hj
  rcases Nat.lt_or_gt_of_ne ne with l | l
  · have z := List.pairwise_iff_getElem.mp h.nd i j l1 l2 l
    rw [e1, e2] at z
    exact z
  · have z := List.pairwise_iff_getElem.mp h.nd j i l2 l1 l
    rw [e1, e2] at z
    exact Ne.symm z
theorem ok_called (F : L2.Fun K "_law_called" "_law_called" sCalled f fd) (GP : FnOk P w K mg base CX0 1 fP dP ["n", "pairs"] (spOfPairs K)) (bP : L2.Binds K dP ["n", "pairs"] []) (kP : PySem.W.keepIn K (.ref fP) = true) (mP : mg "_law_of_pairs" = some (.ref fP)) :
    FnOk P w K mg base CX0 2 f fd ["graph", "names"] (spCalled K) := by
  refine F.ok scCalled (fun vs H Q E h => ?_) (fun cdv A outer s H vs Q E hr h => ?_)
  · obtain ⟨x, t, n, es, ns, rfl, _⟩ := h
    rfl
  obtain ⟨x, t, n, es, ns, rfl, ⟨g, e, xs, rfl, hg, he, hes⟩, good, ht, hn, q⟩ := h
  refine ⟨_, pss_one (ps_ret (pe_call GP hr (by rfl) mP kP bP .nil pass0 (pa_cons (pe_ix ix_tup (pv 0) pe_int (fun _ _ => rfl)) (pa_cons (pe_lc (own := [("u", 2), ("v", 3)]) (g := gTup K 2 (gCons (gName 2) (gCons (gName 3) gNil))) (tt := tYes) rfl scCalled.nd (pi_tup (pe_ix ix_tup (pv 0) pe_int (fun _ _ => rfl)))
    (blkOk_by (N := ["graph", "names", "u", "v"]) (sc := defScope sCalled) (by decide +kernel)) (fun _ _ _ _ _ => pg_tup (by rfl) (pgs_cons (pg_name (i := 2) scCalled.nd rfl (Or.inl rfl)) (pgs_cons (pg_name (i := 3) scCalled.nd rfl (Or.inl rfl)) pgs_nil))) (fun _ _ _ _ _ => pts_nil)
    (fun _ _ _ _ _ => pe_tup (pa_cons (pe_ix (r := rIxT K) ix_tup (pv 1) (pv 2) (fun _ _ => rfl)) (pa_cons (pe_ix (r := rIxT K) ix_tup (pv 1) (pv 3) (fun _ _ => rfl)) pa_nil)))) pa_nil)))), ?_⟩
  refine ⟨_, rfl, g, _, _, _, rfl, rfl, hg, rfl, ?_⟩
  refine ⟨_, rfl, g, _, _, _, rfl, rfl, hg, rfl, e, rfl, ⟨_, he⟩, fun D nD => lc_tup (K := K) (a := e) (xs := xs)
      (fun i H2 => Same H H2 ∧ ∃ zs ps, H2 D = some (.lst zs) ∧ zs.length = i ∧ PairsAt K H2 zs ps ∧ ∀ p ∈ ps, p.1 ≠ p.2 ∧ p.1 < n ∧ p.2 < n) ⟨same_new nD _, [], [], upd_same, rfl, .nil, fun _ z => nomatch z⟩ ?_ ?_ ?_⟩
  · rintro i H1 _ ⟨s1, _⟩
    exact Same.tup s1 he
  · rintro i x H2 hi ⟨s2, zs, ps, hD, lz, pz, pp⟩
    obtain ⟨p, hp, t1, rfl, ht1⟩ := PairsAt.get (hes.same s2) hi
    obtain ⟨l1, l2⟩ := good.lt p (List.mem_of_getElem? hp)
    obtain ⟨a, ha, an⟩ := perm_at hn (show p.1 < n by omega)
    obtain ⟨b, hb, bn⟩ := perm_at hn l2
    have ab : a ≠ b := perm_ne hn ha hb (by omega)
    refine ⟨t1, _, rfl, ht1, rfl, _, _, rfl, _, _, rfl, rfl, ?_⟩
    refine ⟨rfl, ?_⟩
    have ht2 := Same.tup s2 ht
    refine ⟨_, rfl, _, rfl, t, _, _, .int (a : Int), rfl, rfl, ht2, atI_nat (by unfold nums; rw [List.getElem?_map, ha]; rfl), _, rfl, _, rfl, t, _, _, .int (b : Int), rfl, rfl, ht2, atI_nat (by unfold nums; rw [List.getElem?_map, hb]; rfl), (by show 2 ≤ sizeLine; decide), fun r nr => ?_⟩
    obtain ⟨t1, p1⟩ := push_pair (a, b) hD nr pz
    have li : i < xs.length := (List.getElem?_eq_some_iff.mp hi).1
    have l3 : xs.length ≤ 36 := by rw [PairsAt.len hes]; exact good.few
    refine ⟨zs, (same_new nr _) _ _ hD, small1000 (by omega), same_put (s2.trans (same_new nr _)) nD, _, _, upd_same, by rw [List.length_append]; show zs.length + 1 = i + 1; omega, p1, fun r hr => ?_⟩
    rcases List.mem_append.mp hr with hr | hr
    · exact pp r hr
    · rw [List.mem_singleton.mp hr]
      exact ⟨ab, an, bn⟩
  · rintro H2 ⟨s2, zs, ps, hD, lz, pz, pp⟩
    have l3 : xs.length ≤ 36 := by rw [PairsAt.len hes]; exact good.few
    exact ⟨n, D, zs, ps, rfl, good.n9, SqL.of hD, pz, by omega, pp, fun x es H' s g good _ => q x es H' (s2.trans s) g good⟩
theorem but_put {p l : Addr} {H H1 : Hp} {o : HO} (b : But p H H1) (n : H l = none) : But p H (upd H1 l o) := fun q u ne e => by
  rw [upd_ne (ne_of_none e n)]
  exact b q u ne e
theorem nums_len (ns : List Nat) : (nums ns).length = ns.length := List.length_map _
theorem nums_get {ns : List Nat} {k : Nat} (h : k < ns.length) : (nums ns)[k]? = some (.int ((ns[k] : Nat) : Int)) := by
  unfold nums
  rw [List.getElem?_map, List.getElem?_eq_getElem h]
  rfl
theorem nums_erase : ∀ (ns : List Nat) (k : Nat), (nums ns).eraseIdx k = nums (ns.eraseIdx k)
  | [], _ => rfl
  | _ :: _, 0 => rfl
  | a :: ns, k + 1 => congrArg (V.int ((a : Nat) : Int) :: ·) (nums_erase ns k)
theorem rgV_nums (n : Nat) : rgV 0 (n : Int) = nums (List.range n) := by
  unfold rgV nums
  rw [show ((n : Int) - 0).toNat = n by omega]
  refine List.map_congr_left fun i _ => ?_
  rw [Int.zero_add]
theorem moved {fs ls : List Nat} {k : Nat} (h : k < ls.length) : (fs ++ [ls[k]] ++ ls.eraseIdx k).Perm (fs ++ ls) := by
  rw [List.append_assoc]
  refine List.Perm.append_left fs ?_
  have e : ls = ls.take k ++ ls[k] :: ls.drop (k + 1) := by
    rw [List.getElem_cons_drop, List.take_append_drop]
  have e2 : ls.eraseIdx k = ls.take k ++ ls.drop (k + 1) := List.eraseIdx_eq_take_drop_succ ..
  rw [e2]
  refine (List.perm_middle (a := ls[k]) (l₁ := ls.take k) (l₂ := ls.drop (k + 1))).symm.trans ?_
  rw [← e]
theorem ok_order (F : L2.Fun K "_law_order" "_law_order" sOrder f fd) (GD : FnOk P w K mg base CX0 1 fD dD ["well", "many"] spDraw) (bD : L2.Binds K dD ["well", "many"] []) (kD : PySem.W.keepIn K (.ref fD) = true) (mD : mg "_law_draw" = some (.ref fD)) (ml : mg "len" = none) (mr : mg "range" = none) (mli : mg "list" = none) (mt : mg "tuple" = none) :
    FnOk P w K mg base CX0 2 f fd ["well", "many"] (spOrder K) := by
  refine F.ok scOrder (fun vs H Q E h => ?_) (fun cdv A outer s H vs Q E hr h => ?_)
  · obtain ⟨p, n, rfl, _⟩ := h
    rfl
  obtain ⟨p, n, rfl, hW, n9, q⟩ := h
  refine ⟨_, pss_cons (ps_par (by rfl) scOrder.nd (i := 2) (j := 3) rfl rfl (by decide) rfl rfl (pa_cons (pe_listRg rfl rfl mli (prg_1 rfl mr (pv 1))) (pa_cons (pe_lst pa_nil) pa_nil)) (by rfl))
    (pss_cons (ps_for PassesOwn.never rfl (pi_range1 rfl mr (pa_cons (pv 1) pa_nil)) (pg_name (i := 4) scOrder.nd rfl (.inl rfl))
      (pss_one (ps_expr (pe_bm PySem.F.plainAttrs_list PySem.F.slot_list_append PySem.F.type_list_append mt_append (pv 3) (pa_cons
        (pe_bm PySem.F.plainAttrs_list PySem.F.slot_list_pop PySem.F.type_list_pop mt_popAt (pv 2) (pa_cons (pe_call GD hr (by rfl) mD kD bD .nil pass0 (pa_cons (pv 0) (pa_cons (pe_callB call_len_seq (by rfl) ml PySem.boot_len (pa_cons (pv 2) pa_nil)) pa_nil))) pa_nil)) pa_nil)))))
    (pss_one (ps_ret (pe_callTy call_tuple_of (by rfl) mt (by decide +kernel) (pa_cons (pv 3) pa_nil))))), ?_⟩
  refine ⟨_, rfl, _, rfl, RgOk.of_le (by omega) (by omega) (by omega) (by omega), fun l nl => ?_⟩
  rw [rgV_nums]
  refine ⟨(by show 0 ≤ sizeLine; decide), fun b nb => ?_⟩
  have s1 := (same_new nl (.lst (nums (List.range n)))).trans (same_new nb (.lst []))
  have lp : l ≠ p := hW.ne nl
  have nb0 : H b = none := (same_new nl _).free nb
  have bp : b ≠ p := hW.ne nb0
  have bl : b ≠ l := fun e => by
    rw [e, upd_same] at nb
    cases nb
  refine ⟨_, _, rfl, ?_⟩
  refine ⟨_, rfl, (n : Int), rfl, by omega, by omega, for_range (lo := 0) (n := ((n : Nat) : Int).toNat) (fun i σ H' => ∃ (ls fs : List Nat) (s4 : Option V), σ = [some (.ref p), some (.int (n : Int)), some (.ref l), some (.ref b), s4] ∧ But p H H' ∧ Wl H' p ∧ H' l = some (.lst (nums ls)) ∧ H' b = some (.lst (nums fs)) ∧
      fs.length = i ∧ List.Perm (fs ++ ls) (List.range n)) ⟨List.range n, [], none, rfl, But.of s1, hW.same s1, (same_new nb _) _ _ upd_same, upd_same, rfl, .refl _⟩ ?_ ?_⟩
  · rintro i σ H1 li ⟨ls, fs, s4, rfl, b1, w1, hl, hb, lf, pm⟩
    have ll : fs.length + ls.length = n := by
      have := pm.length_eq
      rw [List.length_append, List.length_range] at this
      exact this
    refine ⟨_, rfl, .inl ⟨rfl, _, SqL.of hb⟩, ?_⟩
    refine ⟨_, rfl, .inl ⟨rfl, _, SqL.of hl⟩, ?_⟩
    have e1 : (nums ls).length = ls.length := nums_len ls
    refine ⟨_, rfl, _, rfl, l, _, rfl, .inl (SqL.of hl), p, _, rfl, w1, by omega, by omega, fun r H2 r0 r1 b2 w2 => ?_⟩
    obtain ⟨k, rfl⟩ : ∃ k : Nat, r = (k : Int) := ⟨r.toNat, by omega⟩
    have hk : k < ls.length := by omega
    have hl2 := b2 _ _ lp hl
    have hb2 := b2 _ _ bp hb
    refine ⟨l, nums ls, _, k, _, rfl, rfl, hl2, by omega, by omega, ?_, nums_get hk, ?_⟩
    · rw [show seqIndex? (k : Int) (nums ls).length = some ((k : Int)).toNat by unfold seqIndex?; rw [if_neg (show ¬ (k : Int) < 0 by omega)]; rw [if_pos (by simp; omega)]]
      rfl
    rw [nums_erase]
    refine ⟨b, nums fs, _, rfl, rfl, by rw [upd_ne bl]; exact hb2, small1000 (by rw [nums_len]; omega), ?_⟩
    have e2 : nums fs ++ [V.int ((ls[k] : Nat) : Int)] = nums (fs ++ [ls[k]]) := by
      unfold nums
      rw [List.map_append]
      rfl
    rw [e2]
    refine ⟨ls.eraseIdx k, fs ++ [ls[k]], _, rfl, but_put (but_put (b1.trans b2) nl) nb0, (w2.put lp).put bp, by rw [upd_ne (Ne.symm bl)]; exact upd_same, upd_same, by rw [List.length_append]; show fs.length + 1 = i + 1; omega, (moved hk).trans pm⟩
  · rintro σ H1 ⟨ls, fs, s4, rfl, b1, w1, hl, hb, lf, pm⟩
    rw [show ((n : Nat) : Int).toNat = n by omega] at lf
    have ll : fs.length + ls.length = n := by
      have := pm.length_eq
      rw [List.length_append, List.length_range] at this
      exact this
    have l0 : ls = [] := List.eq_nil_of_length_eq_zero (by omega)
    rw [l0, List.append_nil] at pm
    refine ⟨_, rfl, b, _, rfl, .inl ⟨SqL.of hb, fun t nt => ?_⟩⟩
    exact q t fs _ (b1.trans (But.new nt)) (w1.same (same_new nt _)) (SqT.of upd_same) ⟨lf, pm.nodup_iff.mpr List.nodup_range, fun k hk => List.mem_range.mp (pm.mem_iff.mp hk)⟩
end
end My

set_option maxHeartbeats 4000000
namespace My
open PySem PySem.Spec PyProof.Rows L2
abbrev sRandom : Stmt := top (23 + 9)
abbrev sSides : Stmt := top (23 + 10)
abbrev sBeside : Stmt := top (23 + 11)
abbrev sFolded : Stmt := top (23 + 12)
theorem scRandom : FnScope ["well", "n", "rare", "is_dense", "found", "u", "v"] ["well", "n"] (defScope sRandom) := ⟨rfl, rfl, rfl, by decide +kernel, rfl, by decide +kernel, by decide +kernel⟩
theorem scSides : FnScope ["well", "n", "found", "half", "u", "v"] ["well", "n"] (defScope sSides) := ⟨rfl, rfl, rfl, by decide +kernel, rfl, by decide +kernel, by decide +kernel⟩
theorem scBeside : FnScope ["one", "two", "is_joined", "u", "n", "far", "v"] ["one", "two", "is_joined"] (defScope sBeside) := ⟨rfl, rfl, rfl, by decide +kernel, rfl, by decide +kernel, by decide +kernel⟩
theorem scFolded : FnScope ["well", "n", "found", "turn"] ["well", "n"] (defScope sFolded) := ⟨rfl, rfl, rfl, by decide +kernel, rfl, by decide +kernel, by decide +kernel⟩
/-- what a drawn graph of n vertices is -/
def spGr (K : PySem.W.Frag) (n : Nat) (p : Addr) (H : Hp) (Q : VK) : Prop := ∀ (x : V) (es : List E2) (H' : Hp), But p H H' → Wl H' p → GraphAt K H' x n es → Good n es → Q x H'
def spRandom (K : PySem.W.Frag) : Sp := fun vs H Q _ => ∃ (p : Addr) (n : Nat), vs = [.ref p, .int (n : Int)] ∧ Wl H p ∧ n ≤ 9 ∧ spGr K n p H Q
def spBeside (K : PySem.W.Frag) : Sp := fun vs H Q _ => ∃ (x y : V) (n m : Nat) (es fs : List E2) (j : Bool), vs = [x, y, .bl j] ∧ GraphAt K H x n es ∧ Good n es ∧ GraphAt K H y m fs ∧ Good m fs ∧ n + m ≤ 9 ∧ fs.length + n * m ≤ 27 ∧
  ∀ (z : V) (gs : List E2) (H' : Hp), Same H H' → GraphAt K H' z (n + m) gs → Good (n + m) gs → Q z H'
def spFolded (K : PySem.W.Frag) : Sp := fun vs H Q _ => ∃ (p : Addr) (n : Nat), vs = [.ref p, .int (n : Int)] ∧ Wl H p ∧ 1 ≤ n ∧ n ≤ 9 ∧ spGr K n p H Q
theorem upto_pairs {n : Nat} {ps : List E2} {u k : Nat} (hu : u < n) (hk : k ≤ n - (u + 1)) (h : ps.Sublist ((List.range u).flatMap (rowP n) ++ (List.range k).map fun j => (u, u + 1 + j))) : ps.Sublist (allP n) := by
  refine h.trans ?_
  have e1 : allP n = (List.range u).flatMap (rowP n) ++ ((List.range (n - u)).map (u + ·)).flatMap (rowP n) := by
    unfold allP
    rw [← List.flatMap_append]
    congr 1
    have := List.range_add (n := u) (m := n - u)
    rw [show u + (n - u) = n by omega] at this
    exact this
  rw [e1]
  refine List.Sublist.append_left ?_ _
  rw [show n - u = (n - (u + 1)) + 1 by omega, List.range_succ_eq_map, List.map_cons, List.flatMap_cons]
  refine List.Sublist.trans ?_ (List.sublist_append_left ..)
  show ((List.range k).map fun j => (u, u + 1 + j)).Sublist ((List.range (n - (u + 0 + 1))).map fun j => (u + 0, u + 0 + 1 + j))
  rw [Nat.add_zero]
  exact (List.range_sublist.mpr hk).map _
theorem sub_all {n : Nat} {ps : List E2} (n9 : n ≤ 9) (h : ps.Sublist (allP n)) : ps.length ≤ 36 ∧ ∀ q ∈ ps, q.1 ≠ q.2 ∧ q.1 < n ∧ q.2 < n := by
  refine ⟨Nat.le_trans h.length_le (allP_few n n9), fun q hq => ?_⟩
  have z := mem_allP.mp (h.subset hq)
  omega
section
variable {P : Program} {w : World} {K : PySem.W.Frag} {mg : Str → Option Value} {base : Heap} {f fD fP fK fB fU : Addr} {fd dD dP dK dB dU : FuncData}
theorem ok_random (F : L2.Fun K "_law_random" "_law_random" sRandom f fd) (GD : FnOk P w K mg base CX0 1 fD dD ["well", "many"] spDraw) (bD : L2.Binds K dD ["well", "many"] []) (kD : PySem.W.keepIn K (.ref fD) = true) (mD : mg "_law_draw" = some (.ref fD))
    (GP : FnOk P w K mg base CX0 1 fP dP ["n", "pairs"] (spOfPairs K)) (bP : L2.Binds K dP ["n", "pairs"] []) (kP : PySem.W.keepIn K (.ref fP) = true) (mP : mg "_law_of_pairs" = some (.ref fP))
    (GK : FnOk P w K mg base CX0 2 fK dK ["well", "some"] (spPick K)) (bK : L2.Binds K dK ["well", "some"] []) (kK : PySem.W.keepIn K (.ref fK) = true) (mK : mg "_law_pick" = some (.ref fK)) (mr : mg "range" = none) :
    FnOk P w K mg base CX0 3 f fd ["well", "n"] (spRandom K) := by
  refine F.ok scRandom (fun vs H Q E h => ?_) (fun cdv A outer s H vs Q E hr h => ?_)
  · obtain ⟨p, n, rfl, _⟩ := h
    rfl
  obtain ⟨p, n, rfl, hW, n9, q⟩ := h
  refine ⟨_, pss_cons (ps_par3 (by rfl) scRandom.nd (i := 2) (j := 3) (l := 4) rfl rfl rfl (by decide) (by decide) (by decide) rfl rfl rfl (pa_cons (pe_call GK hr (by rfl) mK kK bK .nil pass0 (pa_cons (pv 0) (pa_cons (pe_tup (pa_cons pe_int (pa_cons pe_int (pa_cons pe_int (pa_cons pe_int pa_nil))))) pa_nil)))
        (pa_cons (pe_cmpR op_eq (pe_call GD (hr.mono (by decide)) (by rfl) mD kD bD .nil pass0 (pa_cons (pv 0) (pa_cons pe_int pa_nil))) pe_int (nomark _)) (pa_cons (pe_lst pa_nil) pa_nil))) (by rfl))
    (pss_cons (ps_for PassesOwn.never rfl (pi_range1 rfl mr (pa_cons (pv 1) pa_nil)) (pg_name (i := 5) scRandom.nd rfl (.inl rfl))
      (pss_one (ps_for PassesOwn.never rfl (pi_range2 (by rfl) mr (pa_cons (pe_op op_add (pv 5) pe_int) (pa_cons (pv 1) pa_nil))) (pg_name (i := 6) scRandom.nd rfl (.inl rfl))
        (pss_one (ps_if (pt_cmpR op_ne (pe_cmpR op_eq (pe_call GD (hr.mono (by decide)) (by rfl) mD kD bD .nil pass0 (pa_cons (pv 0) (pa_cons (pv 2) pa_nil))) pe_int (nomark _)) (pv 3) (nomark _))
          (pss_one (ps_expr (pe_bm PySem.F.plainAttrs_list PySem.F.slot_list_append PySem.F.type_list_append mt_append (pv 4) (pa_cons (pe_tup (pa_cons (pv 5) (pa_cons (pv 6) pa_nil))) pa_nil)))) pss_nil)))))
    (pss_one (ps_ret (pe_call GP (hr.mono (by decide)) (by rfl) mP kP bP .nil pass0 (pa_cons (pv 1) (pa_cons (pv 4) pa_nil)))))), ?_⟩
  refine ⟨_, rfl, (by show 4 ≤ sizeLine; decide), fun t nt => ?_⟩
  have s1 := same_new nt (.tup [.int 2, .int 2, .int 3, .int 4])
  have w1 := hW.same s1
  refine ⟨p, t, _, rfl, w1, w1.off (SqT.of upd_same), by decide, by decide, fun i v H2 hi b2 w2 => ?_⟩
  obtain ⟨rare, rfl, r1, r2⟩ : ∃ rare : Int, v = .int rare ∧ 0 < rare ∧ rare < 5 := by
    have m := List.mem_of_getElem? hi
    simp only [List.mem_cons, List.mem_nil_iff, or_false] at m
    rcases m with rfl | rfl | rfl | rfl <;> exact ⟨_, rfl, by decide, by decide⟩
  refine ⟨_, rfl, p, _, rfl, w2, by decide, by decide, fun d H3 _ _ b3 w3 => ?_⟩
  refine ⟨rfl, (by show 0 ≤ sizeLine; decide), fun D nD => ?_⟩
  have b4 : But p H _ := ((But.of s1).trans b2).trans (b3.trans (But.new (o := .lst []) nD))
  have w4 := w3.same (same_new nD (.lst []))
  have Dp : D ≠ p := w3.ne nD
  have nD0 : H D = none := by
    have z : (upd H t (.tup [.int 2, .int 2, .int 3, .int 4])) D = none := by
      cases e : (upd H t (.tup [.int 2, .int 2, .int 3, .int 4])) D with
      | none => rfl
      | some o => rw [b3 _ _ Dp (b2 _ _ Dp e)] at nD; cases nD
    exact s1.free z
  generalize hd : (decide (V.int d = V.int 0)) = dense
  refine ⟨_, _, _, rfl, ?_⟩
  refine ⟨_, rfl, (n : Int), rfl, by omega, by omega, for_range (lo := 0) (n := ((n : Nat) : Int).toNat) (fun u σ H' => ∃ (zs : List V) (ps : List E2) (s5 s6 : Option V), σ = [some (.ref p), some (.int (n : Int)), some (.int rare), some (.bl dense), some (.ref D), s5, s6] ∧ But p H H' ∧ Wl H' p ∧ H' D = some (.lst zs) ∧
      PairsAt K H' zs ps ∧ ps.Sublist ((List.range u).flatMap (rowP n))) ⟨[], [], none, none, rfl, b4, w4, upd_same, .nil, .slnil⟩ ?_ ?_⟩
  · rintro u σ H1 lu ⟨zs, ps, s5, s6, rfl, b1, w1, hD, hP, hS⟩
    rw [Int.zero_add]
    have un : u < n := by omega
    refine ⟨_, rfl, _, _, rfl, rfl, _, rfl, _, _, rfl, ⟨by omega, by omega, by omega, by omega⟩, for_range (lo := (u : Int) + 1) (n := ((n : Int) - ((u : Int) + 1)).toNat)
      (fun k σ H' => ∃ (zs : List V) (ps : List E2) (s6 : Option V), σ = [some (.ref p), some (.int (n : Int)), some (.int rare), some (.bl dense), some (.ref D), some (.int (u : Int)), s6] ∧ But p H H' ∧ Wl H' p ∧ H' D = some (.lst zs) ∧
      PairsAt K H' zs ps ∧ ps.Sublist ((List.range u).flatMap (rowP n) ++ (List.range k).map fun j => (u, u + 1 + j))) ⟨zs, ps, s6, rfl, b1, w1, hD, hP, by rw [List.range_zero, List.map_nil, List.append_nil]; exact hS⟩ ?_ ?_⟩
    · rintro k σ H2 lk ⟨zs, ps, s6, rfl, b2, w2, hD, hP, hS⟩
      rw [show ((u : Int) + 1 + (k : Int)) = ((u + 1 + k : Nat) : Int) by omega]
      refine ⟨_, rfl, _, rfl, p, _, rfl, w2, r1, by omega, fun d2 H3 _ _ b3 w3 => ?_⟩
      have hP3 := hP.ts (TS.but b3 w2)
      have hD3 := b3 _ _ Dp hD
      refine ⟨rfl, _, rfl, rfl, _, rfl, iteB (fun _ => ?_) (fun _ => ?_)⟩
      · refine ⟨_, rfl, .inl ⟨rfl, _, SqL.of hD3⟩, _, rfl, _, rfl, (by show 2 ≤ sizeLine; decide), fun r nr => ?_⟩
        obtain ⟨t1, p1⟩ := push_pair (u, u + 1 + k) hD3 nr hP3
        have l1 : zs.length ≤ 36 := by rw [PairsAt.len hP]; exact (sub_all n9 (upto_pairs un (by omega) hS)).1
        refine ⟨D, zs, _, rfl, rfl, (same_new nr _) _ _ hD3, small1000 (by omega), zs ++ [.ref r], ps ++ [(u, u + 1 + k)], _, rfl, but_put ((b2.trans b3).trans (But.new nr)) nD0, (w3.same (same_new nr _)).put Dp, upd_same, p1, ?_⟩
        rw [List.range_succ, List.map_append, ← List.append_assoc]
        exact hS.append (List.Sublist.refl _)
      · refine ⟨zs, ps, _, rfl, b2.trans b3, w3, hD3, hP3, ?_⟩
        rw [List.range_succ, List.map_append, ← List.append_assoc]
        exact hS.trans (List.sublist_append_left ..)
    · rintro σ H2 ⟨zs, ps, s6, rfl, b2, w2, hD, hP, hS⟩
      refine ⟨zs, ps, _, _, rfl, b2, w2, hD, hP, ?_⟩
      rw [show ((n : Int) - ((u : Int) + 1)).toNat = n - (u + 1) by omega] at hS
      rw [List.range_succ, List.flatMap_append, List.flatMap_cons, List.flatMap_nil, List.append_nil]
      exact hS
  · rintro σ H1 ⟨zs, ps, s5, s6, rfl, b1, w1, hD, hP, hS⟩
    rw [show ((n : Nat) : Int).toNat = n by omega] at hS
    obtain ⟨l1, l2⟩ := sub_all n9 hS
    refine ⟨_, rfl, _, rfl, n, D, zs, ps, rfl, n9, SqL.of hD, hP, by rw [PairsAt.len hP]; omega, l2, fun x es H' s' g good _ => ?_⟩
    exact q x es H' (b1.trans (But.of s')) (w1.same s') g good
theorem ok_sides (F : L2.Fun K "_law_sides" "_law_sides" sSides f fd) (GD : FnOk P w K mg base CX0 1 fD dD ["well", "many"] spDraw) (bD : L2.Binds K dD ["well", "many"] []) (kD : PySem.W.keepIn K (.ref fD) = true) (mD : mg "_law_draw" = some (.ref fD))
    (GP : FnOk P w K mg base CX0 1 fP dP ["n", "pairs"] (spOfPairs K)) (bP : L2.Binds K dP ["n", "pairs"] []) (kP : PySem.W.keepIn K (.ref fP) = true) (mP : mg "_law_of_pairs" = some (.ref fP)) (mr : mg "range" = none) :
    FnOk P w K mg base CX0 2 f fd ["well", "n"] (spRandom K) := by
  refine F.ok scSides (fun vs H Q E h => ?_) (fun cdv A outer s H vs Q E hr h => ?_)
  · obtain ⟨p, n, rfl, _⟩ := h
    rfl
  obtain ⟨p, n, rfl, hW, n9, q⟩ := h
  refine ⟨_, pss_cons (ps_par (by rfl) scSides.nd (i := 2) (j := 3) rfl rfl (by decide) rfl rfl (pa_cons (pe_lst pa_nil) (pa_cons (pe_op op_fdiv (pv 1) pe_int) pa_nil)) (by rfl))
    (pss_cons (ps_for PassesOwn.never rfl (pi_range1 rfl mr (pa_cons (pv 3) pa_nil)) (pg_name (i := 4) scSides.nd rfl (.inl rfl))
      (pss_one (ps_for PassesOwn.never rfl (pi_range2 (by rfl) mr (pa_cons (pv 3) (pa_cons (pv 1) pa_nil))) (pg_name (i := 5) scSides.nd rfl (.inl rfl))
        (pss_one (ps_if (pt_cmpR op_gt (pe_call GD hr (by rfl) mD kD bD .nil pass0 (pa_cons (pv 0) (pa_cons pe_int pa_nil))) pe_int (nomark _))
          (pss_one (ps_expr (pe_bm PySem.F.plainAttrs_list PySem.F.slot_list_append PySem.F.type_list_append mt_append (pv 2) (pa_cons (pe_tup (pa_cons (pv 4) (pa_cons (pv 5) pa_nil))) pa_nil)))) pss_nil)))))
    (pss_one (ps_ret (pe_call GP hr (by rfl) mP kP bP .nil pass0 (pa_cons (pv 1) (pa_cons (pv 2) pa_nil)))))), ?_⟩
  refine ⟨(by show 0 ≤ sizeLine; decide), fun D nD => ?_⟩
  have w1 := hW.same (same_new nD (.lst []))
  have Dp : D ≠ p := hW.ne nD
  refine ⟨_, rfl, _, _, rfl, rfl, ⟨by decide, by decide⟩, _, _, rfl, ?_⟩
  obtain ⟨m, hm⟩ : ∃ m : Nat, m = n / 2 := ⟨_, rfl⟩
  refine ⟨_, rfl, (n : Int) / 2, rfl, by omega, by omega, for_range (lo := 0) (n := ((n : Int) / 2).toNat) (fun u σ H' => ∃ (zs : List V) (ps : List E2) (s5 s6 : Option V), σ = [some (.ref p), some (.int (n : Int)), some (.ref D), some (.int ((n : Int) / 2)), s5, s6] ∧ But p H H' ∧ Wl H' p ∧ H' D = some (.lst zs) ∧
      PairsAt K H' zs ps ∧ (∀ q ∈ ps, q.1 ≠ q.2 ∧ q.1 < n ∧ q.2 < n) ∧ ps.length ≤ 5 * u) ⟨[], [], none, none, rfl, But.new nD, w1, upd_same, .nil, (fun _ z => nomatch z), (by show 0 ≤ 5 * 0; omega)⟩ ?_ ?_⟩
  · rintro u σ H1 lu ⟨zs, ps, s5, s6, rfl, b1, w1, hD, hP, hS, hL⟩
    rw [Int.zero_add]
    have un : u < m := by omega
    refine ⟨_, rfl, _, rfl, _, _, rfl, ⟨by omega, by omega, by omega, by omega⟩, for_range (lo := (n : Int) / 2) (n := ((n : Int) - (n : Int) / 2).toNat)
      (fun k σ H' => ∃ (zs : List V) (ps : List E2) (s6 : Option V), σ = [some (.ref p), some (.int (n : Int)), some (.ref D), some (.int ((n : Int) / 2)), some (.int (u : Int)), s6] ∧ But p H H' ∧ Wl H' p ∧ H' D = some (.lst zs) ∧
      PairsAt K H' zs ps ∧ (∀ q ∈ ps, q.1 ≠ q.2 ∧ q.1 < n ∧ q.2 < n) ∧ ps.length ≤ 5 * u + k) ⟨zs, ps, s6, rfl, b1, w1, hD, hP, hS, hL⟩ ?_ ?_⟩
    · rintro k σ H2 lk ⟨zs, ps, s6, rfl, b2, w2, hD, hP, hS, hL⟩
      rw [show ((n : Int) / 2 + (k : Int)) = ((m + k : Nat) : Int) by omega]
      refine ⟨_, rfl, p, _, rfl, w2, by decide, by decide, fun d2 H3 _ _ b3 w3 => ?_⟩
      have hP3 := hP.ts (TS.but b3 w2)
      have hD3 := b3 _ _ Dp hD
      refine ⟨_, _, rfl, rfl, _, rfl, iteB (fun _ => ?_) (fun _ => ?_)⟩
      · refine ⟨_, rfl, .inl ⟨rfl, _, SqL.of hD3⟩, _, rfl, _, rfl, (by show 2 ≤ sizeLine; decide), fun r nr => ?_⟩
        obtain ⟨t1, p1⟩ := push_pair (u, m + k) hD3 nr hP3
        have l0 := PairsAt.len hP
        refine ⟨D, zs, _, rfl, rfl, (same_new nr _) _ _ hD3, small1000 (by omega), zs ++ [.ref r], ps ++ [(u, m + k)], _, rfl, but_put ((b2.trans b3).trans (But.new nr)) nD, (w3.same (same_new nr _)).put Dp, upd_same, p1, fun q hq => ?_, by rw [List.length_append]; show ps.length + 1 ≤ 5 * u + (k + 1); omega⟩
        rcases List.mem_append.mp hq with hq | hq
        · exact hS q hq
        · rw [List.mem_singleton.mp hq]
          show u ≠ m + k ∧ u < n ∧ m + k < n
          omega
      · exact ⟨zs, ps, _, rfl, b2.trans b3, w3, hD3, hP3, hS, by omega⟩
    · rintro σ H2 ⟨zs, ps, s6, rfl, b2, w2, hD, hP, hS, hL⟩
      exact ⟨zs, ps, _, _, rfl, b2, w2, hD, hP, hS, by omega⟩
  · rintro σ H1 ⟨zs, ps, s5, s6, rfl, b1, w1, hD, hP, hS, hL⟩
    refine ⟨_, rfl, _, rfl, n, D, zs, ps, rfl, n9, SqL.of hD, hP, by rw [PairsAt.len hP]; omega, hS, fun x es H' s' g good _ => ?_⟩
    exact q x es H' (b1.trans (But.of s')) (w1.same s') g good
theorem off_pairs {K : PySem.W.Frag} {H : Hp} : ∀ {xs : List V} {ps : List E2}, PairsAt K H xs ps → ∀ x ∈ xs, ∃ p ∈ ps, PairAt K H x p
  | _, _, .nil => fun _ z => nomatch z
  | _, _, .cons a b => fun x hx => by
    rcases List.mem_cons.mp hx with rfl | hx
    · exact ⟨_, List.mem_cons_self .., a⟩
    · obtain ⟨p, h1, h2⟩ := off_pairs b x hx
      exact ⟨p, List.mem_cons_of_mem _ h1, h2⟩
theorem ok_beside (F : L2.Fun K "_law_beside" "_law_beside" sBeside f fd) (GP : FnOk P w K mg base CX0 1 fP dP ["n", "pairs"] (spOfPairs K)) (bP : L2.Binds K dP ["n", "pairs"] []) (kP : PySem.W.keepIn K (.ref fP) = true) (mP : mg "_law_of_pairs" = some (.ref fP)) (mr : mg "range" = none) (mli : mg "list" = none) :
    FnOk P w K mg base CX0 2 f fd ["one", "two", "is_joined"] (spBeside K) := by
  refine F.ok scBeside (fun vs H Q E h => ?_) (fun cdv A outer s H vs Q E hr h => ?_)
  · obtain ⟨x, y, n, m, es, fs, j, rfl, _⟩ := h
    rfl
  obtain ⟨x, y, n, m, es, fs, j, rfl, ⟨g1, e1, xs1, rfl, hg1, he1, hes⟩, good1, ⟨g2, e2, xs2, rfl, hg2, he2, hfs⟩, good2, nm, few, q⟩ := h
  refine ⟨_, pss_cons (ps_asg (pe_tup (pa_cons (pe_ix ix_tup (pv 0) pe_int (fun _ _ => rfl)) (pa_cons (pe_lc (own := [("u", 3), ("v", 6)]) (g := gTup K 2 (gCons (gName 3) (gCons (gName 6) gNil))) (tt := tYes) rfl scBeside.nd (pi_tup (pe_ix ix_tup (pv 1) pe_int (fun _ _ => rfl)))
      (blkOk_by (N := ["one", "two", "is_joined", "u", "n", "far", "v"]) (sc := defScope sBeside) (by decide +kernel)) (fun _ _ _ _ _ => pg_tup (by rfl) (pgs_cons (pg_name (i := 3) scBeside.nd rfl (Or.inl rfl)) (pgs_cons (pg_name (i := 6) scBeside.nd rfl (Or.inl rfl)) pgs_nil))) (fun _ _ _ _ _ => pts_nil)
      (fun _ _ _ _ _ => pe_tup (pa_cons (pe_op op_add (pe_ix (r := rIxT K) ix_tup (pv 0) pe_int (fun _ _ => rfl)) (pv 3)) (pa_cons (pe_op op_add (pe_ix (r := rIxT K) ix_tup (pv 0) pe_int (fun _ _ => rfl)) (pv 6)) pa_nil)))) pa_nil)))
      (pg_tup (by rfl) (pgs_cons (pg_name (i := 4) scBeside.nd rfl (.inr rfl)) (pgs_cons (pg_name (i := 5) scBeside.nd rfl (.inl rfl)) pgs_nil))))
    (pss_cons (ps_if (pt_val (pv 2)) (pss_one (ps_for PassesOwn.never rfl (pi_range1 rfl mr (pa_cons (pv 4) pa_nil)) (pg_name (i := 3) scBeside.nd rfl (.inr rfl))
        (pss_one (ps_set (i := 5) scBeside.nd rfl (.inl rfl) (pe_op op_cat (pv 5) (pe_lc (own := [("v", 6)]) (g := gName 6) (tt := tYes) rfl scBeside.nd (pi_range1 rfl mr (pa_cons (pe_ix ix_tup (pv 1) pe_int (fun _ _ => rfl)) pa_nil))
          (blkOk_by (N := ["one", "two", "is_joined", "u", "n", "far", "v"]) (sc := defScope sBeside) (by decide +kernel)) (fun _ _ _ _ _ => pg_name (i := 6) scBeside.nd rfl (Or.inl rfl)) (fun _ _ _ _ _ => pts_nil)
          (fun _ _ _ _ _ => pe_tup (pa_cons (pv 3) (pa_cons (pe_op op_add (pv 4) (pv 6)) pa_nil))))))))) pss_nil)
    (pss_one (ps_ret (pe_call GP hr (by rfl) mP kP bP .nil pass0 (pa_cons (pe_op op_add (pv 4) (pe_ix ix_tup (pv 1) pe_int (fun _ _ => rfl))) (pa_cons (pe_op op_cat (pe_callTy call_list_of (by rfl) mli (by decide +kernel) (pa_cons (pe_ix ix_tup (pv 0) pe_int (fun _ _ => rfl)) pa_nil)) (pv 5)) pa_nil)))))), ?_⟩
  refine ⟨_, rfl, g1, _, _, _, rfl, rfl, hg1, rfl, ?_⟩
  refine ⟨_, rfl, g2, _, _, _, rfl, rfl, hg2, rfl, e2, rfl, ⟨_, he2⟩, fun D nD => lc_tup (K := K) (a := e2) (xs := xs2)
      (fun i H2 => Same H H2 ∧ ∃ zs ps, H2 D = some (.lst zs) ∧ zs.length = i ∧ PairsAt K H2 zs ps ∧ ∀ p ∈ ps, p.1 ≠ p.2 ∧ p.1 < n + m ∧ p.2 < n + m) ⟨same_new nD _, [], [], upd_same, rfl, .nil, fun _ z => nomatch z⟩ ?_ ?_ ?_⟩
  · rintro i H1 _ ⟨s1, _⟩
    exact Same.tup s1 he2
  · rintro i x H2 hi ⟨s2, zs, ps, hD, lz, pz, pp⟩
    obtain ⟨p, hp, t1, rfl, ht1⟩ := PairsAt.get (hfs.same s2) hi
    obtain ⟨l1, l2⟩ := good2.lt p (List.mem_of_getElem? hp)
    have hg3 := Same.tup s2 hg1
    refine ⟨t1, _, rfl, ht1, rfl, _, _, rfl, _, _, rfl, rfl, ?_⟩
    refine ⟨rfl, ?_⟩
    refine ⟨_, rfl, g1, _, _, _, rfl, rfl, hg3, rfl, _, rfl, _, _, rfl, rfl, _, rfl, g1, _, _, _, rfl, rfl, hg3, rfl, _, rfl, _, _, rfl, rfl, (by show 2 ≤ sizeLine; decide), fun r nr => ?_⟩
    obtain ⟨t1, p1⟩ := push_pair (n + p.1, n + p.2) hD nr pz
    have li : i < xs2.length := (List.getElem?_eq_some_iff.mp hi).1
    have l3 : xs2.length ≤ 36 := by rw [PairsAt.len hfs]; exact good2.few
    refine ⟨zs, (same_new nr _) _ _ hD, small1000 (by omega), same_put (s2.trans (same_new nr _)) nD, _, _, upd_same, by rw [List.length_append]; show zs.length + 1 = i + 1; omega, p1, fun r hr => ?_⟩
    rcases List.mem_append.mp hr with hr | hr
    · exact pp r hr
    · rw [List.mem_singleton.mp hr]
      show n + p.1 ≠ n + p.2 ∧ n + p.1 < n + m ∧ n + p.2 < n + m
      omega
  rintro H2 ⟨s2, zs, ps, hD, lz, pz, pp⟩
  refine ⟨(by show 2 ≤ sizeLine; decide), fun r nr => ?_⟩
  have s3 := s2.trans (same_new nr (.tup [.int (n : Int), .ref D]))
  refine ⟨r, _, rfl, SqT.of upd_same, rfl, _, _, rfl, _, _, rfl, rfl, ?_⟩
  have lf : xs2.length = fs.length := PairsAt.len hfs
  have le : xs1.length ≤ 36 := by rw [PairsAt.len hes]; exact good1.few
  have n9 : n ≤ 9 := by omega
  have fin : ∀ (B : Addr) (ys : List V) (ps : List E2) (H3 : Hp) (xs1' : List V), Same H H3 → H3 B = some (.lst ys) → PairsAt K H3 ys ps → (∀ p ∈ ps, p.1 ≠ p.2 ∧ p.1 < n + m ∧ p.2 < n + m) → ps.length ≤ 27 →
      ∀ l, H3 l = none → (upd H3 l (.lst xs1)) B = some (.lst ys) ∧ xs1.length + ys.length ≤ sizeLine ∧ ∀ c, (upd H3 l (.lst xs1)) c = none → spOfPairs K [.int ((n + m : Nat) : Int), .ref c] (upd (upd H3 l (.lst xs1)) c (.lst (xs1 ++ ys))) Q E0 := by
    intro B ys ps H3 _ s4 hB hP pp few l nl
    have l2 := PairsAt.len hP
    have l1 := PairsAt.len hes
    have s5 := same_new nl (.lst xs1)
    refine ⟨s5 _ _ hB, small (by omega), fun c nc => ?_⟩
    have s6 := same_new nc (.lst (xs1 ++ ys))
    refine ⟨n + m, c, xs1 ++ ys, es ++ ps, rfl, nm, SqL.of upd_same, (hes.same (s4.trans (s5.trans s6))).append (hP.same (s5.trans s6)), by rw [List.length_append]; omega, fun p hp => ?_, fun x gs H' s7 g good _ => q x gs H' (s4.trans ((s5.trans s6).trans s7)) g good⟩
    rcases List.mem_append.mp hp with hp | hp
    · have z := good1.lt p hp
      omega
    · exact pp p hp
  refine ⟨_, rfl, _, rfl, iteB (fun _ => ?_) (fun _ => ?_)⟩
  · refine ⟨_, rfl, (n : Int), rfl, by omega, by omega, for_range (lo := 0) (n := ((n : Nat) : Int).toNat) (fun u σ H' => ∃ (B : Addr) (ys : List V) (ps : List E2) (s3 s6 : Option V), σ = [some (.ref g1), some (.ref g2), some (.bl j), s3, some (.int (n : Int)), some (.ref B), s6] ∧ Same H H' ∧ H' B = some (.lst ys) ∧
      PairsAt K H' ys ps ∧ (∀ p ∈ ps, p.1 ≠ p.2 ∧ p.1 < n + m ∧ p.2 < n + m) ∧ ps.length = fs.length + u * m) ⟨D, zs, ps, none, none, rfl, s3, (same_new nr _) _ _ hD, pz.same (same_new nr _), pp, by rw [← PairsAt.len pz, lz, lf, Nat.zero_mul, Nat.add_zero]⟩ ?_ ?_⟩
    · rintro u σ H3 lu ⟨B, ys, ps, s3, s6, rfl, s4, hB, hP, pp, lp⟩
      rw [Int.zero_add]
      have un : u < n := by omega
      have hg3 := Same.tup s4 hg2
      have um : u * m + m ≤ n * m := by
        rw [← Nat.succ_mul]
        exact Nat.mul_le_mul_right m (by omega)
      refine ⟨_, rfl, _, rfl, g2, _, _, _, rfl, rfl, hg3, rfl, (m : Int), rfl, by omega, by omega, fun D nD => lc_range (lo := 0) (n := ((m : Nat) : Int).toNat)
        (fun k H2 => Same H3 H2 ∧ ∃ zs ps, H2 D = some (.lst zs) ∧ ps.length = k ∧ PairsAt K H2 zs ps ∧ ∀ p ∈ ps, p.1 ≠ p.2 ∧ p.1 < n + m ∧ p.2 < n + m) ⟨same_new nD _, [], [], upd_same, rfl, .nil, fun _ z => nomatch z⟩ ?_ ?_⟩
      · rintro k H4 lk ⟨s5, zs, ps, hD, lz, pz, pp⟩
        rw [Int.zero_add]
        refine ⟨rfl, ?_⟩
        refine ⟨_, rfl, _, rfl, _, rfl, _, _, rfl, rfl, (by show 2 ≤ sizeLine; decide), fun r nr => ?_⟩
        obtain ⟨t1, p1⟩ := push_pair (u, n + k) hD nr pz
        have l0 := PairsAt.len pz
        refine ⟨zs, (same_new nr _) _ _ hD, small1000 (by omega), same_put (s5.trans (same_new nr _)) nD, _, _, upd_same, by rw [List.length_append]; show ps.length + 1 = k + 1; omega, p1, fun r hr => ?_⟩
        rcases List.mem_append.mp hr with hr | hr
        · exact pp r hr
        · rw [List.mem_singleton.mp hr]
          show u ≠ n + k ∧ u < n + m ∧ n + k < n + m
          omega
      · rintro H4 ⟨s5, zs, ps2, hD, lz, pz, pp2⟩
        have l0 := PairsAt.len pz
        have l1 := PairsAt.len hP
        refine ⟨B, D, ys, zs, rfl, rfl, s5 _ _ hB, hD, small (by omega), fun c nc => ?_⟩
        have s7 := same_new nc (.lst (ys ++ zs))
        refine ⟨c, _, ps ++ ps2, _, _, rfl, s4.trans (s5.trans s7), upd_same, (hP.same (s5.trans s7)).append (pz.same s7), fun p hp => ?_, ?_⟩
        · rcases List.mem_append.mp hp with hp | hp
          · exact pp p hp
          · exact pp2 p hp
        · rw [List.length_append, lp, lz, Nat.succ_mul]
          omega
    · rintro σ H3 ⟨B, ys, ps, s3, s6, rfl, s4, hB, hP, pp, lp⟩
      rw [show ((n : Nat) : Int).toNat = n by omega] at lp
      refine ⟨_, rfl, _, rfl, g2, _, _, _, rfl, rfl, Same.tup s4 hg2, rfl, _, _, rfl, rfl, _, rfl, g1, _, _, _, rfl, rfl, Same.tup s4 hg1, rfl, e1, _, rfl, .inr (Same.tup s4 he1), fun l nl => ?_⟩
      obtain ⟨x1, x2, x3⟩ := fin B ys ps H3 ys s4 hB hP pp (by omega) l nl
      exact ⟨_, rfl, l, B, _, _, rfl, rfl, upd_same, x1, x2, x3⟩
  · refine ⟨_, rfl, _, rfl, g2, _, _, _, rfl, rfl, Same.tup s3 hg2, rfl, _, _, rfl, rfl, _, rfl, g1, _, _, _, rfl, rfl, Same.tup s3 hg1, rfl, e1, _, rfl, .inr (Same.tup s3 he1), fun l nl => ?_⟩
    obtain ⟨x1, x2, x3⟩ := fin D zs ps _ zs s3 ((same_new nr _) _ _ hD) (pz.same (same_new nr _)) pp (by rw [← PairsAt.len pz]; omega) l nl
    exact ⟨_, rfl, l, D, _, _, rfl, rfl, upd_same, x1, x2, x3⟩
end
end My

set_option maxHeartbeats 4000000
namespace My
open PySem PySem.Spec PyProof.Rows L2
abbrev sGrown : Stmt := top (23 + 13)
abbrev sGraph : Stmt := top (23 + 14)
theorem scGrown : FnScope ["well", "graph", "n", "v", "twin", "is_twin", "u", "pairs"] ["well", "graph", "n"] (defScope sGrown) := ⟨rfl, rfl, rfl, by decide +kernel, rfl, by decide +kernel, by decide +kernel⟩
theorem scGraph : FnScope ["well", "most", "n", "way", "found"] ["well", "most"] (defScope sGraph) := ⟨rfl, rfl, rfl, by decide +kernel, rfl, by decide +kernel, by decide +kernel⟩
def spGrown (K : PySem.W.Frag) : Sp := fun vs H Q _ => ∃ (p : Addr) (x : V) (m n : Nat) (es : List E2), vs = [.ref p, x, .int (n : Int)] ∧ Wl H p ∧ GraphAt K H x m es ∧ Good m es ∧ 1 ≤ m ∧ m ≤ n ∧ n ≤ 9 ∧ spGr K n p H Q
def spGraph (K : PySem.W.Frag) : Sp := fun vs H Q _ => ∃ (p : Addr) (most : Nat), vs = [.ref p, .int (most : Int)] ∧ Wl H p ∧ most ≤ 9 ∧ ∀ (x : V) (n : Nat) (es : List E2) (H' : Hp), n ≤ most → But p H H' → Wl H' p → GraphAt K H' x n es → Good n es → Q x H'
theorem good_left {n : Nat} (n9 : n ≤ 9) (es : List E2) : Good n (leftP n es) := Good.filter n9 _
theorem But.none {p D : Addr} {H H1 : Hp} (b : But p H H1) (w : Wl H1 p) (n : H1 D = none) : H D = none := by
  cases e : H D with
  | none => rfl
  | some o =>
    rw [b _ _ (w.ne n) e] at n
    cases n
theorem joinS {i : Nat} {σ : L2.St} {N : L2.St → Hp → Prop} {G : Prop} {R : V → Hp → Prop} (h : (∀ v H, R v H → gName i v σ H N) → G) (g : ∀ v H, R v H → gName i v σ H N) : G := h g
theorem joinT {N : L2.St → Hp → Prop} {G : Prop} {R : L2.St → Hp → Prop} (h : (∀ σ H, R σ H → N σ H) → G) (g : ∀ σ H, R σ H → N σ H) : G := h g
section
variable {P : Program} {w : World} {K : PySem.W.Frag} {mg : Str → Option Value} {base : Heap} {f fD fP fK fB fU fR fS fF fG fO fA fC : Addr} {fd dD dP dK dB dU dR dS dF dG dO dA dC : FuncData}
theorem ok_folded (F : L2.Fun K "_law_folded" "_law_folded" sFolded f fd) (GD : FnOk P w K mg base CX0 1 fD dD ["well", "many"] spDraw) (bD : L2.Binds K dD ["well", "many"] []) (kD : PySem.W.keepIn K (.ref fD) = true) (mD : mg "_law_draw" = some (.ref fD))
    (GB : FnOk P w K mg base CX0 2 fB dB ["one", "two", "is_joined"] (spBeside K)) (bB : L2.Binds K dB ["one", "two", "is_joined"] []) (kB : PySem.W.keepIn K (.ref fB) = true) (mB : mg "_law_beside" = some (.ref fB))
    (GU : FnOk P w K mg base CX0 1 fU dU ["graph"] (spTurned K)) (bU : L2.Binds K dU ["graph"] []) (kU : PySem.W.keepIn K (.ref fU) = true) (mU : mg "_law_turned" = some (.ref fU)) (mr : mg "range" = none) :
    FnOk P w K mg base CX0 3 f fd ["well", "n"] (spFolded K) := by
  refine F.ok scFolded (fun vs H Q E h => ?_) (fun cdv A outer s H vs Q E hr h => ?_)
  · obtain ⟨p, n, rfl, _⟩ := h
    rfl
  obtain ⟨p, n, rfl, hW, n1, n9, q⟩ := h
  refine ⟨_, pss_cons (ps_set (i := 2) scFolded.nd rfl (.inl rfl) (pe_tup (pa_cons pe_int (pa_cons (pe_tup pa_nil) pa_nil))))
    (pss_cons (ps_for PassesOwn.never rfl (pi_range1 rfl mr (pa_cons (pe_op op_sub (pv 1) pe_int) pa_nil)) (pg_name (i := 3) scFolded.nd rfl (.inl rfl))
      (pss_cons (ps_set (i := 2) scFolded.nd rfl (.inl rfl) (pe_call GB hr (by rfl) mB kB bB .nil pass0 (pa_cons (pv 2) (pa_cons (pe_tup (pa_cons pe_int (pa_cons (pe_tup pa_nil) pa_nil))) (pa_cons (pe_cmpR op_eq (pe_call GD (hr.mono (by decide)) (by rfl) mD kD bD .nil pass0 (pa_cons (pv 0) (pa_cons pe_int pa_nil))) pe_int (nomark _)) pa_nil)))))
      (pss_one (ps_if (PW.pt (pw_and (pt_cmpR op_gt (pe_ix ix_tup (pv 2) pe_int (fun _ _ => rfl)) pe_int (nomark _)) (pw_and1 (pt_cmpR op_eq (pe_call GD (hr.mono (by decide)) (by rfl) mD kD bD .nil pass0 (pa_cons (pv 0) (pa_cons pe_int pa_nil))) pe_int (nomark _)))))
        (pss_one (ps_set (i := 2) scFolded.nd rfl (.inl rfl) (pe_call GU (hr.mono (by decide)) (by rfl) mU kU bU .nil pass0 (pa_cons (pv 2) pa_nil)))) pss_nil))))
    (pss_one (ps_ret (pv 2)))), ?_⟩
  have one : ∀ (H1 : Hp) (e : Addr) (t : Addr), H1 e = none → (upd H1 e (.tup [])) t = none → GraphAt K (upd (upd H1 e (.tup [])) t (.tup [.int 1, .ref e])) (.ref t) 1 [] := fun H1 e t ne nt =>
    ⟨t, e, [], rfl, SqT.of upd_same, SqT.of ((same_new nt _) _ _ upd_same), .nil⟩
  have g1 : Good 1 [] := Good.nil (by decide)
  refine ⟨(by show 0 ≤ sizeLine; decide), fun e ne => ?_⟩
  refine ⟨(by show 2 ≤ sizeLine; decide), fun t nt => ?_⟩
  have s1 := (same_new ne (.tup [])).trans (same_new nt (.tup [.int 1, .ref e]))
  refine ⟨_, rfl, _, _, rfl, rfl, ((n : Int) - 1), rfl, by omega, by omega, for_range (lo := 0) (n := ((n : Int) - 1).toNat) (fun i σ H' => ∃ (x : V) (es : List E2) (s3 : Option V), σ = [some (.ref p), some (.int (n : Int)), some x, s3] ∧ But p H H' ∧ Wl H' p ∧ GraphAt K H' x (i + 1) es ∧ Good (i + 1) es)
    ⟨_, [], none, rfl, But.of s1, hW.same s1, one H e t ne nt, g1⟩ ?_ ?_⟩
  · rintro i σ H1 li ⟨x, es, s3, rfl, b1, w1, hx, gx⟩
    refine ⟨_, rfl, (by show 0 ≤ sizeLine; decide), fun e ne => ?_⟩
    refine ⟨(by show 2 ≤ sizeLine; decide), fun t nt => ?_⟩
    have s2 := (same_new ne (.tup [])).trans (same_new nt (.tup [.int 1, .ref e]))
    have w2 := w1.same s2
    refine ⟨_, rfl, p, _, rfl, w2, by decide, by decide, fun d H2 _ _ b2 w3 => ?_⟩
    have t2 := TS.but b2 w2
    refine ⟨rfl, x, .ref t, i + 1, 1, es, [], _, rfl, (hx.same s2).ts t2, gx, (one H1 e t ne nt).ts t2, g1, by omega, by show 0 + (i + 1) * 1 ≤ 27; omega, fun z gs H3 s3 hz gz => ?_⟩
    have b3 := b1.trans ((But.of s2).trans (b2.trans (But.of s3)))
    have w4 := w3.same s3
    have hz0 := hz
    obtain ⟨tz, ez, xz, rfl, hz1, hz2, hz3⟩ := hz
    refine ⟨_, rfl, tz, _, _, _, rfl, rfl, hz1, rfl, _, _, rfl, rfl, _, rfl, iteB (fun _ => ?_) (fun _ => iteF ?_)⟩
    · refine ⟨_, rfl, p, _, rfl, w4, by decide, by decide, fun d2 H4 _ _ b4 w5 => ?_⟩
      have t4 := TS.but b4 w4
      refine ⟨rfl, _, rfl, iteB (fun _ => ?_) (fun _ => ?_)⟩
      · refine ⟨_, rfl, .ref tz, i + 1 + 1, gs, rfl, hz0.ts t4, gz.n9, fun y H5 s5 hy => ?_⟩
        exact ⟨y, _, _, rfl, b3.trans (b4.trans (But.of s5)), w5.same s5, hy, good_left gz.n9 gs⟩
      · exact ⟨_, _, _, rfl, b3.trans b4, w5, hz0.ts t4, gz⟩
    · exact ⟨_, _, _, rfl, b3, w4, hz0, gz⟩
  · rintro σ H1 ⟨x, es, s3, rfl, b1, w1, hx, gx⟩
    rw [show ((n : Int) - 1).toNat + 1 = n by omega] at hx gx
    exact ⟨_, rfl, q x es H1 b1 w1 hx gx⟩
theorem ok_grown (F : L2.Fun K "_law_grown" "_law_grown" sGrown f fd) (GD : FnOk P w K mg base CX0 1 fD dD ["well", "many"] spDraw) (bD : L2.Binds K dD ["well", "many"] []) (kD : PySem.W.keepIn K (.ref fD) = true) (mD : mg "_law_draw" = some (.ref fD))
    (GP : FnOk P w K mg base CX0 1 fP dP ["n", "pairs"] (spOfPairs K)) (bP : L2.Binds K dP ["n", "pairs"] []) (kP : PySem.W.keepIn K (.ref fP) = true) (mP : mg "_law_of_pairs" = some (.ref fP)) (mr : mg "range" = none) (mli : mg "list" = none) (mn : mg "min" = none) (mx : mg "max" = none) :
    FnOk P w K mg base CX0 2 f fd ["well", "graph", "n"] (spGrown K) := by
  refine F.ok scGrown (fun vs H Q E h => ?_) (fun cdv A outer s H vs Q E hr h => ?_)
  · obtain ⟨p, x, m, n, es, rfl, _⟩ := h
    rfl
  obtain ⟨p, x, m, n, es, rfl, hW, hx, gx, m1, mn', n9, q⟩ := h
  refine ⟨_, pss_cons (ps_for PassesOwn.never rfl (pi_range2 (by rfl) mr (pa_cons (pe_ix ix_tup (pv 1) pe_int (fun _ _ => rfl)) (pa_cons (pv 2) pa_nil))) (pg_name (i := 3) scGrown.nd rfl (.inr rfl))
      (pss_cons (ps_asg (pe_tup (pa_cons (pe_call GD hr (by rfl) mD kD bD .nil pass0 (pa_cons (pv 0) (pa_cons (pv 3) pa_nil))) (pa_cons (pe_cmpR op_eq (pe_call GD hr (by rfl) mD kD bD .nil pass0 (pa_cons (pv 0) (pa_cons pe_int pa_nil))) pe_int (nomark _)) pa_nil)))
          (pg_tup (by rfl) (pgs_cons (pg_name (i := 4) scGrown.nd rfl (.inr rfl)) (pgs_cons (pg_name (i := 5) scGrown.nd rfl (.inl rfl)) pgs_nil))))
      (pss_cons (ps_set (i := 7) scGrown.nd rfl (.inl rfl) (pe_ifExp (pt_val (pv 5)) (pe_lc (own := [("u", 6)]) (g := gName 6) rfl scGrown.nd (pi_range1 rfl mr (pa_cons (pv 3) pa_nil))
          (blkOk_by (N := ["well", "graph", "n", "v", "twin", "is_twin", "u", "pairs"]) (sc := defScope sGrown) (by decide +kernel)) (fun _ _ _ _ _ => pg_name (i := 6) scGrown.nd rfl (Or.inl rfl))
          (fun _ _ _ _ _ => pts_one (pt_cmpR (r := rInP id K) (op_inP hr.units) (pe_tup (pa_cons (pe_callB (id := "min") (r := fun xs H Q => ∃ i j, xs = [.int i, .int j] ∧ Q (.int (if j < i then j else i)) H) (call_min2 rfl) (by rfl) mn (by decide +kernel) (pa_cons (pv 6) (pa_cons (pv 4) pa_nil)))
              (pa_cons (pe_callB (id := "max") (r := fun xs H Q => ∃ i j, xs = [.int i, .int j] ∧ Q (.int (if j > i then j else i)) H) (call_max2 rfl) (by rfl) mx (by decide +kernel) (pa_cons (pv 6) (pa_cons (pv 4) pa_nil))) pa_nil))) (pe_ix (r := rIxT K) ix_tup (pv 1) pe_int (fun _ _ => rfl)) (by rfl)))
          (fun _ _ _ _ _ => pe_tup (pa_cons (pv 6) (pa_cons (pv 3) pa_nil)))) (pe_lst pa_nil)))
      (pss_cons (ps_for PassesOwn.never rfl (pi_range1 rfl mr (pa_cons (pv 3) pa_nil)) (pg_name (i := 6) scGrown.nd rfl (.inl rfl))
        (pss_one (ps_if (PW.pt (pw_and (pt_not (pt_val (pv 5))) (pw_and1 (pt_cmpR op_eq (pe_call GD hr (by rfl) mD kD bD .nil pass0 (pa_cons (pv 0) (pa_cons pe_int pa_nil))) pe_int (nomark _)))))
          (pss_one (ps_expr (pe_bm PySem.F.plainAttrs_list PySem.F.slot_list_append PySem.F.type_list_append mt_append (pv 7) (pa_cons (pe_tup (pa_cons (pv 6) (pa_cons (pv 3) pa_nil))) pa_nil)))) pss_nil)))
      (pss_one (ps_set (i := 1) scGrown.nd rfl (.inr rfl) (pe_call GP hr (by rfl) mP kP bP .nil pass0 (pa_cons (pe_op op_add (pv 3) pe_int) (pa_cons (pe_op op_cat (pe_callTy call_list_of (by rfl) mli (by decide +kernel) (pa_cons (pe_ix ix_tup (pv 1) pe_int (fun _ _ => rfl)) pa_nil)) (pv 7)) pa_nil)))))))))
    (pss_one (ps_ret (pv 1))), ?_⟩
  have hx0 := hx
  obtain ⟨g0, e0, xs0, rfl, hg0, he0, hes0⟩ := hx
  refine ⟨_, rfl, g0, _, _, _, rfl, rfl, hg0, rfl, _, rfl, (m : Int), (n : Int), rfl, ⟨by omega, by omega, by omega, by omega⟩, for_range (lo := (m : Int)) (n := ((n : Int) - (m : Int)).toNat)
    (fun i σ H' => ∃ (x : V) (es : List E2) (s3 s4 s5 s6 s7 : Option V), σ = [some (.ref p), some x, some (.int (n : Int)), s3, s4, s5, s6, s7] ∧ But p H H' ∧ Wl H' p ∧ GraphAt K H' x (m + i) es ∧ Good (m + i) es)
    ⟨_, es, none, none, none, none, none, rfl, But.refl _ _, hW, hx0, gx⟩ ?_ ?_⟩
  · rintro i σ H1 li ⟨x, es, s3, s4, s5, s6, s7, rfl, b1, w1, hx, gx⟩
    rw [show ((m : Int) + (i : Int)) = ((m + i : Nat) : Int) by omega]
    obtain ⟨v, hv⟩ : ∃ v, v = m + i := ⟨_, rfl⟩
    rw [← hv] at hx gx ⊢
    have v0 : 0 < v := by omega
    have vn : v < n := by omega
    refine ⟨_, rfl, _, rfl, p, _, rfl, w1, by omega, by omega, fun tw H2 tw0 tw1 b2 w2 => ?_⟩
    have t2 := TS.but b2 w1
    refine ⟨_, rfl, p, _, rfl, w2, by decide, by decide, fun d H3 _ _ b3 w3 => ?_⟩
    have t3 := TS.but b3 w2
    obtain ⟨tn, rfl⟩ : ∃ tn : Nat, tw = (tn : Int) := ⟨tw.toNat, by omega⟩
    refine ⟨rfl, (by show 2 ≤ sizeLine; decide), fun r nr => ?_⟩
    refine ⟨r, _, rfl, SqT.of upd_same, rfl, _, _, rfl, _, _, rfl, rfl, ?_⟩
    generalize hd : (decide (V.int d = V.int 0)) = istw
    have s4 := same_new nr (.tup [.int (tn : Int), .bl istw])
    generalize he4 : upd H3 r (.tup [.int (tn : Int), .bl istw]) = H4 at s4 ⊢
    have b4 : But p H H4 := (b1.trans b2).trans (b3.trans (But.of s4))
    have w4 : Wl H4 p := w3.same s4
    have hx4 : GraphAt K H4 x v es := ((hx.ts t2).ts t3).same s4
    refine' joinS (i := 7) (R := fun y H5 => ∃ (D : Addr) (zs : List V) (ps : List E2), y = .ref D ∧ H5 D = some (.lst zs) ∧ zs.length ≤ v ∧ PairsAt K H5 zs ps ∧ (∀ q ∈ ps, q.1 ≠ q.2 ∧ q.1 < v + 1 ∧ q.2 < v + 1) ∧ Same H4 H5 ∧ H4 D = none) (fun go => ?_) ?_
    rotate_left 2
    · refine ⟨_, rfl, _, rfl, iteB (fun _ => ?_) (fun _ => ?_)⟩
      · refine ⟨_, rfl, (v : Int), rfl, by omega, by omega, fun D nD => lc_range (lo := 0) (n := ((v : Nat) : Int).toNat)
          (fun k H2 => Same H4 H2 ∧ ∃ zs ps, H2 D = some (.lst zs) ∧ zs.length ≤ k ∧ PairsAt K H2 zs ps ∧ ∀ p ∈ ps, p.1 ≠ p.2 ∧ p.1 < v + 1 ∧ p.2 < v + 1) ⟨same_new nD _, [], [], upd_same, Nat.le_refl _, .nil, fun _ z => nomatch z⟩ ?_ ?_⟩
        · rintro k H5 lk ⟨s5, zs, ps, hD, lz, pz, pp⟩
          rw [Int.zero_add]
          refine ⟨rfl, ?_⟩
          refine ⟨_, rfl, _, rfl, _, _, rfl, _, rfl, _, rfl, _, _, rfl, (by show 2 ≤ sizeLine; decide), fun r2 nr2 => ?_⟩
          have e1 : (if ((tn : Nat) : Int) < ((k : Nat) : Int) then ((tn : Nat) : Int) else ((k : Nat) : Int)) = ((min k tn : Nat) : Int) := by split <;> omega
          have e2 : (if ((tn : Nat) : Int) > ((k : Nat) : Int) then ((tn : Nat) : Int) else ((k : Nat) : Int)) = ((max k tn : Nat) : Int) := by split <;> omega
          rw [e1, e2] at *
          have s6 := same_new nr2 (.tup [.int ((min k tn : Nat) : Int), .int ((max k tn : Nat) : Int)])
          obtain ⟨g, e, xs, rfl, hg, he, hes⟩ := hx4.same (s5.trans s6)
          refine ⟨_, rfl, g, _, _, _, rfl, rfl, hg, rfl, (min k tn, max k tn), e, xs, es, ⟨r2, rfl, SqT.of upd_same⟩, rfl, he, hes, _, rfl, iteB (fun _ => ?_) (fun _ => ?_)⟩
          · refine ⟨_, rfl, _, rfl, (by show 2 ≤ sizeLine; decide), fun r3 nr3 => ?_⟩
            have hD6 := s6 _ _ hD
            obtain ⟨t1, p1⟩ := push_pair (k, v) hD6 nr3 (pz.same s6)
            refine ⟨zs, (same_new nr3 _) _ _ hD6, small1000 (by omega), same_put (s5.trans (s6.trans (same_new nr3 _))) nD, _, _, upd_same, by rw [List.length_append]; show zs.length + 1 ≤ k + 1; omega, p1, fun q hq => ?_⟩
            rcases List.mem_append.mp hq with hq | hq
            · exact pp q hq
            · rw [List.mem_singleton.mp hq]
              show k ≠ v ∧ k < v + 1 ∧ v < v + 1
              omega
          · exact ⟨s5.trans s6, zs, ps, s6 _ _ hD, by omega, pz.same s6, pp⟩
        · rintro H5 ⟨s5, zs, ps, hD, lz, pz, pp⟩
          exact go _ _ ⟨D, zs, ps, rfl, hD, by omega, pz, pp, s5, nD⟩
      · refine ⟨(by show 0 ≤ sizeLine; decide), fun D nD => ?_⟩
        exact go _ _ ⟨D, [], [], rfl, upd_same, by show 0 ≤ v; omega, .nil, (fun _ z => nomatch z), same_new nD _, nD⟩
    rintro _ H5 ⟨D, zs, ps, rfl, hD, lz, pz, pp, s5, nD⟩
    have nD0 : H D = none := b4.none w4 nD
    have Dp : D ≠ p := w4.ne nD
    refine ⟨_, rfl, (v : Int), rfl, by omega, by omega, for_range (lo := 0) (n := ((v : Nat) : Int).toNat)
      (fun k σ H' => ∃ (zs : List V) (ps : List E2) (s6 : Option V), σ = [some (.ref p), some x, some (.int (n : Int)), some (.int (v : Int)), some (.int (tn : Int)), some (.bl istw), s6, some (.ref D)] ∧ But p H H' ∧ Wl H' p ∧ H' D = some (.lst zs) ∧ zs.length ≤ v + k ∧ GraphAt K H' x v es ∧
        PairsAt K H' zs ps ∧ (∀ q ∈ ps, q.1 ≠ q.2 ∧ q.1 < v + 1 ∧ q.2 < v + 1)) ⟨zs, ps, s6, rfl, b4.trans (But.of s5), w4.same s5, hD, by omega, hx4.same s5, pz, pp⟩ ?_ ?_⟩
    · rintro k σ H6 lk ⟨zs, ps, s6, rfl, b6, w6, hD, lz, hx6, pz, pp⟩
      rw [Int.zero_add]
      refine ⟨_, rfl, _, rfl, iteB (fun _ => ?_) (fun _ => iteF ?_)⟩
      · refine ⟨_, rfl, p, _, rfl, w6, by decide, by decide, fun d2 H7 _ _ b7 w7 => ?_⟩
        have t7 := TS.but b7 w6
        have hD7 := b7 _ _ Dp hD
        refine ⟨rfl, _, rfl, iteB (fun _ => ?_) (fun _ => ?_)⟩
        · refine ⟨_, rfl, .inl ⟨rfl, _, SqL.of hD7⟩, _, rfl, _, rfl, (by show 2 ≤ sizeLine; decide), fun r nr => ?_⟩
          obtain ⟨t1, p1⟩ := push_pair (k, v) hD7 nr (pz.ts t7)
          refine ⟨D, zs, _, rfl, rfl, (same_new nr _) _ _ hD7, small1000 (by omega), zs ++ [.ref r], ps ++ [(k, v)], _, rfl, but_put ((b6.trans b7).trans (But.new nr)) nD0, (w7.same (same_new nr _)).put Dp, upd_same, by rw [List.length_append]; show zs.length + 1 ≤ v + (k + 1); omega, (hx6.ts t7).ts t1, p1, fun q hq => ?_⟩
          rcases List.mem_append.mp hq with hq | hq
          · exact pp q hq
          · rw [List.mem_singleton.mp hq]
            show k ≠ v ∧ k < v + 1 ∧ v < v + 1
            omega
        · exact ⟨zs, ps, _, rfl, b6.trans b7, w7, hD7, by omega, hx6.ts t7, pz.ts t7, pp⟩
      · exact ⟨zs, ps, _, rfl, b6, w6, hD, by omega, hx6, pz, pp⟩
    · rintro σ H6 ⟨zs, ps, s6, rfl, b6, w6, hD, lz, hx6, pz, pp⟩
      rw [show ((v : Nat) : Int).toNat = v by omega] at lz
      obtain ⟨g, e, xs, rfl, hg, he, hes⟩ := hx6
      have l1 := PairsAt.len hes
      have l2 := gx.few
      have l3 := PairsAt.len pz
      refine ⟨_, rfl, _, _, rfl, rfl, _, rfl, g, _, _, _, rfl, rfl, hg, rfl, e, _, rfl, .inr he, fun l nl => ?_⟩
      have s7 := same_new nl (.lst xs)
      refine ⟨_, rfl, l, D, _, _, rfl, rfl, upd_same, s7 _ _ hD, small (by omega), fun c nc => ?_⟩
      have s8 := same_new nc (.lst (xs ++ zs))
      refine ⟨v + 1, c, xs ++ zs, es ++ ps, rfl, by omega, SqL.of upd_same, (hes.same (s7.trans s8)).append (pz.same (s7.trans s8)), by rw [List.length_append]; omega, fun q hq => ?_, fun y gs H' s9 hy gy _ => ?_⟩
      · rcases List.mem_append.mp hq with hq | hq
        · have z := gx.lt q hq
          omega
        · exact pp q hq
      · have s10 := (s7.trans s8).trans s9
        exact ⟨y, gs, _, _, _, _, _, rfl, b6.trans (But.of s10), w6.same s10, by rw [show m + (i + 1) = v + 1 by omega]; exact hy, by rw [show m + (i + 1) = v + 1 by omega]; exact gy⟩
  · rintro σ H1 ⟨x, es, s3, s4, s5, s6, s7, rfl, b1, w1, hx, gx⟩
    rw [show m + ((n : Int) - (m : Int)).toNat = n by omega] at hx gx
    exact ⟨_, rfl, q x es H1 b1 w1 hx gx⟩
theorem ok_graph (F : L2.Fun K "_law_graph" "_law_graph" sGraph f fd) (GD : FnOk P w K mg base CX0 1 fD dD ["well", "many"] spDraw) (bD : L2.Binds K dD ["well", "many"] []) (kD : PySem.W.keepIn K (.ref fD) = true) (mD : mg "_law_draw" = some (.ref fD))
    (GA : FnOk P w K mg base CX0 3 fA dA ["well", "n"] (spRandom K)) (bA : L2.Binds K dA ["well", "n"] []) (kA : PySem.W.keepIn K (.ref fA) = true) (mA : mg "_law_random" = some (.ref fA))
    (GS : FnOk P w K mg base CX0 2 fS dS ["well", "n"] (spRandom K)) (bS : L2.Binds K dS ["well", "n"] []) (kS : PySem.W.keepIn K (.ref fS) = true) (mS : mg "_law_sides" = some (.ref fS))
    (GF : FnOk P w K mg base CX0 3 fF dF ["well", "n"] (spFolded K)) (bF : L2.Binds K dF ["well", "n"] []) (kF : PySem.W.keepIn K (.ref fF) = true) (mF : mg "_law_folded" = some (.ref fF))
    (GG : FnOk P w K mg base CX0 2 fG dG ["well", "graph", "n"] (spGrown K)) (bG : L2.Binds K dG ["well", "graph", "n"] []) (kG : PySem.W.keepIn K (.ref fG) = true) (mG : mg "_law_grown" = some (.ref fG))
    (GR : FnOk P w K mg base CX0 2 fR dR ["many"] (spRound K)) (bR : L2.Binds K dR ["many"] []) (kR : PySem.W.keepIn K (.ref fR) = true) (mR : mg "_law_round" = some (.ref fR))
    (GK : FnOk P w K mg base CX0 2 fK dK ["well", "some"] (spPick K)) (bK : L2.Binds K dK ["well", "some"] []) (kK : PySem.W.keepIn K (.ref fK) = true) (mK : mg "_law_pick" = some (.ref fK))
    (GU : FnOk P w K mg base CX0 1 fU dU ["graph"] (spTurned K)) (bU : L2.Binds K dU ["graph"] []) (kU : PySem.W.keepIn K (.ref fU) = true) (mU : mg "_law_turned" = some (.ref fU))
    (GC : FnOk P w K mg base CX0 2 fC dC ["graph", "names"] (spCalled K)) (bC : L2.Binds K dC ["graph", "names"] []) (kC : PySem.W.keepIn K (.ref fC) = true) (mC : mg "_law_called" = some (.ref fC))
    (GO : FnOk P w K mg base CX0 2 fO dO ["well", "many"] (spOrder K)) (bO : L2.Binds K dO ["well", "many"] []) (kO : PySem.W.keepIn K (.ref fO) = true) (mO : mg "_law_order" = some (.ref fO))
    (mx : mg "max" = none) : FnOk P w K mg base CX0 4 f fd ["well", "most"] (spGraph K) := by
  refine F.ok scGraph (fun vs H Q E h => ?_) (fun cdv A outer s H vs Q E hr h => ?_)
  · obtain ⟨p, n, rfl, _⟩ := h
    rfl
  obtain ⟨p, most, rfl, hW, m9, q⟩ := h
  refine ⟨_, (pss_cons (ps_par (by rfl) scGraph.nd (i := 2) (j := 3) rfl rfl (by decide) rfl rfl (pa_cons (pe_call GD (hr.mono (by decide)) (by rfl) mD kD bD .nil pass0 (pa_cons (pv 0) (pa_cons (pe_op op_add (pv 1) pe_int) pa_nil))) (pa_cons (pe_call GD (hr.mono (by decide)) (by rfl) mD kD bD .nil pass0 (pa_cons (pv 0) (pa_cons pe_int pa_nil))) pa_nil)) (by rfl))
    (pss_cons (ps_set (i := 2) scGraph.nd rfl (.inl rfl) (pe_ifExp (pt_cmpR op_eq (pe_call GD (hr.mono (by decide)) (by rfl) mD kD bD .nil pass0 (pa_cons (pv 0) (pa_cons pe_int pa_nil))) pe_int (nomark _)) (pv 2) (pe_callB (call_max2 rfl) (by rfl) mx (by decide +kernel) (pa_cons (pv 2) (pa_cons (pe_op op_sub (pv 1) (pe_call GD (hr.mono (by decide)) (by rfl) mD kD bD .nil pass0 (pa_cons (pv 0) (pa_cons pe_int pa_nil)))) pa_nil)))))
    (pss_cons (ps_set (i := 4) scGraph.nd rfl (.inl rfl) (pe_call GA (hr.mono (by decide)) (by rfl) mA kA bA .nil pass0 (pa_cons (pv 0) (pa_cons (pv 2) pa_nil))))
    (pss_cons (ps_if (pt_cmpR op_eq (pv 3) pe_int (nomark _)) (pss_one (ps_set (i := 4) scGraph.nd rfl (.inl rfl) (pe_call GS (hr.mono (by decide)) (by rfl) mS kS bS .nil pass0 (pa_cons (pv 0) (pa_cons (pv 2) pa_nil))))) pss_nil)
    (pss_cons (ps_if (PW.pt (pw_and (pt_cmpR op_eq (pv 3) pe_int (nomark _)) (pw_and1 (pt_cmpR op_gt (pv 2) pe_int (nomark _))))) (pss_one (ps_set (i := 4) scGraph.nd rfl (.inl rfl) (pe_call GF (hr.mono (by decide)) (by rfl) mF kF bF .nil pass0 (pa_cons (pv 0) (pa_cons (pv 2) pa_nil))))) pss_nil)
    (pss_cons (ps_if (PW.pt (pw_and (pt_cmpR op_in_seq (pv 3) (pe_tup (pa_cons pe_int (pa_cons pe_int (pa_cons pe_int pa_nil)))) (by rfl)) (pw_and1 (pt_cmpR op_gt (pv 1) pe_int (nomark _))))) (pss_one (ps_set (i := 4) scGraph.nd rfl (.inl rfl) (pe_call GG (hr.mono (by decide)) (by rfl) mG kG bG .nil pass0 (pa_cons (pv 0) (pa_cons (pe_call GR (hr.mono (by decide)) (by rfl) mR kR bR .nil pass0 (pa_cons pe_int pa_nil)) (pa_cons (pe_op op_add pe_int (pe_call GD (hr.mono (by decide)) (by rfl) mD kD bD .nil pass0 (pa_cons (pv 0) (pa_cons (pe_op op_sub (pv 1) pe_int) pa_nil)))) pa_nil)))))) pss_nil)
    (pss_cons (ps_if (PW.pt (pw_and (pt_cmpR op_eq (pv 3) pe_int (nomark _)) (pw_and1 (pt_cmpR op_gt (pv 1) pe_int (nomark _))))) (pss_one (ps_set (i := 4) scGraph.nd rfl (.inl rfl) (pe_call GG (hr.mono (by decide)) (by rfl) mG kG bG .nil pass0 (pa_cons (pv 0) (pa_cons (pe_call GR (hr.mono (by decide)) (by rfl) mR kR bR .nil pass0 (pa_cons (pe_call GK (hr.mono (by decide)) (by rfl) mK kK bK .nil pass0 (pa_cons (pv 0) (pa_cons (pe_tup (pa_cons pe_int (pa_cons pe_int (pa_cons pe_int pa_nil)))) pa_nil))) pa_nil)) (pa_cons (pv 1) pa_nil)))))) pss_nil)
    (pss_cons (ps_if (PW.pt (pw_and (pt_cmpR op_eq (pv 3) pe_int (nomark _)) (pw_and1 (pt_cmpR op_gt (pv 1) pe_int (nomark _))))) (pss_one (ps_set (i := 4) scGraph.nd rfl (.inl rfl) (pe_call GG (hr.mono (by decide)) (by rfl) mG kG bG .nil pass0 (pa_cons (pv 0) (pa_cons (pe_call GR (hr.mono (by decide)) (by rfl) mR kR bR .nil pass0 (pa_cons pe_int pa_nil)) (pa_cons (pe_op op_add pe_int (pe_call GD (hr.mono (by decide)) (by rfl) mD kD bD .nil pass0 (pa_cons (pv 0) (pa_cons (pe_op op_sub (pv 1) pe_int) pa_nil)))) pa_nil)))))) pss_nil)
    (pss_cons (ps_if (pt_cmpR op_eq (pe_call GD (hr.mono (by decide)) (by rfl) mD kD bD .nil pass0 (pa_cons (pv 0) (pa_cons pe_int pa_nil))) pe_int (nomark _)) (pss_one (ps_set (i := 4) scGraph.nd rfl (.inl rfl) (pe_call GU (hr.mono (by decide)) (by rfl) mU kU bU .nil pass0 (pa_cons (pv 4) pa_nil)))) pss_nil)
    (pss_one (ps_ret (pe_call GC (hr.mono (by decide)) (by rfl) mC kC bC .nil pass0 (pa_cons (pv 4) (pa_cons (pe_call GO (hr.mono (by decide)) (by rfl) mO kO bO .nil pass0 (pa_cons (pv 0) (pa_cons (pe_ix ix_tup (pv 4) pe_int (fun _ _ => rfl)) pa_nil))) pa_nil)))))))))))))), ?_⟩
  refine ⟨_, rfl, _, rfl, _, _, rfl, rfl, p, _, rfl, hW, by omega, by omega, fun n0 H1 l0 u0 b1 w1 => ?_⟩
  refine ⟨_, rfl, p, _, rfl, w1, by decide, by decide, fun way H2 l1 u1 b2 w2 => ?_⟩
  refine ⟨_, _, rfl, ?_⟩
  refine ⟨_, rfl, p, _, rfl, w2, by decide, by decide, fun d H3 _ _ b3 w3 => ?_⟩
  have b03 : But p H H3 := b1.trans (b2.trans b3)
  refine ⟨rfl, _, rfl, ?_⟩
  obtain ⟨n1, rfl⟩ : ∃ n1 : Nat, n0 = (n1 : Int) := ⟨n0.toNat, by omega⟩
  refine' joinS (i := 2) (R := fun y H' => ∃ n : Nat, y = .int (n : Int) ∧ n ≤ most ∧ But p H H' ∧ Wl H' p) (fun go => ?_) ?_
  rotate_left 2
  · refine iteB (fun _ => ?_) (fun _ => ?_)
    · exact ⟨_, rfl, go _ _ ⟨n1, rfl, by omega, b03, w3⟩⟩
    · refine ⟨_, rfl, _, rfl, _, rfl, p, _, rfl, w3, by decide, by decide, fun d2 H4 l4 u4 b4 w4 => ?_⟩
      refine ⟨_, _, rfl, rfl, _, _, rfl, go _ _ ⟨(max n1 (((most : Int) - d2).toNat)), ?_, by omega, b03.trans b4, w4⟩⟩
      congr 1
      split <;> omega
  rintro _ H4 ⟨n, rfl, nm, b4, w4⟩
  have n9 : n ≤ 9 := by omega
  refine ⟨_, rfl, _, rfl, p, n, rfl, w4, n9, fun x5 es5 H5 b45 w5 h5 g5 => ?_⟩
  have b5 := b4.trans b45
  have m5 := nm
  refine' joinT (R := fun σ H' => ∃ (y : V) (m : Nat) (es : List E2), σ = [some (.ref p), some (.int (most : Int)), some (.int (n : Int)), some (.int way), some y] ∧ m ≤ most ∧ But p H H' ∧ Wl H' p ∧ GraphAt K H' y m es ∧ Good m es) (fun go => ?_) ?_
  rotate_left 1
  · refine ⟨_, rfl, rfl, _, rfl, iteB (fun _ => ?tt1) (fun _ => ?ff1)⟩
    case ff1 => exact go _ _ ⟨x5, n, es5, rfl, m5, b5, w5, h5, g5⟩
    case tt1 => exact ⟨_, rfl, _, rfl, p, n, rfl, w5, n9, fun x es H' b w' hx gx => go _ _ ⟨x, n, es, rfl, nm, b5.trans b, w', hx, gx⟩⟩
  rintro _ H6 ⟨x6, m6, es6, rfl, n6, b6, w6, h6, g6⟩
  refine' joinT (R := fun σ H' => ∃ (y : V) (m : Nat) (es : List E2), σ = [some (.ref p), some (.int (most : Int)), some (.int (n : Int)), some (.int way), some y] ∧ m ≤ most ∧ But p H H' ∧ Wl H' p ∧ GraphAt K H' y m es ∧ Good m es) (fun go => ?_) ?_
  rotate_left 1
  · refine ⟨_, rfl, rfl, _, rfl, iteB (fun _ => ?tt2) (fun _ => iteF ?ff2)⟩
    case ff2 => exact go _ _ ⟨x6, m6, es6, rfl, n6, b6, w6, h6, g6⟩
    refine ⟨_, rfl, _, _, rfl, rfl, _, rfl, iteB (fun c => ?_) (fun _ => go _ _ ⟨x6, m6, es6, rfl, n6, b6, w6, h6, g6⟩)⟩
    have c1 : (0 : Int) < (n : Int) := of_decide_eq_true c
    exact ⟨_, rfl, _, rfl, p, n, rfl, w6, by omega, n9, fun x es H' b w' hx gx => go _ _ ⟨x, n, es, rfl, nm, b6.trans b, w', hx, gx⟩⟩
  rintro _ H7 ⟨x7, m7, es7, rfl, n7, b7, w7, h7, g7⟩
  refine' joinT (R := fun σ H' => ∃ (y : V) (m : Nat) (es : List E2), σ = [some (.ref p), some (.int (most : Int)), some (.int (n : Int)), some (.int way), some y] ∧ m ≤ most ∧ But p H H' ∧ Wl H' p ∧ GraphAt K H' y m es ∧ Good m es) (fun go => ?_) ?_
  rotate_left 1
  · refine ⟨_, rfl, (by show 3 ≤ sizeLine; decide), fun t nt => ?_⟩
    have s1 := same_new nt (.tup [.int 2, .int 3, .int 4])
    have w8 := w7.same s1
    have b8 := b7.trans (But.of s1)
    have h8 := h7.same s1
    refine ⟨t, _, rfl, .inr (SqT.of upd_same), rfl, rfl, _, rfl, iteB (fun _ => ?tt3) (fun _ => iteF ?ff3)⟩
    case ff3 => exact go _ _ ⟨x7, m7, es7, rfl, n7, b8, w8, h8, g7⟩
    refine ⟨_, rfl, _, _, rfl, rfl, _, rfl, iteB (fun c => ?_) (fun _ => go _ _ ⟨x7, m7, es7, rfl, n7, b8, w8, h8, g7⟩)⟩
    have c1 : (4 : Int) < (most : Int) := of_decide_eq_true c
    refine ⟨_, rfl, 5, rfl, by decide, by decide, fun x es H' s' hx gx => ?_⟩
    refine ⟨_, rfl, _, rfl, _, _, rfl, rfl, p, _, rfl, w8.same s', by omega, by omega, fun d H2 d0 d1 b2 w2 => ?_⟩
    obtain ⟨dn, rfl⟩ : ∃ dn : Nat, d = (dn : Int) := ⟨d.toNat, by omega⟩
    exact ⟨_, _, rfl, rfl, p, x, 5, 5 + dn, es, rfl, w2, hx.ts (TS.but b2 (w8.same s')), gx, by decide, by omega, by omega, fun y fs H3 b3 w3 hy gy => go _ _ ⟨y, 5 + dn, fs, rfl, by omega, b8.trans ((But.of s').trans (b2.trans b3)), w3, hy, gy⟩⟩
  rintro _ H9 ⟨x9, m9, es9, rfl, n9, b9, w9, h9, g9⟩
  refine' joinT (R := fun σ H' => ∃ (y : V) (m : Nat) (es : List E2), σ = [some (.ref p), some (.int (most : Int)), some (.int (n : Int)), some (.int way), some y] ∧ m ≤ most ∧ But p H H' ∧ Wl H' p ∧ GraphAt K H' y m es ∧ Good m es) (fun go => ?_) ?_
  rotate_left 1
  · refine ⟨_, rfl, rfl, _, rfl, iteB (fun _ => ?tt4) (fun _ => iteF ?ff4)⟩
    case ff4 => exact go _ _ ⟨x9, m9, es9, rfl, n9, b9, w9, h9, g9⟩
    refine ⟨_, rfl, _, _, rfl, rfl, _, rfl, iteB (fun c => ?_) (fun _ => go _ _ ⟨x9, m9, es9, rfl, n9, b9, w9, h9, g9⟩)⟩
    have c1 : (6 : Int) < (most : Int) := of_decide_eq_true c
    refine ⟨_, rfl, _, rfl, (by show 3 ≤ sizeLine; decide), fun t nt => ?_⟩
    have s1 := same_new nt (.tup [.int 6, .int 7, .int 7])
    have w8 := w9.same s1
    refine ⟨p, t, _, rfl, w8, w8.off (SqT.of upd_same), by decide, by decide, fun i v H2 hi b2 w2 => ?_⟩
    obtain ⟨c, rfl, c2, c3⟩ : ∃ c : Nat, v = .int (c : Int) ∧ 6 ≤ c ∧ c ≤ 7 := by
      have m := List.mem_of_getElem? hi
      simp only [List.mem_cons, List.mem_nil_iff, or_false] at m
      rcases m with rfl | rfl | rfl
      · exact ⟨6, rfl, by decide, by decide⟩
      · exact ⟨7, rfl, by decide, by decide⟩
      · exact ⟨7, rfl, by decide, by decide⟩
    refine ⟨c, rfl, by omega, by omega, fun x es H' s' hx gx => ?_⟩
    exact ⟨_, rfl, p, x, c, most, es, rfl, w2.same s', hx, gx, by omega, by omega, by omega, fun y fs H3 b3 w3 hy gy => go _ _ ⟨y, most, fs, rfl, Nat.le_refl _, b9.trans ((But.of s1).trans (b2.trans ((But.of s').trans b3))), w3, hy, gy⟩⟩
  rintro _ H10 ⟨x10, m10, es10, rfl, n10, b10, w10, h10, g10⟩
  refine' joinT (R := fun σ H' => ∃ (y : V) (m : Nat) (es : List E2), σ = [some (.ref p), some (.int (most : Int)), some (.int (n : Int)), some (.int way), some y] ∧ m ≤ most ∧ But p H H' ∧ Wl H' p ∧ GraphAt K H' y m es ∧ Good m es) (fun go => ?_) ?_
  rotate_left 1
  · refine ⟨_, rfl, rfl, _, rfl, iteB (fun _ => ?tt5) (fun _ => iteF ?ff5)⟩
    case ff5 => exact go _ _ ⟨x10, m10, es10, rfl, n10, b10, w10, h10, g10⟩
    refine ⟨_, rfl, _, _, rfl, rfl, _, rfl, iteB (fun c => ?_) (fun _ => go _ _ ⟨x10, m10, es10, rfl, n10, b10, w10, h10, g10⟩)⟩
    have c1 : (3 : Int) < (most : Int) := of_decide_eq_true c
    refine ⟨_, rfl, 4, rfl, by decide, by decide, fun x es H' s' hx gx => ?_⟩
    refine ⟨_, rfl, _, rfl, _, _, rfl, rfl, p, _, rfl, w10.same s', by omega, by omega, fun d H2 d0 d1 b2 w2 => ?_⟩
    obtain ⟨dn, rfl⟩ : ∃ dn : Nat, d = (dn : Int) := ⟨d.toNat, by omega⟩
    exact ⟨_, _, rfl, rfl, p, x, 4, 4 + dn, es, rfl, w2, hx.ts (TS.but b2 (w10.same s')), gx, by decide, by omega, by omega, fun y fs H3 b3 w3 hy gy => go _ _ ⟨y, 4 + dn, fs, rfl, by omega, b10.trans ((But.of s').trans (b2.trans b3)), w3, hy, gy⟩⟩
  rintro _ H11 ⟨x11, m11, es11, rfl, n11, b11, w11, h11, g11⟩
  refine' joinT (R := fun σ H' => ∃ (y : V) (m : Nat) (es : List E2), σ = [some (.ref p), some (.int (most : Int)), some (.int (n : Int)), some (.int way), some y] ∧ m ≤ most ∧ But p H H' ∧ Wl H' p ∧ GraphAt K H' y m es ∧ Good m es) (fun go => ?_) ?_
  rotate_left 1
  · refine ⟨_, rfl, p, _, rfl, w11, by decide, by decide, fun d H' _ _ b12 w12 => ?_⟩
    have h12 := h11.ts (TS.but b12 w11)
    refine ⟨rfl, _, rfl, iteB (fun _ => ?tt6) (fun _ => ?ff6)⟩
    case ff6 => exact go _ _ ⟨x11, m11, es11, rfl, n11, b11.trans b12, w12, h12, g11⟩
    exact ⟨_, rfl, x11, m11, es11, rfl, h12, g11.n9, fun y H2 s2 hy => go _ _ ⟨y, m11, _, rfl, n11, b11.trans (b12.trans (But.of s2)), w12.same s2, hy, good_left g11.n9 es11⟩⟩
  rintro _ H13 ⟨x13, m13, es13, rfl, n13, b13, w13, h13, g13⟩
  have h14 := h13
  obtain ⟨t, e, xs, rfl, ht, he, hes⟩ := h13
  refine ⟨_, rfl, _, rfl, _, rfl, t, _, _, _, rfl, rfl, ht, rfl, p, m13, rfl, w13, g13.n9, fun a ns H' b w' ha pm => ?_⟩
  exact ⟨.ref t, a, m13, es13, ns, rfl, h14.ts (TS.but b w13), g13, ha, pm, fun z fs H2 s2 hz gz => q z m13 fs H2 n13 (b13.trans (b.trans (But.of s2))) (w'.same s2) hz gz⟩
end
end My

set_option maxHeartbeats 2000000
/-! graph6 in plain Lean. -/
namespace My
open PySem PySem.Spec PyProof.Rows L2
/-- a walk from any heap on: S says a turn, by what follows it -/
theorem lo_it {J : It} {n : Nat} {G : Hp → Prop} {Y : Nat → Hp → V → Hp → Prop} (w : Walk J n G Y) {S : V → Hp → (Hp → Prop) → Prop} {Qd : Hp → Prop} {H0 : Hp} (Pv : Nat → Hp → Prop) (h0 : Pv 0 H0) (hG : ∀ i H, i ≤ n → Pv i H → G H)
    (hs : ∀ i x H H', i < n → Pv i H → Y i H x H' → S x H' (Pv (i + 1))) (hd : ∀ H, Pv n H → Qd H) :
    ∃ W : Nat → Nat → Hp → Prop, (∃ m, W 0 m H0) ∧ ∀ i m H, W i m H → (J.stop i H ∧ Qd H) ∨ (J.go i H ∧ ∃ Nx : Hp → Prop, (∀ H', Nx H' → ∃ m', m' < m ∧ W (i + 1) m' H') ∧ ∀ x H', J.yld i H x H' → S x H' Nx) := by
  refine ⟨fun i m H => i + m = n ∧ Pv i H, ⟨n, Nat.zero_add n, h0⟩, fun i m H hw => ?_⟩
  obtain ⟨e, pv⟩ := hw
  have g := hG i H (by omega) pv
  rcases Nat.eq_zero_or_pos m with z | z
  · have en : i = n := by omega
    subst en
    exact .inl ⟨w.stops H g, hd H pv⟩
  · refine .inr ⟨w.goes i H (by omega) g, Pv (i + 1), fun H' pv' => ⟨m - 1, by omega, by omega, pv'⟩, fun x H' y => ?_⟩
    exact hs i x H H' (by omega) pv (w.yields i H x H' (by omega) g y)
/-- the pairs by their greater number, then by the lesser -/
def pairsG (n : Nat) : List E2 := (List.range n).flatMap fun v => (List.range v).map fun u => (u, v)
def bit1 (es : List E2) (p : E2) : Nat := if p ∈ es then 1 else 0
def bitsOf (n : Nat) (es : List E2) : List Nat := (pairsG n).map (bit1 es)
def pad (b : List Nat) : List Nat := b ++ List.replicate ((b.length + 5) / 6 * 6 - b.length) 0
def numOf (b : List Nat) : Nat := b.foldl (fun a x => 2 * a + x) 0
def chunk (b : List Nat) (i : Nat) : List Nat := (b.drop (6 * i)).take 6
def groups (b : List Nat) : Nat := (b.length + 5) / 6
/-- the text of signs told by numbers -/
def tx (ks : List Nat) : Str := ⟨(ks.map (63 + ·)).toArray⟩
/-- the 64 signs -/
def SG : Str := tx (List.range 64)
def codeL (n : Nat) (es : List E2) : List Nat := n :: (List.range (groups (bitsOf n es))).map fun i => numOf (chunk (pad (bitsOf n es)) i)
theorem tx_len (ks : List Nat) : (tx ks).length = ks.length := by
  show ((ks.map (63 + ·)).toArray).size = _
  rw [List.size_toArray, List.length_map]
theorem tx_append (ks ls : List Nat) : tx ks ++ tx ls = tx (ks ++ ls) := by
  show Str.append _ _ = _
  unfold Str.append tx
  rw [List.map_append]
  simp
theorem join_tx : ∀ ks : List Nat, Str.join "" (ks.map fun k => tx [k]) = tx ks
  | [] => rfl
  | [k] => rfl
  | k :: l :: ks => by
    show tx [k] ++ (("" : String) : Str) ++ Str.join "" ((l :: ks).map fun k => tx [k]) = _
    rw [join_tx (l :: ks)]
    have e : tx [k] ++ (("" : String) : Str) = tx [k] := by
      show Str.append _ _ = _
      unfold Str.append
      have z : ((("" : String) : Str)).cps = #[] := by decide +kernel
      rw [z, Array.append_empty]
    rw [e, tx_append]
    rfl
theorem pairsG_succ (n : Nat) : pairsG (n + 1) = pairsG n ++ (List.range n).map fun u => (u, n) := by
  unfold pairsG
  rw [List.range_succ, List.flatMap_append, List.flatMap_cons, List.flatMap_nil, List.append_nil]
theorem pairsG_few : ∀ n, n ≤ 9 → (pairsG n).length ≤ 36 := by decide +kernel
theorem mem_pairsG {n : Nat} {p : E2} : p ∈ pairsG n ↔ p.1 < p.2 ∧ p.2 < n := by
  unfold pairsG
  rw [List.mem_flatMap]
  constructor
  · rintro ⟨v, hv, h⟩
    obtain ⟨u, hu, rfl⟩ := List.mem_map.mp h
    exact ⟨List.mem_range.mp hu, List.mem_range.mp hv⟩
  · rintro ⟨h1, h2⟩
    exact ⟨p.2, List.mem_range.mpr h2, List.mem_map.mpr ⟨p.1, List.mem_range.mpr h1, rfl⟩⟩
theorem bits_len (n : Nat) (es : List E2) : (bitsOf n es).length = (pairsG n).length := List.length_map _
theorem bits_few {n : Nat} (h : n ≤ 9) (es : List E2) : (bitsOf n es).length ≤ 36 := by rw [bits_len]; exact pairsG_few n h
theorem bits_le (n : Nat) (es : List E2) : ∀ b ∈ bitsOf n es, b ≤ 1 := by
  intro b hb
  obtain ⟨p, _, rfl⟩ := List.mem_map.mp hb
  unfold bit1
  split <;> omega
theorem pad_len (b : List Nat) : (pad b).length = 6 * groups b := by
  unfold pad groups
  rw [List.length_append, List.length_replicate]
  omega
theorem pad_le {b : List Nat} (h : ∀ x ∈ b, x ≤ 1) : ∀ x ∈ pad b, x ≤ 1 := by
  intro x hx
  rcases List.mem_append.mp hx with hx | hx
  · exact h x hx
  · rw [(List.mem_replicate.mp hx).2]
    exact Nat.zero_le _
theorem foldl_lt : ∀ (b : List Nat) (a k : Nat), (∀ x ∈ b, x ≤ 1) → a < 2 ^ k → b.foldl (fun a x => 2 * a + x) a < 2 ^ (k + b.length)
  | [], a, k, _, h => h
  | x :: b, a, k, hb, h => by
    have hx := hb x (List.mem_cons_self ..)
    have z := foldl_lt b (2 * a + x) (k + 1) (fun y hy => hb y (List.mem_cons_of_mem _ hy)) (by rw [Nat.pow_succ]; omega)
    rw [List.foldl_cons, List.length_cons, show k + (b.length + 1) = k + 1 + b.length by omega]
    exact z
theorem numOf_lt {b : List Nat} (h : ∀ x ∈ b, x ≤ 1) : numOf b < 2 ^ b.length := by
  have z := foldl_lt b 0 0 h (by decide)
  rw [Nat.zero_add] at z
  exact z
theorem numOf_snoc (b : List Nat) (x : Nat) : numOf (b ++ [x]) = 2 * numOf b + x := by
  unfold numOf
  rw [List.foldl_append]
  rfl
theorem chunk_sub (b : List Nat) (i : Nat) : ∀ x ∈ chunk b i, x ∈ b := fun x hx => List.mem_of_mem_drop (List.mem_of_mem_take hx)
theorem chunk_len {b : List Nat} {i : Nat} (h : 6 * i + 6 ≤ b.length) : (chunk b i).length = 6 := by
  unfold chunk
  rw [List.length_take, List.length_drop]
  omega
theorem chunk_lt {b : List Nat} {i : Nat} (hb : ∀ x ∈ b, x ≤ 1) : numOf (chunk b i) < 64 := by
  have z := numOf_lt (b := chunk b i) fun x hx => hb x (chunk_sub b i x hx)
  have l : (chunk b i).length ≤ 6 := by
    unfold chunk
    rw [List.length_take]
    omega
  exact Nat.lt_of_lt_of_le z (Nat.pow_le_pow_right (by decide) l)
theorem SG_at : ∀ k : Nat, k < 64 → atI SG.cps.toList (k : Int) = some (63 + k) := by
  intro k hk
  refine atI_nat ?_
  show ((List.range 64).map (63 + ·))[k]? = _
  rw [List.getElem?_map, List.getElem?_range hk]
  rfl
theorem six : ∀ k : Nat, k ≤ 42 → RgC 0 (k : Int) 6 ((k + 5) / 6) := by
  have h : ∀ k : Nat, k ≤ 42 → Builtin.Range.small 0 (k : Int) 6 = true ∧ Builtin.Range.rangeSize 0 (k : Int) 6 = (((k + 5) / 6 : Nat) : Int) := by decide +kernel
  exact fun k hk => ⟨by decide, by decide, (h k hk).1, (h k hk).2⟩
end My

set_option maxHeartbeats 2000000
/-! Values of any kind, by their shape; what is a graph, a lot. -/
namespace My
open PySem PySem.Spec PyProof.Rows L2
inductive Sh where
  | int (i : Int)
  | bool (b : Bool)
  | str (x : Str)
  | tup (ss : List Sh)
  | oth
mutual
inductive ShAt (K : PySem.W.Frag) (H : Hp) : V → Sh → Prop
  | int (i : Int) : ShAt K H (.int i) (.int i)
  | bool (b : Bool) : ShAt K H (.bl b) (.bool b)
  | tup {t : Addr} {xs : List V} {ss : List Sh} (h : SqT K H t xs) (r : ShsAt K H xs ss) : ShAt K H (.ref t) (.tup ss)
  | non : ShAt K H .non .oth
  | str (x : Str) : ShAt K H (.str x) (.str x)
  | lst {a : Addr} {xs : List V} (h : SqL K H a xs) : ShAt K H (.ref a) .oth
  | dct {a : Addr} {kvs : List (Key × V)} (h : H a = some (.dK kvs)) : ShAt K H (.ref a) .oth
inductive ShsAt (K : PySem.W.Frag) (H : Hp) : List V → List Sh → Prop
  | nil : ShsAt K H [] []
  | cons {x : V} {s : Sh} {xs : List V} {ss : List Sh} (a : ShAt K H x s) (r : ShsAt K H xs ss) : ShsAt K H (x :: xs) (s :: ss)
end
/-- tuples and dicts stay, lists stay lists -/
structure Kp (K : PySem.W.Frag) (H H' : Hp) : Prop where
  tup : ∀ t xs, SqT K H t xs → SqT K H' t xs
  lst : ∀ a xs, SqL K H a xs → ∃ ys, SqL K H' a ys
  dct : ∀ a kvs, H a = some (.dK kvs) → H' a = some (.dK kvs)
theorem Kp.of {K : PySem.W.Frag} {H H' : Hp} (s : Same H H') : Kp K H H' := ⟨fun t xs h => Same.tup s h, fun a xs h => ⟨xs, L2.Same.seq s h⟩, fun a kvs h => s _ _ h⟩
theorem Kp.trans {K : PySem.W.Frag} {H1 H2 H3 : Hp} (a : Kp K H1 H2) (b : Kp K H2 H3) : Kp K H1 H3 := ⟨fun t xs h => b.tup t xs (a.tup t xs h), fun c xs h => by
    obtain ⟨ys, h2⟩ := a.lst c xs h
    exact b.lst c ys h2, fun c kvs h => b.dct c kvs (a.dct c kvs h)⟩
mutual
theorem ShAt.kp {K : PySem.W.Frag} {H H' : Hp} (e : Kp K H H') : ∀ {v : V} {s : Sh}, ShAt K H v s → ShAt K H' v s
  | _, _, .int i => .int i
  | _, _, .bool b => .bool b
  | _, _, .tup h r => .tup (e.tup _ _ h) (ShsAt.kp e r)
  | _, _, .non => .non
  | _, _, .str x => .str x
  | _, _, .lst h => by
    obtain ⟨ys, h2⟩ := e.lst _ _ h
    exact .lst h2
  | _, _, .dct h => .dct (e.dct _ _ h)
theorem ShsAt.kp {K : PySem.W.Frag} {H H' : Hp} (e : Kp K H H') : ∀ {xs : List V} {ss : List Sh}, ShsAt K H xs ss → ShsAt K H' xs ss
  | _, _, .nil => .nil
  | _, _, .cons a r => .cons (a.kp e) (ShsAt.kp e r)
end
theorem ShAt.same {K : PySem.W.Frag} {H H' : Hp} (e : Same H H') {v : V} {s : Sh} (h : ShAt K H v s) : ShAt K H' v s := h.kp (Kp.of e)
theorem ShsAt.same {K : PySem.W.Frag} {H H' : Hp} (e : Same H H') {xs : List V} {ss : List Sh} (h : ShsAt K H xs ss) : ShsAt K H' xs ss := h.kp (Kp.of e)
theorem ShsAt.len {K : PySem.W.Frag} {H : Hp} : ∀ {xs : List V} {ss : List Sh}, ShsAt K H xs ss → xs.length = ss.length
  | _, _, .nil => rfl
  | _, _, .cons _ r => congrArg (· + 1) (ShsAt.len r)
theorem ShsAt.get {K : PySem.W.Frag} {H : Hp} : ∀ {xs : List V} {ss : List Sh}, ShsAt K H xs ss → ∀ {i : Nat} {x : V}, xs[i]? = some x → ∃ s, ss[i]? = some s ∧ ShAt K H x s
  | _, _, .nil, i, x, e => by simp at e
  | _, _, .cons a r, 0, x, e => by simp at e; subst e; exact ⟨_, rfl, a⟩
  | _, _, .cons a r, i + 1, x, e => by
    obtain ⟨s, h1, h2⟩ := ShsAt.get r (i := i) (x := x) (by simpa using e)
    exact ⟨s, by simpa using h1, h2⟩
theorem ShsAt.app {K : PySem.W.Frag} {H : Hp} : ∀ {xs ys : List V} {ss ts : List Sh}, ShsAt K H xs ss → ShsAt K H ys ts → ShsAt K H (xs ++ ys) (ss ++ ts)
  | _, _, _, _, .nil, h => h
  | _, _, _, _, .cons a r, h => .cons a (ShsAt.app r h)
/-- the type's name -/
def tyOk (T : String) : Sh → Prop
  | .int _ => T = "int"
  | .bool _ => T = "bool"
  | .tup _ => T = "tuple"
  | .str _ => T = "str"
  | .oth => T ≠ "int" ∧ T ≠ "bool" ∧ T ≠ "tuple" ∧ T ≠ "str"
theorem ShAt.ty {K : PySem.W.Frag} {H : Hp} {v : V} {s : Sh} (h : ShAt K H v s) : ∃ T, TyB K H v T ∧ tyOk T s := by
  cases h with
  | int i => exact ⟨_, .int i, rfl⟩
  | bool b => exact ⟨_, .bl b, rfl⟩
  | tup h r => exact ⟨_, .tup h, rfl⟩
  | non => exact ⟨_, .non, (by decide : ("NoneType" : String) ≠ "int" ∧ ("NoneType" : String) ≠ "bool" ∧ ("NoneType" : String) ≠ "tuple" ∧ ("NoneType" : String) ≠ "str")⟩
  | str x => exact ⟨_, .str x, rfl⟩
  | lst h => exact ⟨_, .lst h, (by decide : ("list" : String) ≠ "int" ∧ ("list" : String) ≠ "bool" ∧ ("list" : String) ≠ "tuple" ∧ ("list" : String) ≠ "str")⟩
  | dct h => exact ⟨_, .dK h, (by decide : ("dict" : String) ≠ "int" ∧ ("dict" : String) ≠ "bool" ∧ ("dict" : String) ≠ "tuple" ∧ ("dict" : String) ≠ "str")⟩
def wholeF (lo : Int) : Sh → Bool
  | .int i => decide (i ≥ lo)
  | _ => false
def wholeR (lo hi : Int) : Sh → Bool
  | .int i => decide (i ≥ lo) && decide (i ≤ hi)
  | _ => false
def isTwo : Sh → Bool
  | .tup [_, _] => true
  | _ => false
def vpB (n : Int) : Sh → Bool
  | .tup [a, b] => wholeR 0 (n - 1) a && wholeR 0 (n - 1) b
  | _ => false
def lt2 : Sh → Bool
  | .tup [.int a, .int b] => decide (a < b)
  | _ => false
def edgeB (n : Int) (s : Sh) : Bool := vpB n s && lt2 s
/-- one stands ahead of the other, as numbers or as pairs of numbers -/
def ltS : Sh → Sh → Bool
  | .int a, .int b => decide (a < b)
  | .tup [.int a, .int b], .tup [.int c, .int d] => HT.lexLt [a, b] [c, d]
  | _, _ => false
def ascB : List Sh → Bool
  | s :: t :: r => ltS s t && ascB (t :: r)
  | _ => true
def isGr : Sh → Bool
  | .tup [.int n, .tup es] => (decide (n ≥ 0) && decide (n ≤ 9)) && (es.all (edgeB n) && ascB es)
  | _ => false
def isLot (n : Nat) : Sh → Bool
  | .tup ss => ss.all (wholeR 0 ((n : Int) - 1)) && ascB ss
  | _ => false
end My

set_option maxHeartbeats 4000000
namespace My
open PySem PySem.Spec PyProof.Rows L2 RZ
abbrev sIsWhole : Stmt := top 5
abbrev sWholeFrom : Stmt := top (5 + 1)
abbrev sIsTwo : Stmt := top (5 + 2)
abbrev sAsc : Stmt := top (5 + 3)
abbrev sIsGraph : Stmt := top (5 + 4)
abbrev sIsVP : Stmt := top (5 + 5)
abbrev sCheckGraph : Stmt := top (5 + 6)
theorem scIsWhole : FnScope ["value", "low", "high"] ["value", "low", "high"] (defScope sIsWhole) := ⟨rfl, rfl, rfl, by decide +kernel, rfl, by decide +kernel, by decide +kernel⟩
theorem scWholeFrom : FnScope ["value", "low"] ["value", "low"] (defScope sWholeFrom) := ⟨rfl, rfl, rfl, by decide +kernel, rfl, by decide +kernel, by decide +kernel⟩
theorem scIsTwo : FnScope ["value"] ["value"] (defScope sIsTwo) := ⟨rfl, rfl, rfl, by decide +kernel, rfl, by decide +kernel, by decide +kernel⟩
theorem scAsc : FnScope ["row", "value", "following"] ["row"] (defScope sAsc) := ⟨rfl, rfl, rfl, by decide +kernel, rfl, by decide +kernel, by decide +kernel⟩
theorem scIsGraph : FnScope ["value", "many", "edges", "edge"] ["value"] (defScope sIsGraph) := ⟨rfl, rfl, rfl, by decide +kernel, rfl, by decide +kernel, by decide +kernel⟩
theorem scIsVP : FnScope ["value", "many", "vertex"] ["value", "many"] (defScope sIsVP) := ⟨rfl, rfl, rfl, by decide +kernel, rfl, by decide +kernel, by decide +kernel⟩
theorem scCheckGraph : FnScope ["graph"] ["graph"] (defScope sCheckGraph) := ⟨rfl, rfl, rfl, by decide +kernel, rfl, by decide +kernel, by decide +kernel⟩
theorem opOr {X : Cx} {op : Value → Value → Sem Value} {r r' : R2} (a : OpR X op r) (b : OpR X op r') : OpR X op (fun x y H Q => r x y H Q ∨ r' x y H Q) := by
  intro pins s σ H x y v u Q I rx ry h
  rcases h with h | h
  · exact a pins s σ H x y v u Q I rx ry h
  · exact b pins s σ H x y v u Q I rx ry h
theorem walk_zipT {K : PySem.W.Frag} {a b : Addr} {xs ys : List V} {n : Nat} (hn : n = min xs.length ys.length) : Walk (ItzT K a b) n (fun H => SqT K H a xs ∧ SqT K H b ys) (YPair (fun i => xs[i]?) (fun i => ys[i]?)) := by
  subst hn
  refine ⟨fun i _ hi q => ?_, fun _ q => ⟨xs, ys, q.1, q.2, by omega⟩, fun i H v H' _ q y => ?_⟩
  · have h1 : i < xs.length := by omega
    have h2 : i < ys.length := by omega
    exact ⟨xs, ys, xs[i], ys[i], q.1, q.2, by simp [h1], by simp [h2]⟩
  · obtain ⟨T, x, z, h1, h2, h3, h4, h5⟩ := y
    exact ⟨T, x, z, h1, h2, h3, h4 xs q.1, h5 ys q.2⟩
/-- what may be compared: numbers alone, or pairs of numbers alone -/
def Cmp (ss : List Sh) : Prop := (∀ s ∈ ss, ∃ i, s = .int i) ∨ (∀ s ∈ ss, ∃ i j, s = .tup [.int i, .int j])
theorem asc_zip : ∀ ss : List Sh, (List.zipWith ltS ss (ss.drop 1)).all id = ascB ss
  | [] => rfl
  | [s] => rfl
  | s :: t :: r => by
    have ih := asc_zip (t :: r)
    show (ltS s t && (List.zipWith ltS (t :: r) ((t :: r).drop 1)).all id) = (ltS s t && ascB (t :: r))
    rw [ih]
def spWholeFromA (K : PySem.W.Frag) : Sp := fun vs H Q _ => ∃ (v : V) (s : Sh) (lo : Int), vs = [v, .int lo] ∧ ShAt K H v s ∧ Q (.bl (wholeF lo s)) H
def spIsWholeA (K : PySem.W.Frag) : Sp := fun vs H Q _ => ∃ (v : V) (s : Sh) (lo hi : Int), vs = [v, .int lo, .int hi] ∧ ShAt K H v s ∧ Q (.bl (wholeR lo hi s)) H
def spIsTwoA (K : PySem.W.Frag) : Sp := fun vs H Q _ => ∃ (v : V) (s : Sh), vs = [v] ∧ ShAt K H v s ∧ Q (.bl (isTwo s)) H
def spAscA (K : PySem.W.Frag) : Sp := fun vs H Q _ => ∃ (e : Addr) (xs : List V) (ss : List Sh), vs = [.ref e] ∧ SqT K H e xs ∧ ShsAt K H xs ss ∧ Cmp ss ∧ ss.length ≤ 900 ∧ ∀ H', Same H H' → Q (.bl (ascB ss)) H'
def spVPA (K : PySem.W.Frag) : Sp := fun vs H Q _ => ∃ (v : V) (s : Sh) (n : Int), vs = [v, .int n] ∧ ShAt K H v s ∧ ∀ H', Same H H' → Q (.bl (vpB n s)) H'
/-- no tuple in it is too long -/
def shortS : Sh → Prop
  | .tup [_, .tup es] => es.length ≤ 900
  | _ => True
def spIsGraphA (K : PySem.W.Frag) : Sp := fun vs H Q _ => ∃ (v : V) (s : Sh), vs = [v] ∧ ShAt K H v s ∧ shortS s ∧ ∀ H', Same H H' → Q (.bl (isGr s)) H'
section
variable {P : Program} {w : World} {K : PySem.W.Frag} {mg : Str → Option Value} {base : Heap} {f fW fI fE fG : Addr} {fd dW dI dE dG : FuncData}
theorem ok_whole_from (F : L2.Fun K "is_whole_from" "is_whole_from" sWholeFrom f fd) (mty : mg "type" = none) (mi : mg "int" = none) : FnOk P w K mg base CX0 1 f fd ["value", "low"] (spWholeFromA K) := by
  refine F.ok scWholeFrom (fun vs H Q E h => ?_) (fun cdv A outer s H vs Q E hr h => ?_)
  · obtain ⟨v, s, lo, rfl, _⟩ := h
    rfl
  obtain ⟨v, s, lo, rfl, hv, q⟩ := h
  refine ⟨_, pss_one (ps_ret (pe_and (pe_cmpR op_isTy (pe_callTy call_type1 (by rfl) mty (by decide +kernel) (pa_cons (pv 0) pa_nil)) (pe_bltn (v := .ty "int") (by rfl) mi (by decide +kernel) rfl) (nomark _)) (pe_one (pe_cmpR op_ge (pv 0) (pv 1) (nomark _))))), ?_⟩
  obtain ⟨T, ty, ok⟩ := hv.ty
  refine ⟨_, rfl, v, T, rfl, ty, T, "int", rfl, rfl, _, rfl, iteB (fun c => ?_) (fun c => ?_)⟩
  · have c' : T = "int" := of_decide_eq_true c
    cases hv with
    | int i => exact ⟨_, rfl, _, rfl, _, _, rfl, rfl, q⟩
    | bool b => cases ty; exact absurd c' (by decide)
    | tup h r => rw [show T = "tuple" from ok] at c'; exact absurd c' (by decide)
    | non => exact absurd c' ok.1
    | str x => rw [show T = "str" from ok] at c'; exact absurd c' (by decide)
    | lst h => exact absurd c' ok.1
    | dct h => exact absurd c' ok.1
  · show Q (.bl false) H
    have nc : T ≠ "int" := of_decide_eq_false c
    have e : wholeF lo s = false := by
      cases s with
      | int i => exact absurd ok nc
      | _ => rfl
    rw [e] at q
    exact q
theorem ok_is_whole (F : L2.Fun K "is_whole" "is_whole" sIsWhole f fd) (GW : FnOk P w K mg base CX0 1 fW dW ["value", "low"] (spWholeFromA K)) (bW : L2.Binds K dW ["value", "low"] []) (kW : PySem.W.keepIn K (.ref fW) = true) (mW : mg "is_whole_from" = some (.ref fW)) : FnOk P w K mg base CX0 2 f fd ["value", "low", "high"] (spIsWholeA K) := by
  refine F.ok scIsWhole (fun vs H Q E h => ?_) (fun cdv A outer s H vs Q E hr h => ?_)
  · obtain ⟨v, s, lo, hi, rfl, _⟩ := h
    rfl
  obtain ⟨v, s, lo, hi, rfl, hv, q⟩ := h
  refine ⟨_, pss_one (ps_ret (pe_and (pe_call GW hr (by rfl) mW kW bW .nil pass0 (pa_cons (pv 0) (pa_cons (pv 1) pa_nil))) (pe_one (pe_cmpR op_le (pv 0) (pv 2) (nomark _))))), ?_⟩
  refine ⟨_, rfl, _, rfl, v, s, lo, rfl, hv, _, rfl, iteB (fun c => ?_) (fun c => ?_)⟩
  · cases s with
    | int i =>
      cases hv
      refine ⟨_, rfl, _, rfl, _, _, rfl, rfl, ?_⟩
      have e : wholeR lo hi (.int i) = decide (i ≤ hi) := by
        show (decide (i ≥ lo) && decide (i ≤ hi)) = _
        rw [show decide (i ≥ lo) = true from c]
        rfl
      rw [e] at q
      exact q
    | bool b => cases c
    | tup ss => cases c
    | str x => cases c
    | oth => cases c
  · show Q (.bl false) H
    have c' : wholeF lo s = false := c
    have e : wholeR lo hi s = false := by
      cases s with
      | int i =>
        show (decide (i ≥ lo) && decide (i ≤ hi)) = false
        rw [show decide (i ≥ lo) = false from c']
        rfl
      | _ => rfl
    rw [e] at q
    exact q
theorem ok_is_two (F : L2.Fun K "is_tuple_of_two" "is_tuple_of_two" sIsTwo f fd) (mty : mg "type" = none) (mt : mg "tuple" = none) (ml : mg "len" = none) : FnOk P w K mg base CX0 1 f fd ["value"] (spIsTwoA K) := by
  refine F.ok scIsTwo (fun vs H Q E h => ?_) (fun cdv A outer s H vs Q E hr h => ?_)
  · obtain ⟨v, s, rfl, _⟩ := h
    rfl
  obtain ⟨v, s, rfl, hv, q⟩ := h
  refine ⟨_, pss_one (ps_ret (pe_and (pe_cmpR op_isTy (pe_callTy call_type1 (by rfl) mty (by decide +kernel) (pa_cons (pv 0) pa_nil)) (pe_bltn (v := .ty "tuple") (by rfl) mt (by decide +kernel) rfl) (nomark _)) (pe_one (pe_cmpR op_eq (pe_callB call_len_seq (by rfl) ml PySem.boot_len (pa_cons (pv 0) pa_nil)) pe_int (nomark _))))), ?_⟩
  obtain ⟨T, ty, ok⟩ := hv.ty
  refine ⟨_, rfl, v, T, rfl, ty, T, "tuple", rfl, rfl, _, rfl, iteB (fun c => ?_) (fun c => ?_)⟩
  · have c' : T = "tuple" := of_decide_eq_true c
    cases hv with
    | int i => rw [show T = "int" from ok] at c'; exact absurd c' (by decide)
    | bool b => rw [show T = "bool" from ok] at c'; exact absurd c' (by decide)
    | @tup t xs ss h r =>
      refine ⟨_, rfl, t, xs, rfl, .inr h, rfl, ?_⟩
      have le := r.len
      show Q (.bl (decide (V.int ((xs.length : Nat) : Int) = V.int 2))) H
      have e : isTwo (.tup ss) = decide (V.int ((xs.length : Nat) : Int) = V.int 2) := by
        rw [le]
        rcases ss with _ | ⟨a, _ | ⟨b, _ | ⟨c, r⟩⟩⟩
        · rfl
        · rfl
        · rfl
        · symm
          show decide _ = false
          refine decide_eq_false fun z => ?_
          injection z with z
          simp at z
          omega
      rw [e] at q
      exact q
    | non => exact absurd c' ok.2.2.1
    | str x => rw [show T = "str" from ok] at c'; exact absurd c' (by decide)
    | lst h => exact absurd c' ok.2.2.1
    | dct h => exact absurd c' ok.2.2.1
  · show Q (.bl false) H
    have nc : T ≠ "tuple" := of_decide_eq_false c
    have e : isTwo s = false := by
      cases s with
      | tup ss => exact absurd ok nc
      | _ => rfl
    rw [e] at q
    exact q
theorem ok_asc (F : L2.Fun K "is_ascending" "is_ascending" sAsc f fd) (ma : mg "all" = none) (mz : mg "zip" = none) : FnOk P w K mg base CX0 1 f fd ["row"] (spAscA K) := by
  refine F.ok scAsc (fun vs H Q E h => ?_) (fun cdv A outer s H vs Q E hr h => ?_)
  · obtain ⟨e, xs, ss, rfl, _⟩ := h
    rfl
  obtain ⟨e, xs, ss, rfl, he, hs, cmp, few, q⟩ := h
  refine ⟨_, pss_one (ps_ret (pe_callB (cr_all rfl) (by rfl) ma (by decide +kernel) (pa_cons (pe_lc (own := [("value", 1), ("following", 2)]) (g := gTup K 2 (gCons (gName 1) (gCons (gName 2) gNil))) (tt := tYes) rfl scAsc.nd (pi_zipA (by rfl) mz (pa_cons (pv 0) (pa_cons (pe_slice sl_tupA (pv 0) (po_some pe_int) po_none) pa_nil)))
        (blkOk_by (N := ["row", "value", "following"]) (sc := defScope sAsc) (by decide +kernel)) (fun _ _ _ _ _ => pg_tup (by rfl) (pgs_cons (pg_name (i := 1) scAsc.nd rfl (Or.inl rfl)) (pgs_cons (pg_name (i := 2) scAsc.nd rfl (Or.inl rfl)) pgs_nil))) (fun _ _ _ _ _ => pts_nil)
        (fun _ _ _ _ _ => pe_cmpR (r := fun x y H Q => rI0 (fun i j => .bl (decide (i < j))) x y H Q ∨ rLtT K x y H Q) (opOr op_lt (op_ltT hr.units0)) (pv 1) (pv 2) (nomark _))) pa_nil))), ?_⟩
  have lxs := hs.len
  have lz : (List.zipWith ltS ss (ss.drop 1)).length = ss.length - 1 := by rw [List.length_zipWith, List.length_drop]; omega
  cases xs with
  | nil =>
    cases hs
    refine ⟨_, rfl, _, rfl, 1, rfl, e, [], rfl, he, fun _ => ?_, fun z => absurd ⟨rfl, rfl⟩ z⟩
    refine ⟨e, e, [], [], rfl, .inr ⟨he, he, fun B nB => lc_it (walk_zipT (n := 0) rfl) (fun i H3 => i = 0 ∧ Same H H3 ∧ H3 B = some (.lst [])) ⟨rfl, same_new nB _, upd_same⟩ (fun i H3 _ ⟨_, s3, _⟩ => ⟨Same.tup s3 he, Same.tup s3 he⟩) (fun i x H3 H4 hi => absurd hi (Nat.not_lt_zero _)) ?_⟩⟩
    rintro H3 ⟨_, s3, hB⟩
    exact ⟨B, [], rfl, SqL.of hB, q H3 s3⟩
  | cons x0 xs =>
    have hs3 : ShsAt K H xs (ss.drop 1) := by cases hs; assumption
    have cut : cutV (x0 :: xs) (some 1) none = xs := by
      unfold cutV
      rw [HT.sIx_none, show ((1 : Int)) = ((1 : Nat) : Int) from rfl, HT.sIx_nat, List.length_cons, show min 1 (xs.length + 1) = 1 by omega, List.drop_one, List.tail_cons, Nat.add_sub_cancel, List.take_length]
    refine ⟨_, rfl, _, rfl, 1, rfl, e, x0 :: xs, rfl, he, fun z => ?_, fun _ c nc => ?_⟩
    · exfalso
      have z1 := z.1
      rw [show ((1 : Int)) = ((1 : Nat) : Int) from rfl, HT.sIx_nat, List.length_cons] at z1
      omega
    rw [cut]
    have s3 := same_new nc (.tup xs)
    have l1 : xs.length + 1 = ss.length := by rw [← lxs, List.length_cons]
    refine ⟨e, c, x0 :: xs, xs, rfl, .inr ⟨Same.tup s3 he, SqT.of upd_same, fun B nB => lc_it (walk_zipT (n := xs.length) (by rw [List.length_cons]; omega)) (fun i H3 => Same (upd H c (.tup xs)) H3 ∧ H3 B = some (.lst (((List.zipWith ltS ss (ss.drop 1)).take i).map V.bl))) ⟨same_new nB _, upd_same⟩ (fun i H3 _ ⟨s4, _⟩ => ⟨Same.tup (s3.trans s4) he, Same.tup s4 (SqT.of upd_same)⟩) (fun i x H3 H4 hi ⟨s4, hB⟩ ⟨T, y, z, e1, nT, e2, hy, hz⟩ => ?_) ?_⟩⟩
    · subst e1
      subst e2
      have s5 := same_new nT (.tup [y, z])
      have sA := s3.trans (s4.trans s5)
      obtain ⟨a, ha, sa⟩ := (hs.same sA).get hy
      obtain ⟨b, hb, sb⟩ := (hs3.same sA).get hz
      have hz' : (List.zipWith ltS ss (ss.drop 1))[i]? = some (ltS a b) := by rw [List.getElem?_zipWith, ha, hb]
      have fin : Same (upd H c (.tup xs)) (upd (upd H3 T (.tup [y, z])) B (.lst (((List.zipWith ltS ss (ss.drop 1)).take i).map V.bl ++ [V.bl (ltS a b)]))) ∧ upd (upd H3 T (.tup [y, z])) B (.lst (((List.zipWith ltS ss (ss.drop 1)).take i).map V.bl ++ [V.bl (ltS a b)])) B = some (.lst (((List.zipWith ltS ss (ss.drop 1)).take (i + 1)).map V.bl)) := by
        refine ⟨same_put (s4.trans s5) nB, ?_⟩
        rw [upd_same, take_succ hz', List.map_append]
        rfl
      have ln : (((List.zipWith ltS ss (ss.drop 1)).take i).map V.bl).length < sizeLine := small1000 (by rw [List.length_map, List.length_take]; omega)
      have hB5 := s5 _ _ hB
      refine ⟨T, _, rfl, SqT.of upd_same, rfl, _, _, rfl, _, _, rfl, rfl, rfl, ?_⟩
      refine ⟨_, rfl, _, rfl, ?_⟩
      have ma := List.mem_of_getElem? ha
      have mb := List.mem_of_mem_drop (List.mem_of_getElem? hb)
      rcases cmp with cm | cm
      · obtain ⟨k, rfl⟩ := cm a ma
        obtain ⟨l, rfl⟩ := cm b mb
        cases sa
        cases sb
        exact .inl ⟨_, _, rfl, rfl, _, hB5, ln, fin⟩
      · obtain ⟨k, k2, rfl⟩ := cm a ma
        obtain ⟨l, l2, rfl⟩ := cm b mb
        cases sa with
        | @tup t1 ys1 _ h1 r1 =>
          cases sb with
          | @tup t2 ys2 _ h2 r2 =>
            cases r1 with
            | cons p1 r1 =>
              cases r1 with
              | cons p2 r1 =>
                cases r1
                cases p1
                cases p2
                cases r2 with
                | cons p3 r2 =>
                  cases r2 with
                  | cons p4 r2 =>
                    cases r2
                    cases p3
                    cases p4
                    exact .inr ⟨t1, t2, [k, k2], [l, l2], rfl, rfl, h1, h2, _, hB5, ln, fin⟩
    · rintro H3 ⟨s4, hB⟩
      refine ⟨B, _, rfl, SqL.of hB, ?_⟩
      rw [List.take_of_length_le (by omega), asc_zip]
      exact q H3 (s3.trans s4)
theorem ok_vp (F : L2.Fun K "is_vertex_pair" "is_vertex_pair" sIsVP f fd) (GI : FnOk P w K mg base CX0 1 fI dI ["value"] (spIsTwoA K)) (bI : L2.Binds K dI ["value"] []) (kI : PySem.W.keepIn K (.ref fI) = true) (mI : mg "is_tuple_of_two" = some (.ref fI))
    (GW : FnOk P w K mg base CX0 2 fW dW ["value", "low", "high"] (spIsWholeA K)) (bW : L2.Binds K dW ["value", "low", "high"] []) (kW : PySem.W.keepIn K (.ref fW) = true) (mW : mg "is_whole" = some (.ref fW)) (ma : mg "all" = none) : FnOk P w K mg base CX0 3 f fd ["value", "many"] (spVPA K) := by
  refine F.ok scIsVP (fun vs H Q E h => ?_) (fun cdv A outer s H vs Q E hr h => ?_)
  · obtain ⟨v, s, n, rfl, _⟩ := h
    rfl
  obtain ⟨v, s, n, rfl, hv, q⟩ := h
  refine ⟨_, pss_one (ps_ret (pe_and (pe_call GI (hr.mono (by decide)) (by rfl) mI kI bI .nil pass0 (pa_cons (pv 0) pa_nil)) (pe_one (pe_callB (cr_all rfl) (by rfl) ma (by decide +kernel) (pa_cons (pe_lc (own := [("vertex", 2)]) (g := gName 2) (tt := tYes) rfl scIsVP.nd (pi_tup (pv 0))
        (blkOk_by (N := ["value", "many", "vertex"]) (sc := defScope sIsVP) (by decide +kernel)) (fun _ _ _ _ _ => pg_name (i := 2) scIsVP.nd rfl (Or.inl rfl)) (fun _ _ _ _ _ => pts_nil)
        (fun _ _ _ _ _ => pe_call GW hr (by rfl) mW kW bW .nil pass0 (pa_cons (pv 2) (pa_cons pe_int (pa_cons (pe_op op_sub (pv 1) pe_int) pa_nil))))) pa_nil))))), ?_⟩
  refine ⟨_, rfl, v, s, rfl, hv, _, rfl, iteB (fun c => ?_) (fun c => ?_)⟩
  · obtain ⟨a, b, rfl⟩ : ∃ a b, s = .tup [a, b] := by
      unfold isTwo at c
      split at c
      · exact ⟨_, _, rfl⟩
      · cases c
    cases hv with
    | @tup t xs _ h r =>
      have lx := r.len
      refine ⟨_, rfl, t, rfl, ⟨_, h⟩, fun D nD => lc_tup (K := K) (a := t) (xs := xs) (fun i H2 => Same H H2 ∧ H2 D = some (.lst ((([a, b].take i).map (wholeR 0 (n - 1))).map V.bl))) ⟨same_new nD _, upd_same⟩ (fun i H1 _ ⟨s1, _⟩ => Same.tup s1 h) ?_ ?_⟩
      · rintro i x H2 hi ⟨s2, hD⟩
        obtain ⟨z, hz, sz⟩ := (r.same s2).get hi
        refine ⟨rfl, ?_⟩
        refine ⟨_, rfl, _, rfl, _, _, rfl, rfl, x, z, 0, n - 1, rfl, sz, _, hD, small1000 (by rw [List.length_map, List.length_map, List.length_take]; exact Nat.le_trans (Nat.min_le_right _ _) (by show 2 ≤ 1000; decide)), same_put s2 nD, ?_⟩
        rw [upd_same, take_succ hz, List.map_append, List.map_append]
        rfl
      · rintro H2 ⟨s2, hD⟩
        rw [lx, List.take_length] at hD
        refine ⟨D, _, rfl, SqL.of hD, ?_⟩
        have e : ([a, b].map (wholeR 0 (n - 1))).all id = vpB n (.tup [a, b]) := by
          show (wholeR 0 (n - 1) a && (wholeR 0 (n - 1) b && true)) = _
          rw [Bool.and_true]
          rfl
        rw [e]
        exact q H2 s2
  · have e : vpB n s = false := by
      unfold vpB
      split
      · cases c
      · rfl
    rw [e] at q
    exact q H (L2.Same.refl H)
theorem ok_is_graph (F : L2.Fun K "is_graph" "is_graph" sIsGraph f fd) (GI : FnOk P w K mg base CX0 1 fI dI ["value"] (spIsTwoA K)) (bI : L2.Binds K dI ["value"] []) (kI : PySem.W.keepIn K (.ref fI) = true) (mI : mg "is_tuple_of_two" = some (.ref fI))
    (GW : FnOk P w K mg base CX0 2 fW dW ["value", "low", "high"] (spIsWholeA K)) (bW : L2.Binds K dW ["value", "low", "high"] []) (kW : PySem.W.keepIn K (.ref fW) = true) (mW : mg "is_whole" = some (.ref fW))
    (GE : FnOk P w K mg base CX0 3 fE dE ["value", "many"] (spVPA K)) (bE : L2.Binds K dE ["value", "many"] []) (kE : PySem.W.keepIn K (.ref fE) = true) (mE : mg "is_vertex_pair" = some (.ref fE))
    (GA : FnOk P w K mg base CX0 1 fG dG ["row"] (spAscA K)) (bA : L2.Binds K dG ["row"] []) (kA : PySem.W.keepIn K (.ref fG) = true) (mA : mg "is_ascending" = some (.ref fG))
    (tk : Tok) (mM : mg "MOST_VERTICES" = some (.int 9 tk)) (mty : mg "type" = none) (mt : mg "tuple" = none) (ma : mg "all" = none) : FnOk P w K mg base CX0 4 f fd ["value"] (spIsGraphA K) := by
  refine F.ok scIsGraph (fun vs H Q E h => ?_) (fun cdv A outer s H vs Q E hr h => ?_)
  · obtain ⟨v, s, rfl, _⟩ := h
    rfl
  obtain ⟨v, s, rfl, hv, sh, q⟩ := h
  refine ⟨_, pss_cons (ps_if (pt_not (pt_val (pe_call GI (hr.mono (by decide)) (by rfl) mI kI bI .nil pass0 (pa_cons (pv 0) pa_nil)))) (pss_one (ps_ret pe_bl)) pss_nil)
    (pss_cons (ps_asg (pv 0) (pg_tup (by rfl) (pgs_cons (pg_name (i := 1) scIsGraph.nd rfl (.inr rfl)) (pgs_cons (pg_name (i := 2) scIsGraph.nd rfl (.inl rfl)) pgs_nil))))
    (pss_cons (ps_if (PW.pt (pw_or (pt_not (pt_val (pe_call GW (hr.mono (by decide)) (by rfl) mW kW bW .nil pass0 (pa_cons (pv 1) (pa_cons pe_int (pa_cons (pe_glob (v := .int 9) (by rfl) mM ⟨_, rfl⟩) pa_nil))))))
        (pw_or1 (pt_cmpR op_isNotTy (pe_callTy call_type1 (by rfl) mty (by decide +kernel) (pa_cons (pv 2) pa_nil)) (pe_bltn (v := .ty "tuple") (by rfl) mt (by decide +kernel) rfl) (nomark _))))) (pss_one (ps_ret pe_bl)) pss_nil)
    (pss_one (ps_ret (pe_and (pe_callB (cr_all rfl) (by rfl) ma (by decide +kernel) (pa_cons (pe_lc (own := [("edge", 3)]) (g := gName 3) (tt := tYes) rfl scIsGraph.nd (pi_tup (pv 2))
        (blkOk_by (N := ["value", "many", "edges", "edge"]) (sc := defScope sIsGraph) (by decide +kernel)) (fun _ _ _ _ _ => pg_name (i := 3) scIsGraph.nd rfl (Or.inl rfl)) (fun _ _ _ _ _ => pts_nil)
        (fun _ _ _ _ _ => pe_and (pe_call GE (hr.mono (by decide)) (by rfl) mE kE bE .nil pass0 (pa_cons (pv 3) (pa_cons (pv 1) pa_nil))) (pe_one (pe_cmpR op_lt (pe_ix (r := rIxT K) ix_tup (pv 3) pe_int (fun _ _ => rfl)) (pe_ix (r := rIxT K) ix_tup (pv 3) pe_int (fun _ _ => rfl)) (nomark _))))) pa_nil))
      (pe_one (pe_call GA (hr.mono (by decide)) (by rfl) mA kA bA .nil pass0 (pa_cons (pv 2) pa_nil)))))))), ?_⟩
  have q0 := q H (L2.Same.refl H)
  refine ⟨_, rfl, v, s, rfl, hv, _, rfl, iteB (fun c => ?_) (fun c => ?_)⟩
  · have e : isGr s = false := by
      unfold isGr
      split
      · cases c
      · rfl
    rw [e] at q0
    exact q0
  obtain ⟨m, es, rfl⟩ : ∃ a b, s = .tup [a, b] := by
    unfold isTwo at c
    split at c
    · exact ⟨_, _, rfl⟩
    · cases c
  cases hv with
  | @tup t xs _ ht r =>
  cases r with
  | @cons x _ xs _ hm r =>
  cases r with
  | @cons y _ xs _ hy r =>
  cases r
  refine ⟨_, rfl, t, _, rfl, ht, rfl, _, _, rfl, _, _, rfl, rfl, ?_⟩
  refine ⟨_, rfl, x, m, 0, 9, rfl, hm, _, rfl, iteB (fun c1 => ?_) (fun c1 => ?_)⟩
  · have e : isGr (.tup [m, es]) = false := by
      unfold isGr
      split
      · rename_i n es' e
        injection e with e
        injection e with e1 e2
        subst e1
        have c2 : (decide (n ≥ 0) && decide (n ≤ 9)) = false := (Bool.not_eq_true' _).mp c1
        rw [c2, Bool.false_and]
      · rfl
    rw [e] at q0
    exact q0
  obtain ⟨n, rfl, c2⟩ : ∃ n, m = .int n ∧ (decide (n ≥ 0) && decide (n ≤ 9)) = true := by
    cases m with
    | int n => exact ⟨n, rfl, (Bool.not_eq_false' _).mp c1⟩
    | _ => cases c1
  cases hm
  obtain ⟨T, ty, ok⟩ := hy.ty
  refine ⟨_, rfl, y, T, rfl, ty, T, "tuple", rfl, rfl, _, rfl, iteB (fun c3 => ?_) (fun c3 => ?_)⟩
  · have nt : T ≠ "tuple" := by simpa using c3
    have e : isGr (.tup [.int n, es]) = false := by
      cases es with
      | tup es => exact absurd ok nt
      | _ => rfl
    rw [e] at q0
    exact q0
  have et : T = "tuple" := by simpa using c3
  obtain ⟨es, rfl⟩ : ∃ ss, es = .tup ss := by
    cases es with
    | tup ss => exact ⟨ss, rfl⟩
    | int i => rw [show T = "int" from ok] at et; exact absurd et (by decide)
    | bool b => rw [show T = "bool" from ok] at et; exact absurd et (by decide)
    | str x => rw [show T = "str" from ok] at et; exact absurd et (by decide)
    | oth => exact absurd et ok.2.2.1
  have few : es.length ≤ 900 := sh
  cases hy with
  | @tup e xs _ he r =>
  have lx := r.len
  have eq : isGr (.tup [.int n, .tup es]) = (es.all (edgeB n) && ascB es) := by
    show ((decide (n ≥ 0) && decide (n ≤ 9)) && (es.all (edgeB n) && ascB es)) = _
    rw [c2, Bool.true_and]
  refine ⟨_, rfl, e, rfl, ⟨_, he⟩, fun D nD => lc_tup (K := K) (a := e) (xs := xs) (fun i H2 => Same H H2 ∧ H2 D = some (.lst (((es.take i).map (edgeB n)).map V.bl))) ⟨same_new nD _, upd_same⟩ (fun i H1 _ ⟨s1, _⟩ => Same.tup s1 he) ?_ ?_⟩
  · rintro i x H2 hi ⟨s2, hD⟩
    obtain ⟨z, hz, sz⟩ := (r.same s2).get hi
    have ln : (((es.take i).map (edgeB n)).map V.bl).length < sizeLine := small1000 (by rw [List.length_map, List.length_map, List.length_take]; omega)
    have fin : ∀ H3, Same H2 H3 → ∃ acc, H3 D = some (.lst acc) ∧ acc.length < sizeLine ∧ Same H (upd H3 D (.lst (acc ++ [V.bl (edgeB n z)]))) ∧ upd H3 D (.lst (acc ++ [V.bl (edgeB n z)])) D = some (.lst (((es.take (i + 1)).map (edgeB n)).map V.bl)) := fun H3 s3 => by
      refine ⟨_, s3 _ _ hD, ln, same_put (s2.trans s3) nD, ?_⟩
      rw [upd_same, take_succ hz, List.map_append, List.map_append]
      rfl
    refine ⟨rfl, ?_⟩
    refine ⟨_, rfl, _, rfl, x, z, n, rfl, sz, fun H3 s3 => ⟨_, rfl, iteB (fun c4 => ?_) (fun c4 => ?_)⟩⟩
    · obtain ⟨a, b, rfl⟩ : ∃ a b, z = .tup [.int a, .int b] := by
        unfold vpB at c4
        split at c4
        · rename_i a b
          cases a with
          | int a =>
            cases b with
            | int b => exact ⟨a, b, rfl⟩
            | _ => simp [wholeR] at c4
          | _ => simp [wholeR] at c4
        · cases c4
      have e1 : edgeB n (.tup [.int a, .int b]) = decide (a < b) := by
        show (vpB n (.tup [.int a, .int b]) && decide (a < b)) = _
        rw [show vpB n (.tup [.int a, .int b]) = true from c4, Bool.true_and]
      cases sz with
      | @tup u us _ hu ru =>
      cases ru with
      | cons p1 ru =>
      cases ru with
      | cons p2 ru =>
      cases ru
      cases p1
      cases p2
      have hu3 := Same.tup s3 hu
      refine ⟨_, rfl, u, _, 0, _, rfl, rfl, hu3, rfl, _, rfl, u, _, 1, _, rfl, rfl, hu3, rfl, _, _, rfl, rfl, ?_⟩
      have f := fin H3 s3
      rw [e1] at f
      exact f
    · have e1 : edgeB n z = false := by
        show (vpB n z && lt2 z) = false
        rw [show vpB n z = false from c4, Bool.false_and]
      have f := fin H3 s3
      rw [e1] at f
      exact f
  rintro H2 ⟨s2, hD⟩
  rw [lx, List.take_length] at hD
  refine ⟨D, _, rfl, SqL.of hD, _, rfl, ?_⟩
  have ea : (es.map (edgeB n)).all id = es.all (edgeB n) := by rw [List.all_map]; rfl
  rw [ea]
  refine iteB (fun c4 => ?_) (fun c4 => ?_)
  · refine ⟨_, rfl, e, xs, es, rfl, Same.tup s2 he, r.same s2, .inr fun s hs => ?_, few, fun H3 s3 => ?_⟩
    · have h1 := List.all_eq_true.mp c4 s hs
      unfold edgeB at h1
      rw [Bool.and_eq_true] at h1
      have h2 := h1.2
      unfold lt2 at h2
      split at h2
      · exact ⟨_, _, rfl⟩
      · cases h2
    · have q1 := q H3 (s2.trans s3)
      rw [eq, c4, Bool.true_and] at q1
      exact q1
  · have q1 := q H2 s2
    rw [eq, c4, Bool.false_and] at q1
    exact q1
end
end My

set_option maxHeartbeats 4000000
namespace My
open PySem PySem.Spec PyProof.Rows L2
def pairS (p : E2) : Sh := .tup [.int (p.1 : Int), .int (p.2 : Int)]
def graphS (n : Nat) (es : List E2) : Sh := .tup [.int (n : Int), .tup (es.map pairS)]
theorem PairsAt.sh {K : PySem.W.Frag} {H : Hp} : ∀ {xs : List V} {ps : List E2}, PairsAt K H xs ps → ShsAt K H xs (ps.map pairS)
  | _, _, .nil => .nil
  | _, _, .cons ⟨t, h1, h2⟩ b => by
    subst h1
    exact .cons (.tup h2 (.cons (.int _) (.cons (.int _) .nil))) (PairsAt.sh b)
theorem GraphAt.sh {K : PySem.W.Frag} {H : Hp} {x : V} {n : Nat} {es : List E2} (h : GraphAt K H x n es) : ShAt K H x (graphS n es) := by
  obtain ⟨t, e, xs, rfl, h1, h2, h3⟩ := h
  exact .tup h1 (.cons (.int _) (.cons (.tup h2 h3.sh) .nil))
theorem asc_pairs : ∀ {es : List E2}, es.Pairwise ahead → ascB (es.map pairS) = true
  | [], _ => rfl
  | [_], _ => rfl
  | p :: q :: r, h => by
    have h1 := (List.pairwise_cons.mp h).1 q (List.mem_cons_self ..)
    have ih := asc_pairs (es := q :: r) (List.pairwise_cons.mp h).2
    show (HT.lexLt [(p.1 : Int), (p.2 : Int)] [(q.1 : Int), (q.2 : Int)] && ascB ((q :: r).map pairS)) = true
    rw [ih, Bool.and_true]
    unfold HT.lexLt
    split
    · unfold HT.lexLt
      rcases h1 with h1 | ⟨_, h1⟩
      · omega
      · rw [if_neg (by omega)]
        exact decide_eq_true (by omega)
    · rename_i e
      rcases h1 with h1 | ⟨h1, _⟩
      · exact decide_eq_true (by omega)
      · exact absurd (by omega) e
theorem isGr_good {n : Nat} {es : List E2} (g : Good n es) : isGr (graphS n es) = true := by
  have n9 := g.n9
  show ((decide ((n : Int) ≥ 0) && decide ((n : Int) ≤ 9)) && ((es.map pairS).all (edgeB (n : Int)) && ascB (es.map pairS))) = true
  rw [asc_pairs g.up, decide_eq_true (show (n : Int) ≥ 0 by omega), decide_eq_true (show (n : Int) ≤ 9 by omega)]
  simp only [Bool.and_true, Bool.true_and]
  rw [List.all_eq_true]
  intro s hs
  obtain ⟨p, hp, rfl⟩ := List.mem_map.mp hs
  obtain ⟨l1, l2⟩ := g.lt p hp
  show (((decide ((p.1 : Int) ≥ 0) && decide ((p.1 : Int) ≤ (n : Int) - 1)) && (decide ((p.2 : Int) ≥ 0) && decide ((p.2 : Int) ≤ (n : Int) - 1))) && decide ((p.1 : Int) < (p.2 : Int))) = true
  simp
  omega
/-- a lot -/
def LotAt (K : PySem.W.Frag) (H : Hp) (x : V) (l : List Nat) : Prop := ∃ t, x = .ref t ∧ SqT K H t (l.map fun k => V.int ((k : Nat) : Int))
structure LotOk (n : Nat) (l : List Nat) : Prop where
  lt : ∀ k ∈ l, k < n
  up : l.Pairwise (· < ·)
def lotS (l : List Nat) : Sh := .tup (l.map fun k => Sh.int ((k : Nat) : Int))
theorem LotAt.same {K : PySem.W.Frag} {H H' : Hp} (s : Same H H') {x : V} {l : List Nat} (h : LotAt K H x l) : LotAt K H' x l := by
  obtain ⟨t, rfl, h⟩ := h
  exact ⟨t, rfl, Same.tup s h⟩
theorem ints_sh {K : PySem.W.Frag} {H : Hp} : ∀ l : List Nat, ShsAt K H (l.map fun k => V.int ((k : Nat) : Int)) (l.map fun k => Sh.int ((k : Nat) : Int))
  | [] => .nil
  | _ :: r => .cons (.int _) (ints_sh r)
theorem LotAt.sh {K : PySem.W.Frag} {H : Hp} {x : V} {l : List Nat} (h : LotAt K H x l) : ShAt K H x (lotS l) := by
  obtain ⟨t, rfl, h⟩ := h
  exact .tup h (ints_sh l)
theorem asc_lot : ∀ {l : List Nat}, l.Pairwise (· < ·) → ascB (l.map fun k => Sh.int ((k : Nat) : Int)) = true
  | [], _ => rfl
  | [_], _ => rfl
  | p :: q :: r, h => by
    have h1 := (List.pairwise_cons.mp h).1 q (List.mem_cons_self ..)
    have ih := asc_lot (l := q :: r) (List.pairwise_cons.mp h).2
    show (decide ((p : Int) < (q : Int)) && ascB ((q :: r).map fun k => Sh.int ((k : Nat) : Int))) = true
    rw [ih, Bool.and_true]
    exact decide_eq_true (by omega)
theorem isLot_ok {n : Nat} {l : List Nat} (g : LotOk n l) : isLot n (lotS l) = true := by
  show ((l.map fun k => Sh.int ((k : Nat) : Int)).all (wholeR 0 ((n : Int) - 1)) && ascB (l.map fun k => Sh.int ((k : Nat) : Int))) = true
  rw [asc_lot g.up, Bool.and_true, List.all_eq_true]
  intro s hs
  obtain ⟨k, hk, rfl⟩ := List.mem_map.mp hs
  have l1 := g.lt k hk
  show (decide ((k : Int) ≥ 0) && decide ((k : Int) ≤ (n : Int) - 1)) = true
  simp
  omega
theorem LotOk.few {n : Nat} {l : List Nat} (g : LotOk n l) : l.length ≤ n := by
  have nd : l.Nodup := g.up.imp fun h => Nat.ne_of_lt h
  have z := sub_few nd (m := List.range n) fun k hk => List.mem_range.mpr (g.lt k hk)
  rw [List.length_range] at z
  exact z
def shortL : Sh → Prop
  | .tup ss => ss.length ≤ 900
  | _ => True
def spCheckGraph (K : PySem.W.Frag) : Sp := fun vs H Q _ => ∃ (x : V) (n : Nat) (es : List E2), vs = [x] ∧ GraphAt K H x n es ∧ Good n es ∧ ∀ H', Same H H' → Q .non H'
section
variable {P : Program} {w : World} {K : PySem.W.Frag} {mg : Str → Option Value} {base : Heap} {f fW fA fG fC fL fO : Addr} {fd dW dA dG dC dL dO : FuncData}
theorem ok_check_graph (F : L2.Fun K "check_graph" "check_graph" sCheckGraph f fd) (GG : FnOk P w K mg base CX0 4 fG dG ["value"] (spIsGraphA K)) (bG : L2.Binds K dG ["value"] []) (kG : PySem.W.keepIn K (.ref fG) = true) (mG : mg "is_graph" = some (.ref fG)) : FnOk P w K mg base CX0 5 f fd ["graph"] (spCheckGraph K) := by
  refine F.ok scCheckGraph (fun vs H Q E h => ?_) (fun cdv A outer s H vs Q E hr h => ?_)
  · obtain ⟨x, n, es, rfl, _⟩ := h
    rfl
  obtain ⟨x, n, es, rfl, hx, g, q⟩ := h
  refine ⟨_, pss_one (ps_if (pt_not (pt_val (pe_call GG (hr.mono (by decide)) (by rfl) mG kG bG .nil pass0 (pa_cons (pv 0) pa_nil)))) (pss_one ps_never) pss_nil), ?_⟩
  have few := g.few
  refine ⟨_, rfl, x, graphS n es, rfl, hx.sh, (by show (es.map pairS).length ≤ 900; rw [List.length_map]; omega), fun H' s' => ?_⟩
  rw [isGr_good g]
  exact ⟨_, rfl, iteF (q H' s')⟩
end
end My

set_option maxHeartbeats 2000000
/-! Sets of vertices as masks, in plain Lean. -/
namespace My
open PySem PySem.Spec PyProof.Rows L2
theorem and_nn (a b : Nat) : Builtin.bitAnd (a : Int) (b : Int) = ((a &&& b : Nat) : Int) := by
  rw [bitAnd_pp (by omega) (by omega), Int.toNat_natCast, Int.toNat_natCast]
theorem or_nn (a b : Nat) : Builtin.bitOr (a : Int) (b : Int) = ((a ||| b : Nat) : Int) := by
  have n1 : ∀ k : Nat, Builtin.bitNot (Builtin.bitNot (k : Int)) = (k : Int) := fun k => by unfold Builtin.bitNot; omega
  have n2 : ∀ k : Nat, ¬ 0 ≤ Builtin.bitNot (k : Int) := fun k => by unfold Builtin.bitNot; omega
  unfold Builtin.bitOr Builtin.bitAnd
  simp only [n2, decide_false]
  rw [n1, n1, n1, Int.toNat_natCast, Int.toNat_natCast]
def adjB (es : List E2) (u v : Nat) : Bool := decide ((min u v, max u v) ∈ es)
theorem adj_comm (es : List E2) (u v : Nat) : adjB es u v = adjB es v u := by
  unfold adjB
  rw [Nat.min_comm, Nat.max_comm]
theorem adj_ne {n : Nat} {es : List E2} (g : Good n es) {u v : Nat} (h : adjB es u v = true) : u ≠ v ∧ u < n ∧ v < n := by
  have z := g.lt _ (of_decide_eq_true h)
  dsimp only at z
  omega
def NbOk (n : Nat) (es : List E2) (nb : List Nat) : Prop := nb.length = n ∧ ∀ u, u < n → ∀ v, (nb.getD u 0).testBit v = adjB es u v
theorem nb_nil (n : Nat) : NbOk n [] (List.replicate n 0) := by
  refine ⟨List.length_replicate .., fun u hu v => ?_⟩
  rw [List.getD_eq_getElem?_getD, List.getElem?_replicate, if_pos hu]
  simp [adjB]
theorem bit_pow (a v : Nat) : (2 ^ a).testBit v = decide (a = v) := by
  rw [Nat.testBit_two_pow]
theorem nb_step {n : Nat} {l : List E2} {nb : List Nat} {a b : Nat} (h : NbOk n l nb) (ab : a < b) (bn : b < n) :
    NbOk n (l ++ [(a, b)]) ((nb.set a (nb.getD a 0 ||| 2 ^ b)).set b ((nb.set a (nb.getD a 0 ||| 2 ^ b)).getD b 0 ||| 2 ^ a)) := by
  obtain ⟨hl, hb⟩ := h
  refine ⟨by rw [List.length_set, List.length_set, hl], fun u hu v => ?_⟩
  have eb : (nb.set a (nb.getD a 0 ||| 2 ^ b)).getD b 0 = nb.getD b 0 := by
    rw [List.getD_eq_getElem?_getD, List.getElem?_set_ne (by omega), ← List.getD_eq_getElem?_getD]
  rw [eb]
  have ad : adjB (l ++ [(a, b)]) u v = (adjB l u v || (decide (u = a ∧ v = b) || decide (u = b ∧ v = a))) := by
    unfold adjB
    rw [Bool.eq_iff_iff]
    simp only [decide_eq_true_eq, Bool.or_eq_true, List.mem_append, List.mem_singleton, Prod.mk.injEq]
    constructor
    · rintro (z | ⟨z1, z2⟩)
      · exact .inl z
      · right
        omega
    · rintro (z | z | z)
      · exact .inl z
      · right; omega
      · right; omega
  rw [ad]
  by_cases c1 : u = b
  · subst c1
    rw [List.getD_eq_getElem?_getD, List.getElem?_set_self (by rw [List.length_set, hl]; exact hu)]
    show (nb.getD u 0 ||| 2 ^ a).testBit v = _
    rw [Nat.testBit_or, hb u hu, bit_pow]
    congr 1
    rw [Bool.eq_iff_iff, Bool.or_eq_true, decide_eq_true_eq, decide_eq_true_eq, decide_eq_true_eq]
    constructor
    · intro z
      exact .inr ⟨rfl, z.symm⟩
    · rintro (z | z)
      · exact absurd z.1 (by omega)
      · exact z.2.symm
  · rw [List.getD_eq_getElem?_getD, List.getElem?_set_ne (by omega)]
    by_cases c2 : u = a
    · subst c2
      rw [List.getElem?_set_self (by rw [hl]; exact hu)]
      show (nb.getD u 0 ||| 2 ^ b).testBit v = _
      rw [Nat.testBit_or, hb u hu, bit_pow]
      congr 1
      rw [Bool.eq_iff_iff, Bool.or_eq_true, decide_eq_true_eq, decide_eq_true_eq, decide_eq_true_eq]
      constructor
      · intro z
        exact .inl ⟨rfl, z.symm⟩
      · rintro (z | z)
        · exact z.2.symm
        · exact absurd z.1 c1
    · rw [List.getElem?_set_ne (by omega), ← List.getD_eq_getElem?_getD, hb u hu]
      have z : (decide (u = a ∧ v = b) || decide (u = b ∧ v = a)) = false := by
        rw [Bool.or_eq_false_iff]
        exact ⟨decide_eq_false (fun z => c2 z.1), decide_eq_false (fun z => c1 z.1)⟩
      rw [z, Bool.or_false]
/-! cliques -/
def Clq (es : List E2) (m : Nat) : Prop := ∀ u v, m.testBit u = true → m.testBit v = true → u ≠ v → adjB es u v = true
theorem sub_and (a b : Nat) : a &&& b = a ↔ ∀ v, a.testBit v = true → b.testBit v = true := by
  constructor
  · intro h v hv
    have z := congrArg (Nat.testBit · v) h
    simp only [Nat.testBit_and, hv, Bool.true_and] at z
    exact z
  · intro h
    refine Nat.eq_of_testBit_eq fun v => ?_
    rw [Nat.testBit_and]
    cases e : a.testBit v with
    | false => rfl
    | true => rw [h v e]; rfl
def FoundOk (es : List E2) (k : Nat) (found : List Nat) : Prop := found.Nodup ∧ ∀ m, m ∈ found ↔ m < 2 ^ k ∧ Clq es m
theorem found_nil (es : List E2) : FoundOk es 0 [0] := by
  refine ⟨by simp, fun m => ?_⟩
  rw [List.mem_singleton]
  constructor
  · rintro rfl
    exact ⟨by decide, fun u v h => by simp at h⟩
  · intro h
    have := h.1
    omega
def goOn (found : List Nat) (k near : Nat) : List Nat := found ++ (found.filter fun m => m &&& near == m).map (· ||| 2 ^ k)
theorem or_pow_bit {c k v : Nat} : (c ||| 2 ^ k).testBit v = (c.testBit v || decide (k = v)) := by rw [Nat.testBit_or, bit_pow]
theorem high_out {c k v : Nat} (h : c < 2 ^ k) (hv : k ≤ v) : c.testBit v = false := Nat.testBit_lt_two_pow (Nat.lt_of_lt_of_le h (Nat.pow_le_pow_right (by decide) hv))
theorem found_step {n : Nat} {es : List E2} {nb : List Nat} {found : List Nat} {k : Nat} (h : FoundOk es k found) (nk : NbOk n es nb) (kn : k < n) : FoundOk es (k + 1) (goOn found k (nb.getD k 0)) := by
  obtain ⟨nd, mem⟩ := h
  have low : ∀ m ∈ found, m < 2 ^ k := fun m hm => ((mem m).mp hm).1
  constructor
  · unfold goOn
    rw [List.nodup_append]
    refine ⟨nd, ?_, ?_⟩
    · show List.Pairwise _ _
      rw [List.pairwise_map]
      refine List.Pairwise.imp_of_mem ?_ (nd.filter _)
      intro x y hx hy ne e
      refine ne (?_ : x = y)
      refine Nat.eq_of_testBit_eq fun v => ?_
      have lx := low x (List.mem_filter.mp hx).1
      have ly := low y (List.mem_filter.mp hy).1
      have z := congrArg (Nat.testBit · v) e
      simp only [or_pow_bit] at z
      by_cases c : k = v
      · subst c
        rw [high_out lx (Nat.le_refl _), high_out ly (Nat.le_refl _)]
      · rw [decide_eq_false c, Bool.or_false, Bool.or_false] at z
        exact z
    · intro a ha b hb e
      subst e
      obtain ⟨c, hc, e⟩ := List.mem_map.mp hb
      have z := high_out (low a ha) (Nat.le_refl k)
      rw [← e, or_pow_bit, decide_eq_true rfl, Bool.or_true] at z
      cases z
  · intro m
    unfold goOn
    rw [List.mem_append, mem m, List.mem_map]
    constructor
    · rintro (⟨h1, h2⟩ | ⟨c, hc, rfl⟩)
      · exact ⟨Nat.lt_of_lt_of_le h1 (Nat.pow_le_pow_right (by decide) (Nat.le_succ k)), h2⟩
      · obtain ⟨hc, near⟩ := List.mem_filter.mp hc
        obtain ⟨lc, cl⟩ := (mem c).mp hc
        have sub := (sub_and c _).mp (by simpa using near)
        refine ⟨Nat.or_lt_two_pow (Nat.lt_of_lt_of_le lc (Nat.pow_le_pow_right (by decide) (Nat.le_succ k))) (Nat.pow_lt_pow_right (by decide) (Nat.lt_succ_self k)), fun u v hu hv ne => ?_⟩
        rw [or_pow_bit] at hu hv
        simp only [Bool.or_eq_true, decide_eq_true_eq] at hu hv
        rcases hu with hu | rfl
        · rcases hv with hv | rfl
          · exact cl u v hu hv ne
          · rw [adj_comm, ← nk.2 k kn]
            exact sub u hu
        · rcases hv with hv | rfl
          · rw [← nk.2 k kn]
            exact sub v hv
          · exact absurd rfl ne
    · rintro ⟨h1, h2⟩
      by_cases c : m.testBit k = true
      · right
        have le : m % 2 ^ k < 2 ^ k := Nat.mod_lt _ (Nat.two_pow_pos k)
        have bits : ∀ v, (m % 2 ^ k).testBit v = (decide (v < k) && m.testBit v) := fun v => Nat.testBit_mod_two_pow m k v
        refine ⟨m % 2 ^ k, List.mem_filter.mpr ⟨(mem _).mpr ⟨le, fun u v hu hv ne => ?_⟩, ?_⟩, ?_⟩
        · rw [bits, Bool.and_eq_true] at hu hv
          exact h2 u v hu.2 hv.2 ne
        · have s : m % 2 ^ k &&& nb.getD k 0 = m % 2 ^ k := (sub_and _ _).mpr fun v hv => by
            rw [bits, Bool.and_eq_true] at hv
            have lt := of_decide_eq_true hv.1
            rw [nk.2 k kn]
            exact h2 k v c hv.2 (by omega)
          simpa using s
        · refine Nat.eq_of_testBit_eq fun v => ?_
          rw [or_pow_bit, bits]
          by_cases e : k = v
          · subst e; simp [c]
          · by_cases l : v < k
            · simp [l, e]
            · have z : m.testBit v = false := high_out h1 (by omega)
              simp [l, e, z]
      · left
        refine ⟨?_, h2⟩
        refine Nat.lt_pow_two_of_testBit m fun v hv => ?_
        by_cases e : v = k
        · subst e; simpa using c
        · exact high_out h1 (by omega)
/-! lots as masks -/
def maskN (l : List Nat) : Nat := (l.map fun k => 2 ^ k).sum
theorem desc_lt : ∀ {l : List Nat} {k : Nat}, l.Pairwise (· > ·) → (∀ a ∈ l, a < k) → maskN l < 2 ^ k
  | [], k, _, _ => Nat.two_pow_pos k
  | a :: r, k, h, lt => by
    have ak := lt a (List.mem_cons_self ..)
    have ih := desc_lt (l := r) (k := a) (List.pairwise_cons.mp h).2 fun b hb => (List.pairwise_cons.mp h).1 b hb
    have e : maskN (a :: r) = 2 ^ a + maskN r := by unfold maskN; rw [List.map_cons, List.sum_cons]
    have z : 2 ^ (a + 1) ≤ 2 ^ k := Nat.pow_le_pow_right (by decide) ak
    rw [Nat.pow_succ] at z
    omega
theorem desc_bit : ∀ {l : List Nat}, l.Pairwise (· > ·) → ∀ v, (maskN l).testBit v = decide (v ∈ l)
  | [], _, v => by simp [maskN]
  | a :: r, h, v => by
    have lt := desc_lt (l := r) (k := a) (List.pairwise_cons.mp h).2 fun b hb => (List.pairwise_cons.mp h).1 b hb
    have ih := desc_bit (l := r) (List.pairwise_cons.mp h).2 v
    have e : maskN (a :: r) = 2 ^ a + maskN r := by unfold maskN; rw [List.map_cons, List.sum_cons]
    rw [e]
    rcases Nat.lt_trichotomy v a with c | c | c
    · rw [Nat.testBit_two_pow_add_gt c, ih]
      have ne : v ≠ a := by omega
      simp [ne]
    · subst c
      rw [Nat.testBit_two_pow_add_eq, high_out lt (Nat.le_refl _)]
      simp
    · have z : 2 ^ a + maskN r < 2 ^ (a + 1) := by rw [Nat.pow_succ]; omega
      rw [high_out z c]
      have n1 : v ≠ a := by omega
      have n2 : v ∉ r := fun hv => by have := (List.pairwise_cons.mp h).1 v hv; omega
      simp [n1, n2]
theorem mask_rev (l : List Nat) : maskN l.reverse = maskN l := by
  unfold maskN
  rw [List.map_reverse]
  exact List.sum_reverse _
theorem mask_bit {l : List Nat} (h : l.Pairwise (· < ·)) (v : Nat) : (maskN l).testBit v = decide (v ∈ l) := by
  rw [← mask_rev, desc_bit (List.pairwise_reverse.mpr h)]
  simp
/-- the lot of a mask's bits below n -/
def bitsN (n m : Nat) : List Nat := (List.range n).filter fun v => m.testBit v
theorem bits_up (n m : Nat) : (bitsN n m).Pairwise (· < ·) := (List.pairwise_lt_range).filter _
theorem mem_bits {n m v : Nat} : v ∈ bitsN n m ↔ v < n ∧ m.testBit v = true := by
  unfold bitsN
  rw [List.mem_filter, List.mem_range]
theorem mask_bits {n m : Nat} (h : m < 2 ^ n) : maskN (bitsN n m) = m := by
  refine Nat.eq_of_testBit_eq fun v => ?_
  rw [mask_bit (bits_up n m)]
  by_cases c : v < n
  · cases e : m.testBit v with
    | true => exact decide_eq_true (mem_bits.mpr ⟨c, e⟩)
    | false => exact decide_eq_false fun z => by rw [(mem_bits.mp z).2] at e; cases e
  · rw [high_out h (by omega)]
    exact decide_eq_false fun z => c (mem_bits.mp z).1
/-- two ascending lists with the same members -/
theorem eq_of_lt : ∀ {l m : List Nat}, l.Pairwise (· < ·) → m.Pairwise (· < ·) → (∀ k, k ∈ l ↔ k ∈ m) → l = m
  | [], [], _, _, _ => rfl
  | [], b :: m, _, _, h => absurd ((h b).mpr (List.mem_cons_self ..)) (by simp)
  | a :: l, [], _, _, h => absurd ((h a).mp (List.mem_cons_self ..)) (by simp)
  | a :: l, b :: m, hl, hm, h => by
    have l1 := (List.pairwise_cons.mp hl).1
    have m1 := (List.pairwise_cons.mp hm).1
    have e : a = b := by
      rcases List.mem_cons.mp ((h a).mp (List.mem_cons_self ..)) with e | e
      · exact e
      · rcases List.mem_cons.mp ((h b).mpr (List.mem_cons_self ..)) with e2 | e2
        · exact e2.symm
        · have := l1 b e2
          have := m1 a e
          omega
    subst e
    rw [eq_of_lt (List.pairwise_cons.mp hl).2 (List.pairwise_cons.mp hm).2 fun k => ?_]
    constructor
    · intro hk
      have := l1 k hk
      rcases List.mem_cons.mp ((h k).mp (List.mem_cons_of_mem _ hk)) with e | e
      · omega
      · exact e
    · intro hk
      have := m1 k hk
      rcases List.mem_cons.mp ((h k).mpr (List.mem_cons_of_mem _ hk)) with e | e
      · omega
      · exact e
theorem bits_mask {n : Nat} {l : List Nat} (h : l.Pairwise (· < ·)) (lt : ∀ k ∈ l, k < n) : bitsN n (maskN l) = l := by
  refine eq_of_lt (bits_up n _) h fun k => ?_
  rw [mem_bits, mask_bit h, decide_eq_true_eq]
  exact ⟨fun z => z.2, fun z => ⟨lt k z, z⟩⟩
/-- all of a list are adjacent two by two, or no two are -/
def PairB (es : List E2) (tied : Bool) (l : List Nat) : Prop := l.Pairwise fun u v => adjB es u v = tied
instance (es : List E2) (tied : Bool) (l : List Nat) : Decidable (PairB es tied l) := inferInstanceAs (Decidable (List.Pairwise _ l))
theorem pairB_mem {es : List E2} {tied : Bool} {l : List Nat} (nd : l.Nodup) : PairB es tied l ↔ ∀ u ∈ l, ∀ v ∈ l, u ≠ v → adjB es u v = tied := by
  unfold PairB
  constructor
  · intro h
    induction l with
    | nil => intro u hu; cases hu
    | cons a r ih =>
      obtain ⟨h1, h2⟩ := List.pairwise_cons.mp h
      have ih := ih (List.nodup_cons.mp nd).2 h2
      intro u hu v hv ne
      rcases List.mem_cons.mp hu with e1 | hu2
      · rcases List.mem_cons.mp hv with e2 | hv2
        · exact absurd (e1.trans e2.symm) ne
        · rw [e1]; exact h1 v hv2
      · rcases List.mem_cons.mp hv with e2 | hv2
        · rw [adj_comm, e2]; exact h1 u hu2
        · exact ih u hu2 v hv2 ne
  · intro h
    refine List.Pairwise.imp_of_mem (R := fun u v => u ≠ v) ?_ nd
    intro u v hu hv ne
    exact h u hu v hv ne
theorem clq_mask {es : List E2} {l : List Nat} (h : l.Pairwise (· < ·)) : Clq es (maskN l) ↔ PairB es true l := by
  rw [pairB_mem (h.imp fun z => Nat.ne_of_lt z)]
  constructor
  · intro c u hu v hv ne
    exact c u v (by rw [mask_bit h]; exact decide_eq_true hu) (by rw [mask_bit h]; exact decide_eq_true hv) ne
  · intro c u v hu hv ne
    rw [mask_bit h] at hu hv
    exact c u (of_decide_eq_true hu) v (of_decide_eq_true hv) ne
end My

set_option maxHeartbeats 4000000
namespace My
open PySem PySem.Spec PyProof.Rows L2
abbrev sMasks : Stmt := top 12
abbrev sLotOf : Stmt := top 13
theorem scLotOf : FnScope ["mask", "vertex"] ["mask"] (defScope sLotOf) := ⟨rfl, rfl, rfl, by decide +kernel, rfl, by decide +kernel, by decide +kernel⟩
theorem scMasks : FnScope ["graph", "many", "edges", "masks", "one", "other"] ["graph"] (defScope sMasks) := ⟨rfl, rfl, rfl, by decide +kernel, rfl, by decide +kernel, by decide +kernel⟩
def numsN (l : List Nat) : List V := l.map fun k => V.int ((k : Nat) : Int)
theorem numsN_len (l : List Nat) : (numsN l).length = l.length := List.length_map _
theorem numsN_set (l : List Nat) (j k : Nat) : (numsN l).set j (V.int ((k : Nat) : Int)) = numsN (l.set j k) := by
  unfold numsN
  rw [List.map_set]
theorem numsN_get {l : List Nat} {j : Nat} (h : j < l.length) : (numsN l)[j]? = some (V.int ((l.getD j 0 : Nat) : Int)) := by
  unfold numsN
  rw [List.getElem?_map, List.getElem?_eq_getElem h, List.getD_eq_getElem?_getD, List.getElem?_eq_getElem h]
  rfl
theorem ixN_of {n j : Nat} (h : j < n) : ixN n ((j : Nat) : Int) = some j := by
  unfold ixN
  rw [if_pos (by omega), if_pos (by omega), Int.toNat_natCast]
theorem shl_one (b : Nat) : (1 : Int) * 2 ^ ((b : Nat) : Int).toNat = ((2 ^ b : Nat) : Int) := by
  rw [Int.toNat_natCast, Int.one_mul, Int.natCast_pow]
  rfl
theorem or_shl (a b : Nat) : Builtin.bitOr ((a : Nat) : Int) ((1 : Int) * 2 ^ ((b : Nat) : Int).toNat) = ((a ||| 2 ^ b : Nat) : Int) := by
  rw [shl_one, or_nn]
def rGetN (K : PySem.W.Frag) : V → V → Hp → VK → Prop := fun x y H Q => ∃ (p : Addr) (xs : List V) (j : Nat) (v : V), x = .ref p ∧ y = .int (j : Int) ∧ SqL K H p xs ∧ xs[j]? = some v ∧ Q v H
section
variable {X : Cx}
theorem pget_list : PGet X (rGetN X.K) := by
  intro pins s σ H x y ov iv Q I rx ry h
  obtain ⟨p, xs, j, v, rfl, rfl, hq, he, q⟩ := h
  cases rx
  obtain ⟨t, rfl⟩ := ry
  obtain ⟨its, r, pl, hz⟩ := I.list hq
  obtain ⟨w, ew, rw'⟩ := r.get he
  have hn := line63
  have hj : j < xs.length := (List.getElem?_eq_some_iff.mp he).1
  exact wpAny_getItem_list pl.isList (by omega) (by omega) (by rw [Int.toNat_natCast]; simpa using ew) ⟨v, H, I, rw', q⟩
theorem ip_or : PIp X .BitOr (ipI fun i j => Builtin.bitOr i j) := by
  intro pins s σ H x y v u Q I r1 r2 h
  obtain ⟨i, j, e1, e2, q⟩ := h
  subst e1; subst e2
  obtain ⟨t, rfl⟩ := r1
  obtain ⟨t', rfl⟩ := r2
  exact ior_int ⟨.int _, H, I.tok _, ⟨_, rfl⟩, q⟩
end
def spMasks (K : PySem.W.Frag) : Sp := fun vs H Q _ => ∃ (x : V) (n : Nat) (es : List E2), vs = [x] ∧ GraphAt K H x n es ∧ Good n es ∧ ∀ (D : Addr) (nb : List Nat) H', H D = none → Same H H' → H' D = some (.lst (numsN nb)) → NbOk n es nb → Q (.ref D) H'
section
variable {P : Program} {w : World} {K : PySem.W.Frag} {mg : Str → Option Value} {base : Heap} {f : Addr} {fd : FuncData}
theorem ok_masks (F : L2.Fun K "neighbour_masks" "neighbour_masks" sMasks f fd) : FnOk P w K mg base CX0 1 f fd ["graph"] (spMasks K) := by
  refine F.ok scMasks (fun vs H Q E h => ?_) (fun cdv A outer s H vs Q E hr h => ?_)
  · obtain ⟨x, n, es, rfl, _⟩ := h
    rfl
  obtain ⟨x, n, es, rfl, ⟨t, e, xs, rfl, ht, he, hes⟩, g, q⟩ := h
  refine ⟨_, pss_cons (ps_asg (pv 0) (pg_tup (by rfl) (pgs_cons (pg_name (i := 1) scMasks.nd rfl (.inl rfl)) (pgs_cons (pg_name (i := 2) scMasks.nd rfl (.inl rfl)) pgs_nil))))
    (pss_cons (ps_set (i := 3) scMasks.nd rfl (.inl rfl) (pe_op op_rep (pe_lst (pa_cons pe_int pa_nil)) (pv 1)))
    (pss_cons (ps_for PassesOwn.never rfl (pi_tup (pv 2)) (pg_tup (by rfl) (pgs_cons (pg_name (i := 4) scMasks.nd rfl (.inl rfl)) (pgs_cons (pg_name (i := 5) scMasks.nd rfl (.inl rfl)) pgs_nil)))
      (pss_cons (ps_augS (pv 3) (pv 4) pget_list (pe_op op_shl pe_int (pv 5)) ip_or set_list)
      (pss_one (ps_augS (pv 3) (pv 5) pget_list (pe_op op_shl pe_int (pv 4)) ip_or set_list))))
    (pss_one (ps_ret (pv 3))))), ?_⟩
  have n9 := g.n9
  have few := g.few
  have le := PairsAt.len hes
  refine ⟨_, rfl, t, _, rfl, ht, rfl, _, _, rfl, _, _, rfl, rfl, ?_⟩
  refine ⟨(by show 1 ≤ sizeLine; rw [sizeLine_eq]; decide), fun z nz => ?_⟩
  have hz := upd_same (H := H) (a := z) (o := .lst [V.int 0])
  have sz := same_new nz (.lst [V.int 0])
  refine ⟨_, rfl, z, (n : Int), [.int 0], rfl, rfl, hz, by omega, by omega, small (by rw [Int.toNat_natCast, List.length_singleton]; omega), fun D nD => ?_⟩
  have e0 : (List.replicate ((n : Nat) : Int).toNat [V.int 0]).flatten = numsN (List.replicate n 0) := by
    rw [Int.toNat_natCast]
    unfold numsN
    rw [List.map_replicate, List.flatten_replicate_singleton]
    rfl
  rw [e0]
  have sD := same_new nD (.lst (numsN (List.replicate n 0)))
  have nD0 : H D = none := sz.free nD
  have s0 := sz.trans sD
  have hD := upd_same (H := upd H z (.lst [V.int 0])) (a := D) (o := .lst (numsN (List.replicate n 0)))
  generalize upd (upd H z (.lst [V.int 0])) D (.lst (numsN (List.replicate n 0))) = H0 at s0 hD sD ⊢
  refine ⟨_, rfl, e, rfl, ⟨_, Same.tup s0 he⟩, for_it (walk_tup (xs := xs)) (fun i σ H' => ∃ (nb : List Nat) (s4 s5 : Option V), σ = [some (.ref t), some (.int (n : Int)), some (.ref e), some (.ref D), s4, s5] ∧ Same H H' ∧ H' D = some (.lst (numsN nb)) ∧ NbOk n (es.take i) nb)
    ⟨_, none, none, rfl, s0, hD, nb_nil n⟩ (fun i σ H' _ ⟨_, _, _, _, s, _⟩ => Same.tup s he) ?_ ?_⟩
  · rintro i x σ H2 H3 li ⟨nb, s4, s5, rfl, s2, hD2, ok⟩ ⟨rfl, hi⟩
    obtain ⟨p, hp, u, rfl, hu⟩ := PairsAt.get (hes.same s2) hi
    obtain ⟨l1, l2⟩ := g.lt p (List.mem_of_getElem? hp)
    have ln := ok.1
    have ln2 : (nb.set p.1 (nb.getD p.1 0 ||| 2 ^ p.2)).length = n := by rw [List.length_set]; exact ln
    refine ⟨u, _, rfl, hu, rfl, _, _, rfl, _, _, rfl, rfl, ?_⟩
    refine ⟨_, rfl, _, rfl, D, _, p.1, _, rfl, rfl, SqL.of hD2, numsN_get (by omega), _, rfl, _, _, rfl, rfl, ⟨by omega, by omega, by decide⟩, _, _, rfl, rfl, D, _, _, p.1, rfl, rfl, hD2, by rw [numsN_len]; exact ixN_of (by omega), ?_⟩
    simp only [or_shl, numsN_set]
    have hD3 := upd_same (H := H3) (a := D) (o := .lst (numsN (nb.set p.1 (nb.getD p.1 0 ||| 2 ^ p.2))))
    have s3 := same_put (o := .lst (numsN (nb.set p.1 (nb.getD p.1 0 ||| 2 ^ p.2)))) s2 nD0
    generalize upd H3 D (.lst (numsN (nb.set p.1 (nb.getD p.1 0 ||| 2 ^ p.2)))) = H4 at hD3 s3 ⊢
    refine ⟨_, rfl, _, rfl, D, _, p.2, _, rfl, rfl, SqL.of hD3, numsN_get (by omega), _, rfl, _, _, rfl, rfl, ⟨by omega, by omega, by decide⟩, _, _, rfl, rfl, D, _, _, p.2, rfl, rfl, hD3, by rw [numsN_len]; exact ixN_of (by omega), ?_⟩
    simp only [or_shl, numsN_set]
    refine ⟨_, _, _, rfl, same_put s3 nD0, upd_same, ?_⟩
    rw [take_succ hp]
    exact nb_step ok l1 l2
  · rintro σ H2 ⟨nb, s4, s5, rfl, s2, hD2, ok⟩
    rw [le, List.take_length] at ok
    exact ⟨_, rfl, q D nb H2 nD0 s2 hD2 ok⟩
end
end My

set_option maxHeartbeats 4000000
namespace My
open PySem PySem.Spec PyProof.Rows L2
def spMaskOf (K : PySem.W.Frag) : Sp := fun vs H Q _ => ∃ (v : V) (l : List Nat), vs = [v] ∧ LotAt K H v l ∧ l.length ≤ 100 ∧ (∀ k ∈ l, k ≤ 100) ∧ ∀ H', Same H H' → Q (.int ((maskN l : Nat) : Int)) H'
def spLotOf (K : PySem.W.Frag) : Sp := fun vs H Q _ => ∃ (m n : Nat), vs = [.int (m : Int)] ∧ m < 2 ^ n ∧ n ≤ 9 ∧ ∀ (t : Addr) H', H t = none → Same H H' → H' t = some (.tup ((bitsN n m).map fun k => V.int ((k : Nat) : Int))) → Q (.ref t) H'
theorem sum_cast : ∀ l : List Nat, ((l.map fun k => ((2 ^ k : Nat) : Int)).sum) = ((maskN l : Nat) : Int)
  | [] => rfl
  | a :: r => by
    have ih := sum_cast r
    unfold maskN at ih ⊢
    rw [List.map_cons, List.sum_cons, ih, List.map_cons, List.sum_cons]
    omega
theorem bits_len_eq : ∀ n, n ≤ 9 → ∀ m : Nat, m < 2 ^ n → (List.range (Builtin.Int.intBits ((m : Nat) : Int))).filter (fun v => m.testBit v) = bitsN n m := by decide +kernel
theorem intBits_le : ∀ m : Nat, m < 512 → Builtin.Int.intBits ((m : Nat) : Int) ≤ 9 := by decide +kernel
theorem shr_bit (m v : Nat) : Builtin.bitAnd (((m : Nat) : Int) / 2 ^ ((v : Nat) : Int).toNat) 1 = if m.testBit v then 1 else 0 := by
  rw [Int.toNat_natCast]
  have e : ((m : Nat) : Int) / 2 ^ v = ((m / 2 ^ v : Nat) : Int) := by
    rw [Int.natCast_ediv, Int.natCast_pow]
    rfl
  rw [e, show (1 : Int) = ((1 : Nat) : Int) from rfl, and_nn]
  rw [Nat.testBit_eq_decide_div_mod_eq, Nat.and_one_is_mod]
  have z := Nat.mod_lt (m / 2 ^ v) (show 2 > 0 by decide)
  by_cases c : m / 2 ^ v % 2 = 1
  · rw [c]; simp
  · have : m / 2 ^ v % 2 = 0 := by omega
    rw [this]; simp
def tTruM (K : PySem.W.Frag) (te : TE) : TT := fun σ H Q => te σ H fun x H' => ∃ k, TruV K x H' k ∧ Q k H'
section
variable {P : Program} {w : World} {K : PySem.W.Frag} {mg : Str → Option Value} {base : Heap} {f : Addr} {fd : FuncData}
theorem ok_lot_of (F : L2.Fun K "lot_of" "lot_of" sLotOf f fd) (mr : mg "range" = none) (mt : mg "tuple" = none) : FnOk P w K mg base CX0 1 f fd ["mask"] (spLotOf K) := by
  refine F.ok scLotOf (fun vs H Q E h => ?_) (fun cdv A outer s H vs Q E hr h => ?_)
  · obtain ⟨m, n, rfl, _⟩ := h
    rfl
  obtain ⟨m, n, rfl, lt, n9, q⟩ := h
  refine ⟨_, pss_one (ps_ret (pe_callTy call_tuple_of (by rfl) mt (by decide +kernel) (pa_cons (pe_lc (own := [("vertex", 1)]) (g := gName 1) (tt := tTruM K (tOp (rI0 fun i j => .int (Builtin.bitAnd i j)) (tOp (rI (fun _ j => 0 ≤ j) fun i j => .int (i / 2 ^ j.toNat)) (tVar 0) (tVar 1)) (tC (.int 1)))) rfl scLotOf.nd (pi_range1 rfl mr (pa_cons (pe_bits (pv 0)) pa_nil))
        (blkOk_by (N := ["mask", "vertex"]) (sc := defScope sLotOf) (by decide +kernel)) (fun _ _ _ _ _ => pg_name (i := 1) scLotOf.nd rfl (Or.inl rfl)) (fun _ _ _ _ _ => pts_one (pt_truth (pe_op op_and (pe_op op_shr (pv 0) (pv 1)) pe_int) (by intro _; rfl))) (fun _ _ _ _ _ => pv 1)) pa_nil))), ?_⟩
  have l9 : m < 512 := Nat.lt_of_lt_of_le lt (Nat.pow_le_pow_right (by decide) n9)
  have b9 := intBits_le m l9
  refine ⟨_, rfl, _, rfl, _, rfl, by omega, by omega, fun D nD => lo_it (walk_range (lo := 0) (n := ((Builtin.Int.intBits ((m : Nat) : Int) : Nat) : Int).toNat)) (fun i H2 => Same H H2 ∧ H2 D = some (.lst (((List.range i).filter fun v => m.testBit v).map fun k => V.int ((k : Nat) : Int)))) ⟨same_new nD _, upd_same⟩ (fun _ _ _ _ => trivial) ?_ ?_⟩
  · rintro i x H2 _ li ⟨s2, hD⟩ ⟨rfl, ex⟩
    obtain rfl : x = V.int ((i : Nat) : Int) := ex.trans (congrArg V.int (Int.zero_add _))
    have few : ((List.range i).filter fun v => m.testBit v).length ≤ i := Nat.le_trans (List.length_filter_le _ _) (by rw [List.length_range]; exact Nat.le_refl _)
    refine ⟨rfl, ?_⟩
    refine ⟨_, rfl, _, rfl, _, _, rfl, rfl, by omega, _, _, rfl, rfl, _, rfl, ?_⟩
    simp only [shr_bit]
    cases e : m.testBit i with
    | true =>
      refine iteT ⟨_, rfl, _, hD, small1000 (by rw [List.length_map]; omega), same_put s2 nD, ?_⟩
      rw [upd_same, List.range_succ, List.filter_append, List.map_append, List.filter_cons_of_pos e]
      rfl
    | false =>
      refine iteF ⟨s2, ?_⟩
      rw [hD, List.range_succ, List.filter_append, List.filter_cons_of_neg (by rw [e]; decide), List.filter_nil, List.append_nil]
  · rintro H2 ⟨s2, hD⟩
    rw [Int.toNat_natCast, bits_len_eq n n9 m lt] at hD
    refine ⟨D, _, rfl, .inl ⟨SqL.of hD, fun l nl => ?_⟩⟩
    exact q l _ (s2.free nl) (s2.trans (same_new nl _)) upd_same
end
end My

set_option maxHeartbeats 4000000
/-! sorted of a list of tuples of ints of any lengths: all of them other than (), or the first one (). -/
namespace My
open PySem PySem.W PySem.Calls PyProof.Rows Builtin
section
variable {prog : Program} {w : World} {A : Around} {E : Value → Shared → Prop} {s : Shared}
theorem kat_ints {b fin : Bool} {Q : Bool → Shared → Prop} : ∀ {ps qs : List Value} {ns ms : List Int} (i : Nat), IntsAre ps ns → IntsAre qs ms → fin = decide (ps.length < qs.length) → Q (HT.lexLt ns ms) s → KatLex prog w A b fin Q (ps.zip qs) i s
  | _, _, _, _, i, .nil, .nil, hf, h => by
    have e : fin = false := by rw [hf]; rfl
    subst e
    exact kat_nil h
  | _, _, _, _, i, .nil, .cons c u t, hf, h => by
    have e : fin = true := by rw [hf]; exact decide_eq_true (by simp)
    subst e
    exact kat_nil h
  | _, _, _, _, i, .cons c u t, .nil, hf, h => by
    have e : fin = false := by rw [hf]; exact decide_eq_false (by simp)
    subst e
    exact kat_nil h
  | _, _, _, _, i, .cons a t r, .cons c u r', hf, h => by
    rw [HT.lexLt_cons] at h
    refine kat_cons (SeqAt.EqAt.int_int a t c u prog w _ _ ?_)
    refine kat_go (fun e1 => ?_) (fun e1 => ?_)
    · have ex : a = c := by simpa using e1
      rw [if_pos ex] at h
      refine kat_yes (kat_ints (i + 1) r r' ?_ h)
      rw [hf]
      simp
    · have ex : ¬ a = c := by simpa using e1
      rw [if_neg ex] at h
      refine kat_no ?_
      cases hb : (b && i == 0) with
      | true => exact oneLt_int h
      | false => exact kat_one _ _ (PyProof.Rows.lt_int h)
theorem tups_cmp {vs : List Value} {k : Value → List Int} (hp : ∀ v ∈ vs, TS.TupInts s.heap v (k v)) : SrtO.Cmp prog w A s (tuples' true) (fun p => p.1 ∈ vs) (SrtO.lt2 fun v u => HT.lexLt (k v) (k u)) := by
  intro p q hm hm'
  obtain ⟨a, xs, e, ⟨o, ho, hc, n, hd⟩, hi⟩ := hp _ hm
  obtain ⟨a', xs', e', ⟨o', ho', hc', n', hd'⟩, hi'⟩ := hp _ hm'
  show wpAny (model prog w) A (keyLt' (tuples' true) p.1 q.1) (fun r s' => s' = s ∧ r = HT.lexLt (k p.1) (k q.1)) (fun _ _ => False) s
  generalize k p.1 = kp at hi ⊢
  generalize k q.1 = kq at hi' ⊢
  rw [e, e']
  refine kat_lt ho hd ho' hd' ?_
  exact kat_ints 0 hi hi' (by rw [Array.length_toList, Array.length_toList]) ⟨rfl, rfl⟩
theorem tup_lt_call {a b : Addr} {dd dd2 : Option Addr} {items items2 : Array Value} {n n2 : Nat} {sl sl2 : Array (Option Value)} {ns ms : List Int} {Q : Value → Shared → Prop} (ga : s.heap.get? a = some { cls := .type "tuple", dict := dd, data := .seq items n, slots := sl })
    (gb : s.heap.get? b = some { cls := .type "tuple", dict := dd2, data := .seq items2 n2, slots := sl2 }) (ia : IntsAre items.toList ns) (ib : IntsAre items2.toList ms) (h : Q (.bool (HT.lexLt ns ms)) s) : wpAny (model prog w) A (call (.builtin "tuple.__lt__") [.ref a, .ref b]) Q E s := by
  have tp : s.TypeIs (.ref a) "tuple" := ⟨_, ga, rfl⟩
  refine wpAny_call (codeAny_call_builtin PySem.F.slot_tuple_lt.plain PySem.F.entry_tuple_lt (PySem.F.slot_tuple_lt.check _ _ _ _ _ _ _ _ tp (PySem.F.args_tuple_lt_2 _ _) ?_))
  refine wpAny_mono (HT.tuple_lt_ints a b items items2 n n2 dd dd2 sl sl2 ns ms ia ib prog w _ (wants Q E) s ⟨ga, gb, h⟩) (fun fin s' q => ?_) fun _ _ z => z
  cases fin with
  | done f => exact q
  | again c => exact q
theorem tups_lt {v u : Value} {ns ms : List Int} {Q : Bool → Shared → Prop} (hu : A.units < cLine) (hv : TS.TupInts s.heap v ns) (hw : TS.TupInts s.heap u ms) (h : Q (HT.lexLt ns ms) s) : wpAny (model prog w) A (keyLt' oneType' v u) Q E s := by
  obtain ⟨a, xs, rfl, hl, hi⟩ := hv
  obtain ⟨b, ys, rfl, hb, hj⟩ := hw
  obtain ⟨⟨cls, dd, data, sl⟩, ho, hc, n, hd⟩ := id hl
  obtain ⟨⟨cls2, dd2, data2, sl2⟩, ho2, hc2, n2, hd2⟩ := id hb
  simp only at hc hd hc2 hd2
  subst hc hd hc2 hd2
  rw [keyLt'_oneType, oneLt'_eq]
  simp only [if_true]
  refine wpAny_bind (wpAny_cRoomFor hu ?_)
  have tp : s.TypeIs (.ref a) "tuple" := ⟨_, ho, rfl⟩
  refine wpAny_bind (wpAny_callSpecialIfBound?_slot tp PySem.F.slot_tuple_lt (tup_lt_call ho ho2 hi hj ?_))
  exact wpAny_truthy_bool h
theorem tups_cmp1 {vs : List Value} {k : Value → List Int} (hu : A.units < cLine) (hp : ∀ v ∈ vs, TS.TupInts s.heap v (k v)) : SrtO.Cmp prog w A s oneType' (fun p => p.1 ∈ vs) (SrtO.lt2 fun v u => HT.lexLt (k v) (k u)) := by
  intro p q hm hm'
  exact tups_lt (Q := fun r s' => s' = s ∧ r = HT.lexLt (k p.1) (k q.1)) (E := fun _ _ => False) hu (hp _ hm) (hp _ hm') ⟨rfl, rfl⟩
end
section
variable {M : Model} {A : Around} {E : Value → Shared → Prop} {s : Shared}
theorem tup_type {v : Value} {ns : List Int} (h : TS.TupInts s.heap v ns) : Looks M s.heap (typeOf v) (.type "tuple") := by
  obtain ⟨a, xs, rfl, ⟨o, ho, hc, n, hd⟩, hi⟩ := h
  have z : Looks M s.heap (typeOf (.ref a)) o.cls := (Looks.ld ho).andThen .now
  rw [hc] at z
  exact z
theorem tup_firsts : ∀ (vs : List Value) (k : Value → List Int) {Q : List (Option Value) → Shared → Prop}, (∀ v ∈ vs, TS.TupInts s.heap v (k v)) → (∀ fs : List (Option Value), (∀ v r, vs = v :: r → k v = [] → ∃ t, fs = none :: t) → Q fs s) → wpAny M A (vs.mapM firstOfTuple') Q E s
  | [], k, Q, _, h => by
    rw [List.mapM_nil]
    exact wpAny_pure (h [] fun v r e => by cases e)
  | v :: vs, k, Q, hp, h => by
    have tv := tup_type (M := M) (hp v (List.mem_cons_self ..))
    obtain ⟨a, xs, rfl, ⟨o, ho, hc, n, hd⟩, hi⟩ := hp v (List.mem_cons_self ..)
    rw [List.mapM_cons]
    refine wpAny_bind ?_
    rw [kas_first_eq]
    refine wpAny_bind (tv.here ?_)
    rw [if_neg (by first | decide | simp)]
    refine wpAny_bind (listItems_at ho hd (wpAny_pure ?_))
    refine wpAny_bind (tup_firsts vs k (fun u hu => hp u (List.mem_cons_of_mem _ hu)) fun fs _ => wpAny_pure (h _ fun v r e en => ?_))
    cases e
    rw [en] at hi
    refine ⟨fs, ?_⟩
    have e0 : xs.toList = [] := by
      cases xs with
      | mk l => cases hi; rfl
    have e1 : xs = #[] := by
      cases xs with
      | mk l => exact congrArg Array.mk e0
    rw [e1]
    rfl
theorem tups_kind1 {vs : List Value} {k : Value → List Int} {v0 : Value} {r : List Value} {Q : SortKind → Shared → Prop} (e0 : vs = v0 :: r) (k0 : k v0 = []) (hp : ∀ v ∈ vs, TS.TupInts s.heap v (k v)) (h : Q oneType' s) : wpAny M A (keyKind' vs.toArray) Q E s := by
  subst e0
  rw [keyKind'_eq, List.mapM_toArray, map_eq_pure_bind]
  refine wpAny_bind (wpAny_bind (tup_firsts _ k hp fun fs hf => wpAny_pure ?_))
  obtain ⟨t, rfl⟩ := hf v0 r rfl k0
  rw [if_neg (by simp), if_neg (by simp)]
  rw [oneTypeOnly'_eq, List.mapM_toArray, map_eq_pure_bind]
  refine wpAny_bind (wpAny_bind (wpAny_bind (kas_mapM (r := Value.type "tuple") _ (fun v hv Q' hq => (tup_type (hp v hv)).here hq) (wpAny_pure ?_))))
  have hall : ((List.map (fun _ => Value.type "tuple") (v0 :: r)).toArray.all fun x => x == Value.type "tuple") = true := by
    simp only [List.all_toArray, List.all_map, List.all_eq_true]
    intro _ _
    rfl
  have h0 : (List.map (fun _ => Value.type "tuple") (v0 :: r)).toArray[0]? = some (Value.type "tuple") := by simp
  rw [h0]
  simp only [hall, if_true]
  exact wpAny_pure (wpAny_pure h)
theorem tups_heads {h : Heap} : ∀ {vs : List Value} {k : Value → List Int}, (∀ v ∈ vs, TS.TupInts h v (k v)) → (∀ v ∈ vs, k v ≠ []) → ∃ fs : List Value, KatTups h vs fs ∧ fs.length = vs.length ∧ ∀ f ∈ fs, ∃ x t, f = Value.int x t
  | [], _, _, _ => ⟨[], KatTups.nil, rfl, fun _ hm => by simp at hm⟩
  | v :: vs, k, hp, ne => by
    obtain ⟨fs, h1, h2, h3⟩ := tups_heads (vs := vs) (k := k) (fun v' hm => hp v' (List.mem_cons_of_mem _ hm)) fun v' hm => ne v' (List.mem_cons_of_mem _ hm)
    obtain ⟨a, xs, rfl, ⟨o, ho, hc, n, hd⟩, hi⟩ := hp v (List.mem_cons_self ..)
    have nv := ne _ (List.mem_cons_self ..)
    generalize k (Value.ref a) = kv at hi nv
    cases xs with
    | mk l =>
      cases hi with
      | nil => exact absurd rfl nv
      | cons x t ht =>
        rename_i vs' ns'
        refine ⟨.int x t :: fs, KatTups.cons ho hc hd rfl h1, by rw [List.length_cons, List.length_cons, h2], fun f hm => ?_⟩
        rcases List.mem_cons.mp hm with rfl | hm
        · exact ⟨x, t, rfl⟩
        · exact h3 f hm
end
section
variable {prog : Program} {w : World} {A : Around} {E : Value → Shared → Prop} {s : Shared}
/-- none of them (), or the first one () -/
def Sortish (ks : List (List Int)) : Prop := (∀ k ∈ ks, k ≠ []) ∨ ∃ r, ks = [] :: r
theorem tups_sortable {a : Addr} {vs : List Value} {k : Value → List Int} (hu : A.units < cLine) (h2 : 2 ≤ vs.length) (hp : ∀ v ∈ vs, TS.TupInts s.heap v (k v)) (si : Sortish (vs.map k)) (ha : ∀ v ∈ vs, v ≠ .ref a) :
    SrtO.SortableO prog w A s a vs fun v u => HT.lexLt (k v) (k u) := by
  intro h' keep
  have hp' : ∀ v ∈ vs, TS.TupInts h' v (k v) := fun v hm => by
    obtain ⟨b, xs, e, ⟨o, ho, hc⟩, hi⟩ := hp v hm
    exact ⟨b, xs, e, ⟨o, keep b o (fun z => ha v hm (by rw [e, z])) ho, hc⟩, hi⟩
  rcases si with ne | ⟨r, e⟩
  · obtain ⟨fs, h1, h3, h4⟩ := tups_heads hp' fun v hm => ne _ (List.mem_map.mpr ⟨v, hm, rfl⟩)
    refine ⟨tuples' true, fun Q E hq => ?_, tups_cmp (s := { s with heap := h' }) hp'⟩
    refine kat_kind (s := { s with heap := h' }) (T := .type "int") h1 (by omega) (fun f hm => ?_) (by rfl) ?_
    · obtain ⟨x, t, rfl⟩ := h4 f hm
      exact Looks.now
    · have e : (Value.type "int" != Value.type "tuple") = true := by first | decide +kernel | rfl | decide
      rw [e]
      exact hq
  · refine ⟨oneType', fun Q E hq => ?_, tups_cmp1 (s := { s with heap := h' }) hu hp'⟩
    cases vs with
    | nil => cases e
    | cons v0 vr =>
      rw [List.map_cons] at e
      exact tups_kind1 (s := { s with heap := h' }) rfl (List.cons.inj e).1 hp' hq
end
end My
namespace L2
open PySem PySem.Spec PyProof.Rows
/-- sorted(xs), xs a list of tuples of ints (k says which): a new list, sorted, equal ones in their order -/
def rSortTI (K : PySem.W.Frag) : List V → Hp → VK → Prop := fun vs H Q => ∃ (a : Addr) (xs : List V) (k : V → List Int), vs = [V.ref a] ∧ SqL K H a xs ∧ (∀ x ∈ xs, ∃ t, x = V.ref t ∧ SqT K H t ((k x).map V.int)) ∧ (xs.length < 2 ∨ My.Sortish (xs.map k)) ∧
  ∀ ys p, SrtO.Srtd (fun x y => HT.lexLt (k x) (k y)) ys → SrtO.Stb (fun x y => HT.lexLt (k x) (k y)) ys xs → H p = none → Q (.ref p) (upd H p (.lst ys))
section
variable {X : Cx}
theorem cr_sortTI (hu : X.A.units + 64 < cLine) : CallR X (.builtin "sorted") (rSortTI X.K) := by
  intro pins s σ H vs us Q I r h
  obtain ⟨a, xs, k, rfl, hs, hx, si, q⟩ := h
  obtain ⟨its, rv, hl, hz⟩ := I.list hs
  rw [Vals.ref1 r]
  obtain ⟨e1, e2⟩ := bkV_refs rv fun x m => by
    obtain ⟨t, e, _⟩ := hx x m
    exact ⟨t, e⟩
  have hp : ∀ v ∈ its, TS.TupInts s.heap v (k (bkV v)) := fun v hv => by
    obtain ⟨t, rfl⟩ := e2 v hv
    have hm : V.ref t ∈ xs := by rw [e1]; exact List.mem_map.mpr ⟨_, hv, rfl⟩
    obtain ⟨t', e, ht⟩ := hx _ hm
    cases e
    exact tupI_raw I ht
  refine SrtO.sorted_ord (NtL.swo_lexL fun u => k (bkV u)) hl.isList (by rw [← rv.length]; exact hz) (fun h2 h₁ b hb kp => ?_) fun out h1 h2 => ?_
  · refine My.tups_sortable (s := { s with heap := h₁ }) (k := fun u => k (bkV u)) ?_ h2 (fun v hv => ?_) ?_ fun v hv e => ?_
    · show X.A.units + _ + _ < cLine
      omega
    · obtain ⟨c, ys, e, ⟨o, ho, hc⟩, hi⟩ := hp v hv
      exact ⟨c, ys, e, ⟨o, (kp c o ho).2, hc⟩, hi⟩
    · rcases si with l2 | si
      · rw [rv.length] at l2
        omega
      · rw [e1, List.map_map] at si
        exact si
    · obtain ⟨c, ys, e', ⟨o, ho, hc⟩, hi⟩ := hp v hv
      rw [e'] at e
      cases e
      exact (kp _ o ho).1 rfl
  · obtain ⟨ep, he'⟩ := PyProof.Rows.sortedAll_at s.heap its out.toArray
    have h3 : ∀ u ∈ out, ∃ a, u = Value.ref a := fun u hu => e2 u (h2.perm.mem_iff.mp hu)
    have hb : SrtO.Stb (fun x y => HT.lexLt (k x) (k y)) (out.map bkV) xs := by
      rw [e1]
      exact SrtO.Stb.map (NtL.swo_lexL k) bkV h2
    have hlen : (out.map bkV).length ≤ sizeLine := by
      rw [hb.perm.length_eq]
      exact hz
    exact ⟨.ref _, upd H (s.heap.objs.size + 1) (.lst (out.map bkV)), I.laid (t' := s.toks) (fun _ _ => PyProof.Rows.sortedAll_old) (Nat.le_succ _) ⟨hlen, out, ep, bkV_vals h3, he'⟩, rfl, q _ _ (SrtO.srtd_map h1) hb (I.hok.fresh (Nat.le_succ _))⟩
end
end L2

set_option maxHeartbeats 4000000
/-! Lists of lots in the heap, sorted ones. -/
namespace My
open PySem PySem.Spec PyProof.Rows L2
def natV (l : List Nat) : List V := l.map fun k => V.int ((k : Nat) : Int)
def natI (l : List Nat) : List Int := l.map fun k => ((k : Nat) : Int)
theorem natV_eq (l : List Nat) : (natI l).map V.int = natV l := by unfold natI natV; rw [List.map_map]; rfl
theorem natI_inj : ∀ {l m : List Nat}, natI l = natI m → l = m
  | [], [], _ => rfl
  | [], _ :: _, h => by cases h
  | _ :: _, [], h => by cases h
  | a :: l, b :: m, h => by
    obtain ⟨h1, h2⟩ := List.cons.inj (show ((a : Nat) : Int) :: natI l = ((b : Nat) : Int) :: natI m from h)
    rw [Int.ofNat.inj h1, natI_inj h2]
theorem natV_inj : ∀ {l m : List Nat}, natV l = natV m → l = m
  | [], [], _ => rfl
  | [], _ :: _, h => by cases h
  | _ :: _, [], h => by cases h
  | a :: l, b :: m, h => by
    obtain ⟨h1, h2⟩ := List.cons.inj (show V.int ((a : Nat) : Int) :: natV l = V.int ((b : Nat) : Int) :: natV m from h)
    injection h1 with h1
    rw [Int.ofNat.inj h1, natV_inj h2]
/-- a tuple of this lot -/
def LotT (H : Hp) (x : V) (l : List Nat) : Prop := ∃ t, x = .ref t ∧ H t = some (.tup (natV l))
theorem LotT.same {H H' : Hp} (s : Same H H') {x : V} {l : List Nat} (h : LotT H x l) : LotT H' x l := by
  obtain ⟨t, e, h⟩ := h
  exact ⟨t, e, s _ _ h⟩
theorem LotT.uniq {H : Hp} {x : V} {l m : List Nat} (h : LotT H x l) (h' : LotT H x m) : l = m := by
  obtain ⟨t, rfl, h⟩ := h
  obtain ⟨t', e, h'⟩ := h'
  cases e
  rw [h] at h'
  injection h' with h'
  injection h' with h'
  exact natV_inj h'
inductive LotsT (H : Hp) : List V → List (List Nat) → Prop
  | nil : LotsT H [] []
  | cons {x : V} {l : List Nat} {xs : List V} {ls : List (List Nat)} : LotT H x l → LotsT H xs ls → LotsT H (x :: xs) (l :: ls)
theorem LotsT.same {H H' : Hp} (s : Same H H') {xs : List V} {ls : List (List Nat)} (h : LotsT H xs ls) : LotsT H' xs ls := by
  induction h with
  | nil => exact .nil
  | cons a _ ih => exact .cons (a.same s) ih
theorem LotsT.len {H : Hp} {xs : List V} {ls : List (List Nat)} (h : LotsT H xs ls) : xs.length = ls.length := by
  induction h with
  | nil => rfl
  | cons _ _ ih => rw [List.length_cons, List.length_cons, ih]
theorem LotsT.snoc {H : Hp} {xs : List V} {ls : List (List Nat)} {x : V} {l : List Nat} (h : LotsT H xs ls) (hx : LotT H x l) : LotsT H (xs ++ [x]) (ls ++ [l]) := by
  induction h with
  | nil => exact .cons hx .nil
  | cons a _ ih => exact .cons a ih
theorem LotsT.app {H : Hp} {xs ys : List V} {ls ms : List (List Nat)} (h : LotsT H xs ls) (h' : LotsT H ys ms) : LotsT H (xs ++ ys) (ls ++ ms) := by
  induction h with
  | nil => exact h'
  | cons a _ ih => exact .cons a ih
theorem LotsT.get {H : Hp} {xs : List V} {ls : List (List Nat)} (h : LotsT H xs ls) {i : Nat} {x : V} (hi : xs[i]? = some x) : ∃ l, ls[i]? = some l ∧ LotT H x l := by
  induction h generalizing i with
  | nil => simp at hi
  | cons a _ ih =>
    cases i with
    | zero =>
      cases hi
      exact ⟨_, rfl, a⟩
    | succ i => exact ih hi
theorem LotT.put {H : Hp} {B : Addr} {ys : List V} {o : HO} (hB : H B = some (.lst ys)) {x : V} {l : List Nat} (h : LotT H x l) : LotT (upd H B o) x l := by
  obtain ⟨t, e, h⟩ := h
  have ne : t ≠ B := fun z => by
    rw [z, hB] at h
    cases h
  exact ⟨t, e, by rw [upd_ne ne]; exact h⟩
theorem LotsT.put {H : Hp} {B : Addr} {ys : List V} {o : HO} (hB : H B = some (.lst ys)) {xs : List V} {ls : List (List Nat)} (h : LotsT H xs ls) : LotsT (upd H B o) xs ls := by
  induction h with
  | nil => exact .nil
  | cons a _ ih => exact .cons (a.put hB) ih
open Classical in
noncomputable def kN (H : Hp) (x : V) : List Nat := if h : ∃ l, LotT H x l then h.choose else []
theorem kN_at {H : Hp} {x : V} {l : List Nat} (h : LotT H x l) : kN H x = l := by
  unfold kN
  rw [dif_pos ⟨l, h⟩]
  exact (Classical.choose_spec (⟨l, h⟩ : ∃ l, LotT H x l)).uniq h
theorem LotsT.mem {H : Hp} {xs : List V} {ls : List (List Nat)} (h : LotsT H xs ls) : ∀ x ∈ xs, LotT H x (kN H x) := by
  induction h with
  | nil => intro x hx; cases hx
  | cons a _ ih =>
    intro x hx
    rcases List.mem_cons.mp hx with rfl | hx
    · rw [kN_at a]; exact a
    · exact ih x hx
theorem LotsT.map {H : Hp} {xs : List V} {ls : List (List Nat)} (h : LotsT H xs ls) : xs.map (kN H) = ls := by
  induction h with
  | nil => rfl
  | cons a _ ih => rw [List.map_cons, kN_at a, ih]
theorem LotsT.of_mem {H : Hp} : ∀ {ys : List V}, (∀ y ∈ ys, LotT H y (kN H y)) → LotsT H ys (ys.map (kN H))
  | [], _ => .nil
  | y :: ys, h => .cons (h y (List.mem_cons_self ..)) (LotsT.of_mem fun z hz => h z (List.mem_cons_of_mem _ hz))
/-- ahead of, as tuples are compared -/
def ltL (a b : List Nat) : Prop := HT.lexLt (natI a) (natI b) = true
theorem ltL_asym {a b : List Nat} (h : ltL a b) : ¬ ltL b a := fun h' => by
  have z := NtL.lex_asym _ _ h
  unfold ltL at h'
  rw [z] at h'
  cases h'
theorem lex_same : ∀ {a b : List Int}, HT.lexLt a b = false → HT.lexLt b a = false → a = b
  | [], [], _, _ => rfl
  | [], b :: bs, h, _ => by rw [HT.lexLt_nil_cons] at h; cases h
  | a :: as, [], _, h => by rw [HT.lexLt_nil_cons] at h; cases h
  | a :: as, b :: bs, h, h' => by
    rw [HT.lexLt_cons] at h h'
    by_cases e : a = b
    · rw [if_pos e] at h
      rw [if_pos e.symm] at h'
      rw [e, lex_same h h']
    · rw [if_neg e] at h
      rw [if_neg (Ne.symm e)] at h'
      have := of_decide_eq_false h
      have := of_decide_eq_false h'
      omega
/-- two lists that ascend, with the same members -/
theorem eq_of_ltL : ∀ {l m : List (List Nat)}, l.Pairwise ltL → m.Pairwise ltL → (∀ k, k ∈ l ↔ k ∈ m) → l = m
  | [], [], _, _, _ => rfl
  | [], b :: m, _, _, h => absurd ((h b).mpr (List.mem_cons_self ..)) (by simp)
  | a :: l, [], _, _, h => absurd ((h a).mp (List.mem_cons_self ..)) (by simp)
  | a :: l, b :: m, hl, hm, h => by
    have l1 := (List.pairwise_cons.mp hl).1
    have m1 := (List.pairwise_cons.mp hm).1
    have irr : ∀ k : List Nat, ¬ ltL k k := fun k z => ltL_asym z z
    have e : a = b := by
      rcases List.mem_cons.mp ((h a).mp (List.mem_cons_self ..)) with e | e
      · exact e
      · rcases List.mem_cons.mp ((h b).mpr (List.mem_cons_self ..)) with e2 | e2
        · exact e2.symm
        · exact absurd (m1 a e) (ltL_asym (l1 b e2))
    subst e
    rw [eq_of_ltL (List.pairwise_cons.mp hl).2 (List.pairwise_cons.mp hm).2 fun k => ?_]
    constructor
    · intro hk
      rcases List.mem_cons.mp ((h k).mp (List.mem_cons_of_mem _ hk)) with e | e
      · rw [e] at hk
        exact absurd (l1 a hk) (irr a)
      · exact e
    · intro hk
      rcases List.mem_cons.mp ((h k).mpr (List.mem_cons_of_mem _ hk)) with e | e
      · rw [e] at hk
        exact absurd (m1 a hk) (irr a)
      · exact e
/-- sorted lots, none twice, ascend -/
theorem sorted_lots {H : Hp} {xs ys : List V} {ls : List (List Nat)} (h : LotsT H xs ls) (nd : ls.Nodup) (so : SrtO.Srtd (fun x y => HT.lexLt (natI (kN H x)) (natI (kN H y))) ys) (st : SrtO.Stb (fun x y => HT.lexLt (natI (kN H x)) (natI (kN H y))) ys xs) :
    LotsT H ys (ys.map (kN H)) ∧ (ys.map (kN H)).Pairwise ltL ∧ (ys.map (kN H)).Perm ls := by
  have pm : (ys.map (kN H)).Perm ls := by
    have z := st.perm.map (kN H)
    rw [h.map] at z
    exact z
  refine ⟨LotsT.of_mem fun y hy => h.mem y (st.perm.mem_iff.mp hy), ?_, pm⟩
  have nd2 : (ys.map (kN H)).Nodup := pm.nodup_iff.mpr nd
  rw [List.pairwise_map]
  refine (so.and (List.pairwise_map.mp nd2)).imp ?_
  intro a b ⟨le, ne⟩
  have le2 : HT.lexLt (natI (kN H b)) (natI (kN H a)) = false := le
  unfold ltL
  cases e : HT.lexLt (natI (kN H a)) (natI (kN H b)) with
  | true => rfl
  | false => exact absurd (natI_inj (lex_same e le2)) ne
theorem sortish_ne {ls : List (List Nat)} (h : ∀ l ∈ ls, l ≠ []) : Sortish (ls.map natI) := .inl fun k hk => by
  obtain ⟨l, hl, rfl⟩ := List.mem_map.mp hk
  intro z
  exact h l hl (natI_inj (m := []) z)
theorem sortish_nil (r : List (List Nat)) : Sortish (([] :: r).map natI) := .inr ⟨r.map natI, rfl⟩
/-- what sorted asks of lots -/
theorem lots_sort {K : PySem.W.Frag} {H : Hp} {xs : List V} {ls : List (List Nat)} (h : LotsT H xs ls) (si : Sortish (ls.map natI) ∨ ls.length < 2) :
    (∀ x ∈ xs, ∃ t, x = V.ref t ∧ SqT K H t ((natI (kN H x)).map V.int)) ∧ (xs.length < 2 ∨ Sortish (xs.map fun x => natI (kN H x))) := by
  refine ⟨fun x hx => ?_, ?_⟩
  · obtain ⟨t, e, ht⟩ := h.mem x hx
    refine ⟨t, e, SqT.of ?_⟩
    rw [natV_eq]
    exact ht
  · rcases si with ne | l2
    · right
      have e : xs.map (fun x => natI (kN H x)) = ls.map natI := by
        rw [← h.map, List.map_map]
        rfl
      rw [e]
      exact ne
    · left
      rw [h.len]
      exact l2
end My

set_option maxHeartbeats 4000000
/-! Clique numbers of masks, in plain Lean. -/
namespace My
open PySem PySem.Spec PyProof.Rows L2
def sizeN (c : Nat) : Nat := (bitsN 9 c).length
theorem size_flip : ∀ c : Nat, c < 512 → ∀ g : Nat, g < 9 → c.testBit g = true → sizeN (c ^^^ 2 ^ g) + 1 = sizeN c := by decide +kernel
/-- the number of the greatest bit -/
def topN (m : Nat) : Nat := Builtin.Int.intBits ((m : Nat) : Int) - 1
theorem top_ok : ∀ m : Nat, m < 512 → 1 ≤ m → Builtin.Int.intBits ((m : Nat) : Int) = topN m + 1 ∧ topN m < 9 ∧ m.testBit (topN m) = true ∧ m < 2 ^ (topN m + 1) ∧ 2 ^ topN m ≤ m := by decide +kernel
def SubN (c m : Nat) : Prop := ∀ u, c.testBit u = true → m.testBit u = true
theorem SubN.le {c m : Nat} (h : SubN c m) : c ≤ m := by
  rw [← (sub_and c m).mpr h]
  exact Nat.and_le_right
def CnOk (es : List E2) (m v : Nat) : Prop := (∃ c, SubN c m ∧ Clq es c ∧ sizeN c = v) ∧ ∀ c, SubN c m → Clq es c → sizeN c ≤ v
theorem cn_zero (es : List E2) : CnOk es 0 0 := by
  refine ⟨⟨0, fun u h => h, fun u v h => by simp at h, rfl⟩, fun c h _ => ?_⟩
  have := h.le
  have : c = 0 := by omega
  rw [this]
  exact Nat.le_of_eq rfl
theorem xor_bit (m g u : Nat) : (m ^^^ 2 ^ g).testBit u = (m.testBit u ^^ decide (g = u)) := by rw [Nat.testBit_xor, bit_pow]
theorem cn_step {n : Nat} {es : List E2} {nb : List Nat} {m v1 v2 : Nat} (gd : Good n es) (ok : NbOk n es nb) (lt : m < 2 ^ n) (m1 : 1 ≤ m) (h1 : CnOk es (m ^^^ 2 ^ topN m) v1) (h2 : CnOk es (m &&& nb.getD (topN m) 0) v2) : CnOk es m (max v1 (1 + v2)) := by
  have n9 := gd.n9
  have m9 : m < 512 := Nat.lt_of_lt_of_le lt (Nat.pow_le_pow_right (by decide) n9)
  obtain ⟨_, t9, tb, _, _⟩ := top_ok m m9 m1
  generalize topN m = g at h1 h2 t9 tb
  have gn : g < n := by
    by_cases c : g < n
    · exact c
    · rw [high_out lt (by omega)] at tb
      cases tb
  have gg : adjB es g g = false := by
    cases e : adjB es g g with
    | false => rfl
    | true => exact absurd rfl (adj_ne gd e).1
  obtain ⟨⟨c1, s1, q1, e1⟩, u1⟩ := h1
  obtain ⟨⟨c2, s2, q2, e2⟩, u2⟩ := h2
  have lift1 : ∀ c, SubN c (m ^^^ 2 ^ g) → SubN c m := fun c s u hu => by
    have z := s u hu
    rw [xor_bit] at z
    by_cases e : g = u
    · rw [← e]; exact tb
    · rw [decide_eq_false e, Bool.xor_false] at z
      exact z
  have in2 : ∀ u, (m &&& nb.getD g 0).testBit u = true → m.testBit u = true ∧ adjB es g u = true := fun u hu => by
    rw [Nat.testBit_and, Bool.and_eq_true, ok.2 g gn] at hu
    exact hu
  have no2 : c2.testBit g = false := by
    cases e : c2.testBit g with
    | false => rfl
    | true =>
      have z := (in2 g (s2 g e)).2
      rw [gg] at z
      cases z
  have big : SubN (c2 ^^^ 2 ^ g) m ∧ Clq es (c2 ^^^ 2 ^ g) ∧ sizeN (c2 ^^^ 2 ^ g) = 1 + v2 := by
    have bits : ∀ u, (c2 ^^^ 2 ^ g).testBit u = true → u = g ∨ c2.testBit u = true := fun u hu => by
      rw [xor_bit] at hu
      by_cases e : g = u
      · exact .inl e.symm
      · rw [decide_eq_false e, Bool.xor_false] at hu
        exact .inr hu
    have sb : SubN (c2 ^^^ 2 ^ g) m := fun u hu => by
      rcases bits u hu with rfl | z
      · exact tb
      · exact (in2 u (s2 u z)).1
    refine ⟨sb, fun u v hu hv ne => ?_, ?_⟩
    · rcases bits u hu with rfl | zu
      · rcases bits v hv with rfl | zv
        · exact absurd rfl ne
        · exact (in2 v (s2 v zv)).2
      · rcases bits v hv with rfl | zv
        · rw [adj_comm]
          exact (in2 u (s2 u zu)).2
        · exact q2 u v zu zv ne
    · have tg : (c2 ^^^ 2 ^ g).testBit g = true := by
        rw [xor_bit, no2, decide_eq_true rfl]
        rfl
      have z := size_flip _ (Nat.lt_of_le_of_lt sb.le m9) g t9 tg
      have e : c2 ^^^ 2 ^ g ^^^ 2 ^ g = c2 := by
        refine Nat.eq_of_testBit_eq fun u => ?_
        rw [xor_bit, xor_bit]
        cases c2.testBit u <;> cases decide (g = u) <;> rfl
      rw [e, e2] at z
      omega
  constructor
  · by_cases c : v1 ≤ 1 + v2
    · refine ⟨c2 ^^^ 2 ^ g, big.1, big.2.1, ?_⟩
      rw [big.2.2]
      omega
    · exact ⟨c1, lift1 c1 s1, q1, by omega⟩
  · intro c sc cc
    cases e : c.testBit g with
    | false =>
      have z := u1 c (fun u hu => by
        rw [xor_bit, sc u hu]
        by_cases e3 : g = u
        · rw [← e3, e] at hu
          cases hu
        · rw [decide_eq_false e3]
          rfl) cc
      omega
    | true =>
      have bits : ∀ u, (c ^^^ 2 ^ g).testBit u = true → g ≠ u ∧ c.testBit u = true := fun u hu => by
        rw [xor_bit] at hu
        by_cases e3 : g = u
        · rw [← e3, e, decide_eq_true rfl] at hu
          cases hu
        · rw [decide_eq_false e3, Bool.xor_false] at hu
          exact ⟨e3, hu⟩
      have z := u2 (c ^^^ 2 ^ g) (fun u hu => by
        obtain ⟨ne, cu⟩ := bits u hu
        rw [Nat.testBit_and, sc u cu, ok.2 g gn, cc g u e cu ne]
        rfl) (fun u v hu hv ne => cc u v (bits u hu).2 (bits v hv).2 ne)
      have y := size_flip c (Nat.lt_of_le_of_lt sc.le m9) g t9 e
      omega
theorem xor_less {m : Nat} (m9 : m < 512) (m1 : 1 ≤ m) : m ^^^ 2 ^ topN m < m := by
  obtain ⟨_, _, tb, tl, tg⟩ := top_ok m m9 m1
  refine Nat.lt_of_lt_of_le (Nat.lt_pow_two_of_testBit _ fun v hv => ?_) tg
  rw [xor_bit]
  by_cases e : topN m = v
  · rw [← e, tb, decide_eq_true rfl]
    rfl
  · rw [decide_eq_false e, Bool.xor_false]
    exact high_out tl (by omega)
theorem and_less {n : Nat} {es : List E2} {nb : List Nat} {m : Nat} (gd : Good n es) (ok : NbOk n es nb) (lt : m < 2 ^ n) (m1 : 1 ≤ m) : topN m < n ∧ m &&& nb.getD (topN m) 0 < m := by
  have m9 : m < 512 := Nat.lt_of_lt_of_le lt (Nat.pow_le_pow_right (by decide) gd.n9)
  obtain ⟨_, _, tb, tl, tg⟩ := top_ok m m9 m1
  have gn : topN m < n := by
    by_cases c : topN m < n
    · exact c
    · rw [high_out lt (by omega)] at tb
      cases tb
  refine ⟨gn, Nat.lt_of_lt_of_le (Nat.lt_pow_two_of_testBit _ fun v hv => ?_) tg⟩
  rw [Nat.testBit_and]
  by_cases e : topN m = v
  · subst e
    rw [ok.2 _ gn]
    cases e : adjB es (topN m) (topN m) with
    | false => exact Bool.and_false _
    | true => exact absurd rfl (adj_ne gd e).1
  · rw [high_out tl (by omega)]
    rfl
end My

set_option maxHeartbeats 4000000
/-! Chromatic numbers of masks, in plain Lean. -/
namespace My
open PySem PySem.Spec PyProof.Rows L2
/-- no two of them adjacent -/
def Stb (es : List E2) (m : Nat) : Prop := ∀ u v, m.testBit u = true → m.testBit v = true → u ≠ v → adjB es u v = false
/-- a mask's vertices can have colours below k -/
def ColB (es : List E2) (m k : Nat) : Prop := ∃ f : Nat → Nat, (∀ u, m.testBit u = true → f u < k) ∧ ∀ u v, m.testBit u = true → m.testBit v = true → adjB es u v = true → f u ≠ f v
def ChOk (es : List E2) (m v : Nat) : Prop := ColB es m v ∧ ∀ k, ColB es m k → v ≤ k
theorem ch_zero (es : List E2) : ChOk es 0 0 := ⟨⟨fun _ => 0, fun u h => by simp at h, fun u v h => by simp at h⟩, fun k _ => Nat.zero_le k⟩
theorem xor_sub {m c : Nat} (h : SubN c m) (u : Nat) : (m ^^^ c).testBit u = (m.testBit u && !c.testBit u) := by
  rw [Nat.testBit_xor]
  have z := h u
  cases e : c.testBit u with
  | false => cases m.testBit u <;> rfl
  | true => rw [z e]; rfl
/-- a class of a colouring -/
theorem class_mask (n : Nat) {m : Nat} (lt : m < 2 ^ n) (f : Nat → Nat) (a : Nat) : ∃ c, SubN c m ∧ ∀ u, c.testBit u = true ↔ m.testBit u = true ∧ f u = a := by
  have up : ((List.range n).filter fun u => m.testBit u && f u == a).Pairwise (· < ·) := (List.pairwise_lt_range).filter _
  have key : ∀ u, (maskN ((List.range n).filter fun u => m.testBit u && f u == a)).testBit u = true ↔ m.testBit u = true ∧ f u = a := fun u => by
    rw [mask_bit up, decide_eq_true_eq, List.mem_filter, List.mem_range, Bool.and_eq_true, beq_iff_eq]
    refine ⟨fun z => z.2, fun z => ⟨?_, z⟩⟩
    by_cases c : u < n
    · exact c
    · rw [high_out lt (by omega)] at z
      cases z.1
  exact ⟨_, fun u hu => ((key u).mp hu).1, key⟩
/-- the colour of a vertex is a class that it is in; the rest needs one less -/
theorem ch_low {n : Nat} {es : List E2} {m t k : Nat} (lt : m < 2 ^ n) (ht : m.testBit t = true) (h : ColB es m k) : ∃ c, SubN c m ∧ c.testBit t = true ∧ Stb es c ∧ 1 ≤ k ∧ ColB es (m ^^^ c) (k - 1) := by
  obtain ⟨f, hf, hp⟩ := h
  obtain ⟨c, sc, hc⟩ := class_mask n lt f (f t)
  have ft := hf t ht
  refine ⟨c, sc, (hc t).mpr ⟨ht, rfl⟩, fun u v hu hv ne => ?_, by omega, fun u => if f u = k - 1 then f t else f u, fun u hu => ?_, fun u v hu hv ad => ?_⟩
  · obtain ⟨mu, eu⟩ := (hc u).mp hu
    obtain ⟨mv, ev⟩ := (hc v).mp hv
    cases e : adjB es u v with
    | false => rfl
    | true => exact absurd (eu.trans ev.symm) (hp u v mu mv e)
  · rw [xor_sub sc, Bool.and_eq_true, Bool.not_eq_true'] at hu
    have nu : f u ≠ f t := fun z => by
      rw [(hc u).mpr ⟨hu.1, z⟩] at hu
      cases hu.2
    have := hf u hu.1
    dsimp only
    split <;> omega
  · rw [xor_sub sc, Bool.and_eq_true, Bool.not_eq_true'] at hu hv
    have nu : f u ≠ f t := fun z => by
      rw [(hc u).mpr ⟨hu.1, z⟩] at hu
      cases hu.2
    have nv : f v ≠ f t := fun z => by
      rw [(hc v).mpr ⟨hv.1, z⟩] at hv
      cases hv.2
    have ne := hp u v hu.1 hv.1 ad
    dsimp only
    split <;> split <;> omega
theorem ch_high {es : List E2} {m c k : Nat} (sc : SubN c m) (st : Stb es c) (ir : ∀ u, adjB es u u = false) (h : ColB es (m ^^^ c) k) : ColB es m (k + 1) := by
  obtain ⟨f, hf, hp⟩ := h
  have rest : ∀ u, m.testBit u = true → c.testBit u = false → (m ^^^ c).testBit u = true := fun u hu hc => by rw [xor_sub sc, hu, hc]; rfl
  refine ⟨fun u => if c.testBit u then k else f u, fun u hu => ?_, fun u v hu hv ad => ?_⟩
  · dsimp only
    cases e : c.testBit u with
    | true => simp
    | false =>
      have := hf u (rest u hu e)
      simp
      omega
  · dsimp only
    cases eu : c.testBit u with
    | true =>
      cases ev : c.testBit v with
      | true =>
        by_cases ne : u = v
        · subst ne
          rw [ir] at ad
          cases ad
        · rw [st u v eu ev ne] at ad
          cases ad
      | false =>
        have := hf v (rest v hv ev)
        simp
        omega
    | false =>
      cases ev : c.testBit v with
      | true =>
        have := hf u (rest u hu eu)
        simp
        omega
      | false =>
        simp
        exact hp u v (rest u hu eu) (rest v hv ev) ad
/-- the stable masks of a greatest vertex -/
def RowOk (es : List E2) (t : Nat) (row : List Nat) : Prop := ∀ c, c ∈ row ↔ c < 2 ^ (t + 1) ∧ c.testBit t = true ∧ Stb es c
theorem ch_step {n : Nat} {es : List E2} {m v : Nat} {row : List Nat} (gd : Good n es) (lt : m < 2 ^ n) (m1 : 1 ≤ m) (ro : RowOk es (topN m) row) (num : Nat → Nat) (ok : ∀ k, k < m → ChOk es k (num k))
    (hv : v ∈ (row.filter fun c => c &&& m == c).map fun c => num (m ^^^ c)) (hm : ∀ y ∈ (row.filter fun c => c &&& m == c).map fun c => num (m ^^^ c), v ≤ y) : ChOk es m (1 + v) := by
  have m9 : m < 512 := Nat.lt_of_lt_of_le lt (Nat.pow_le_pow_right (by decide) gd.n9)
  obtain ⟨_, t9, tb, tl, tg⟩ := top_ok m m9 m1
  have ir : ∀ u, adjB es u u = false := fun u => by
    cases e : adjB es u u with
    | false => rfl
    | true => exact absurd rfl (adj_ne gd e).1
  have less : ∀ c, SubN c m → c.testBit (topN m) = true → m ^^^ c < m := fun c sc tc => by
    refine Nat.lt_of_lt_of_le (Nat.lt_pow_two_of_testBit _ fun u hu => ?_) tg
    rw [xor_sub sc]
    by_cases e : topN m = u
    · rw [← e, tc]
      exact Bool.and_false _
    · rw [high_out tl (by omega)]
      rfl
  constructor
  · obtain ⟨c, hc, rfl⟩ := List.mem_map.mp hv
    obtain ⟨hc, sb⟩ := List.mem_filter.mp hc
    obtain ⟨c1, c2, c3⟩ := (ro c).mp hc
    have sc : SubN c m := (sub_and c m).mp (beq_iff_eq.mp sb)
    rw [Nat.add_comm]
    exact ch_high sc c3 ir (ok _ (less c sc c2)).1
  · intro k hk
    obtain ⟨c, sc, c2, c3, k1, ck⟩ := ch_low lt tb hk
    have mem : num (m ^^^ c) ∈ (row.filter fun c => c &&& m == c).map fun c => num (m ^^^ c) := List.mem_map.mpr ⟨c, List.mem_filter.mpr ⟨(ro c).mpr ⟨Nat.lt_of_le_of_lt sc.le tl, c2, c3⟩, beq_iff_eq.mpr ((sub_and c m).mpr sc)⟩, rfl⟩
    have := hm _ mem
    have := (ok _ (less c sc c2)).2 _ ck
    omega
/-- the row is not empty where a mask needs it -/
theorem row_some {n : Nat} {es : List E2} {m : Nat} {row : List Nat} (gd : Good n es) (lt : m < 2 ^ n) (m1 : 1 ≤ m) (ro : RowOk es (topN m) row) : 0 < (row.filter fun c => c &&& m == c).length := by
  have m9 : m < 512 := Nat.lt_of_lt_of_le lt (Nat.pow_le_pow_right (by decide) gd.n9)
  obtain ⟨_, t9, tb, tl, tg⟩ := top_ok m m9 m1
  refine List.length_pos_of_mem (a := 2 ^ topN m) (List.mem_filter.mpr ⟨(ro _).mpr ⟨Nat.pow_lt_pow_right (by decide) (Nat.lt_succ_self _), by rw [bit_pow]; exact decide_eq_true rfl, fun u v hu hv ne => ?_⟩, beq_iff_eq.mpr ((sub_and _ _).mpr fun v hv => ?_)⟩)
  · rw [bit_pow] at hu hv
    exact absurd ((of_decide_eq_true hu).symm.trans (of_decide_eq_true hv)) ne
  · rw [bit_pow] at hv
    rw [← of_decide_eq_true hv]
    exact tb
/-- the stable masks of vertices below k -/
def StbOk (es : List E2) (k : Nat) (found : List Nat) : Prop := ∀ m, m ∈ found ↔ m < 2 ^ k ∧ Stb es m
theorem stb_nil (es : List E2) : StbOk es 0 [0] := fun m => by
  rw [List.mem_singleton]
  constructor
  · rintro rfl
    exact ⟨by decide, fun u v h => by simp at h⟩
  · intro h
    have := h.1
    omega
def rowN (found : List Nat) (k near : Nat) : List Nat := (found.filter fun m => m &&& near == 0).map (· ||| 2 ^ k)
theorem and_zero (a b : Nat) : a &&& b = 0 ↔ ∀ v, a.testBit v = true → b.testBit v = false := by
  constructor
  · intro h v hv
    have z := congrArg (Nat.testBit · v) h
    simp only [Nat.testBit_and, hv, Bool.true_and, Nat.zero_testBit] at z
    exact z
  · intro h
    refine Nat.eq_of_testBit_eq fun v => ?_
    rw [Nat.testBit_and, Nat.zero_testBit]
    cases e : a.testBit v with
    | false => rfl
    | true => rw [h v e]; rfl
theorem row_step {n : Nat} {es : List E2} {nb found : List Nat} {k : Nat} (h : StbOk es k found) (ok : NbOk n es nb) (kn : k < n) : RowOk es k (rowN found k (nb.getD k 0)) ∧ StbOk es (k + 1) (found ++ rowN found k (nb.getD k 0)) := by
  have ro : RowOk es k (rowN found k (nb.getD k 0)) := fun c => by
    unfold rowN
    rw [List.mem_map]
    constructor
    · rintro ⟨m, hm, rfl⟩
      obtain ⟨hm, nr⟩ := List.mem_filter.mp hm
      obtain ⟨lm, sm⟩ := (h m).mp hm
      have far := (and_zero _ _).mp (beq_iff_eq.mp nr)
      refine ⟨Nat.or_lt_two_pow (Nat.lt_of_lt_of_le lm (Nat.pow_le_pow_right (by decide) (Nat.le_succ k))) (Nat.pow_lt_pow_right (by decide) (Nat.lt_succ_self k)), by rw [or_pow_bit, decide_eq_true rfl, Bool.or_true], fun u v hu hv ne => ?_⟩
      rw [or_pow_bit] at hu hv
      simp only [Bool.or_eq_true, decide_eq_true_eq] at hu hv
      rcases hu with hu | rfl
      · rcases hv with hv | rfl
        · exact sm u v hu hv ne
        · rw [adj_comm, ← ok.2 k kn]
          exact far u hu
      · rcases hv with hv | rfl
        · rw [← ok.2 k kn]
          exact far v hv
        · exact absurd rfl ne
    · rintro ⟨c1, c2, c3⟩
      have bits : ∀ v, (c % 2 ^ k).testBit v = (decide (v < k) && c.testBit v) := fun v => Nat.testBit_mod_two_pow c k v
      refine ⟨c % 2 ^ k, List.mem_filter.mpr ⟨(h _).mpr ⟨Nat.mod_lt _ (Nat.two_pow_pos k), fun u v hu hv ne => ?_⟩, beq_iff_eq.mpr ((and_zero _ _).mpr fun v hv => ?_)⟩, ?_⟩
      · rw [bits, Bool.and_eq_true] at hu hv
        exact c3 u v hu.2 hv.2 ne
      · rw [bits, Bool.and_eq_true] at hv
        have lt := of_decide_eq_true hv.1
        rw [ok.2 k kn]
        exact c3 k v c2 hv.2 (by omega)
      · refine Nat.eq_of_testBit_eq fun v => ?_
        rw [or_pow_bit, bits]
        by_cases e : k = v
        · subst e; simp [c2]
        · by_cases l : v < k
          · simp [l, e]
          · have z : c.testBit v = false := high_out c1 (by omega)
            simp [l, e, z]
  refine ⟨ro, fun m => ?_⟩
  rw [List.mem_append, ro m, h m]
  constructor
  · rintro (⟨h1, h2⟩ | ⟨h1, _, h3⟩)
    · exact ⟨Nat.lt_of_lt_of_le h1 (Nat.pow_le_pow_right (by decide) (Nat.le_succ k)), h2⟩
    · exact ⟨h1, h3⟩
  · rintro ⟨h1, h2⟩
    cases e : m.testBit k with
    | true => exact .inr ⟨h1, rfl, h2⟩
    | false =>
      left
      refine ⟨Nat.lt_pow_two_of_testBit m fun v hv => ?_, h2⟩
      by_cases c : v = k
      · rw [c]; exact e
      · exact high_out h1 (by omega)
end My

set_option maxHeartbeats 4000000
namespace My
open PySem PySem.Spec PyProof.Rows L2
abbrev sChNum : Stmt := top 16
abbrev sChNums : Stmt := top (16 + 4)
abbrev sStbRows : Stmt := top (16 + 5)
theorem scChNum : FnScope ["graph"] ["graph"] (defScope sChNum) := ⟨rfl, rfl, rfl, by decide +kernel, rfl, by decide +kernel, by decide +kernel⟩
theorem scChNums : FnScope ["neighbours", "colours", "numbers", "mask", "fitting", "colour"] ["neighbours"] (defScope sChNums) := ⟨rfl, rfl, rfl, by decide +kernel, rfl, by decide +kernel, by decide +kernel⟩
theorem scStbRows : FnScope ["neighbours", "found", "rows", "vertex", "near", "row", "mask"] ["neighbours"] (defScope sStbRows) := ⟨rfl, rfl, rfl, by decide +kernel, rfl, by decide +kernel, by decide +kernel⟩
/-- lists of masks that stand apart from the list at R -/
inductive RowsT (H : Hp) (R : Addr) : List V → List (List Nat) → Prop
  | nil : RowsT H R [] []
  | cons {r : Addr} {l : List Nat} {xs : List V} {ls : List (List Nat)} : r ≠ R → H r = some (.lst (numsN l)) → RowsT H R xs ls → RowsT H R (.ref r :: xs) (l :: ls)
theorem RowsT.same {H H' : Hp} {R : Addr} (s : Same H H') {xs : List V} {ls : List (List Nat)} (h : RowsT H R xs ls) : RowsT H' R xs ls := by
  induction h with
  | nil => exact .nil
  | cons a b _ ih => exact .cons a (s _ _ b) ih
theorem RowsT.put {H : Hp} {R : Addr} {o : HO} {xs : List V} {ls : List (List Nat)} (h : RowsT H R xs ls) : RowsT (upd H R o) R xs ls := by
  induction h with
  | nil => exact .nil
  | cons a b _ ih => exact .cons a (by rw [upd_ne a]; exact b) ih
theorem RowsT.snoc {H : Hp} {R r : Addr} {xs : List V} {ls : List (List Nat)} {l : List Nat} (h : RowsT H R xs ls) (ne : r ≠ R) (hr : H r = some (.lst (numsN l))) : RowsT H R (xs ++ [.ref r]) (ls ++ [l]) := by
  induction h with
  | nil => exact .cons ne hr .nil
  | cons a b _ ih => exact .cons a b ih
theorem RowsT.len {H : Hp} {R : Addr} {xs : List V} {ls : List (List Nat)} (h : RowsT H R xs ls) : xs.length = ls.length := by
  induction h with
  | nil => rfl
  | cons _ _ _ ih => rw [List.length_cons, List.length_cons, ih]
theorem RowsT.get {H : Hp} {R : Addr} {xs : List V} {ls : List (List Nat)} (h : RowsT H R xs ls) {i : Nat} (hi : i < ls.length) : ∃ r, xs[i]? = some (.ref r) ∧ H r = some (.lst (numsN (ls.getD i []))) := by
  induction h generalizing i with
  | nil => simp at hi
  | cons a b _ ih =>
    cases i with
    | zero => exact ⟨_, rfl, b⟩
    | succ i => exact ih (by simpa using hi)
def AllRows (es : List E2) (rows : List (List Nat)) : Prop := ∀ t, t < rows.length → RowOk es t (rows.getD t []) ∧ (rows.getD t []).length ≤ 512
def spRows (K : PySem.W.Frag) : Sp := fun vs H Q _ => ∃ (D : Addr) (nb : List Nat) (n : Nat) (es : List E2), vs = [.ref D] ∧ SqL K H D (numsN nb) ∧ NbOk n es nb ∧ n ≤ 9 ∧ ∀ (R : Addr) (xs : List V) (rows : List (List Nat)) H', Same H H' → H' R = some (.lst xs) → RowsT H' R xs rows → rows.length = n → AllRows es rows → Q (.ref R) H'
theorem stb_few {es : List E2} {k n : Nat} {found : List Nat} (nd : found.Nodup) (h : StbOk es k found) (kn : k ≤ n) (n9 : n ≤ 9) : found.length ≤ 512 := by
  have z := sub_few nd (m := List.range (2 ^ k)) fun m hm => List.mem_range.mpr ((h m).mp hm).1
  rw [List.length_range] at z
  have p : 2 ^ k ≤ 2 ^ 9 := Nat.pow_le_pow_right (by decide) (by omega)
  omega
theorem row_nodup {es : List E2} {found : List Nat} {k near : Nat} (nd : found.Nodup) (h : StbOk es k found) : (found ++ rowN found k near).Nodup := by
  have low : ∀ m ∈ found, m < 2 ^ k := fun m hm => ((h m).mp hm).1
  unfold rowN
  rw [List.nodup_append]
  refine ⟨nd, ?_, ?_⟩
  · show List.Pairwise _ _
    rw [List.pairwise_map]
    refine List.Pairwise.imp_of_mem ?_ (nd.filter _)
    intro x y hx hy ne e
    refine ne (?_ : x = y)
    refine Nat.eq_of_testBit_eq fun v => ?_
    have lx := low x (List.mem_filter.mp hx).1
    have ly := low y (List.mem_filter.mp hy).1
    have z := congrArg (Nat.testBit · v) e
    simp only [or_pow_bit] at z
    by_cases c : k = v
    · subst c
      rw [high_out lx (Nat.le_refl _), high_out ly (Nat.le_refl _)]
    · rw [decide_eq_false c, Bool.or_false, Bool.or_false] at z
      exact z
  · intro a ha b hb e
    subst e
    obtain ⟨c, hc, e⟩ := List.mem_map.mp hb
    have z := high_out (low a ha) (Nat.le_refl k)
    rw [← e, or_pow_bit, decide_eq_true rfl, Bool.or_true] at z
    cases z
section
variable {P : Program} {w : World} {K : PySem.W.Frag} {mg : Str → Option Value} {base : Heap} {f fC fN fM : Addr} {fd dC dN dM : FuncData}
theorem ok_stb_rows (F : L2.Fun K "_stable_masks_by_greatest" "_stable_masks_by_greatest" sStbRows f fd) (me : mg "enumerate" = none) : FnOk P w K mg base CX0 1 f fd ["neighbours"] (spRows K) := by
  refine F.ok scStbRows (fun vs H Q E h => ?_) (fun cdv A outer s H vs Q E hr h => ?_)
  · obtain ⟨D, nb, n, es, rfl, _⟩ := h
    rfl
  obtain ⟨D, nb, n, es, rfl, hD, ok, n9, q⟩ := h
  refine ⟨_, pss_cons (ps_set (i := 1) scStbRows.nd rfl (.inl rfl) (pe_lst (pa_cons pe_int pa_nil)))
    (pss_cons (ps_set (i := 2) scStbRows.nd rfl (.inl rfl) (pe_lst pa_nil))
    (pss_cons (ps_for PassesOwn.never rfl (pi_enum (by rfl) me (pa_cons (pv 0) pa_nil)) (pg_tup (by rfl) (pgs_cons (pg_name (i := 3) scStbRows.nd rfl (.inr rfl)) (pgs_cons (pg_name (i := 4) scStbRows.nd rfl (.inr rfl)) pgs_nil)))
      (pss_cons (ps_setLc (i := 5) (own := [("mask", 6)]) (g := gName 6) (tt := tTest (tOp rEq (tOp (rI0 fun i j => .int (Builtin.bitAnd i j)) (tVar 6) (tVar 4)) (tC (.int 0)))) rfl scStbRows.nd rfl rfl (sw_true rfl rfl rfl (by decide +kernel)) (pi_list (pv 1))
          (blkOk_by (N := ["neighbours", "found", "rows", "vertex", "near", "row", "mask"]) (sc := defScope sStbRows) (by decide +kernel)) (fun _ _ _ _ _ => pg_name (i := 6) scStbRows.nd rfl (Or.inl rfl))
          (fun _ _ _ _ _ => pts_one (pt_cmpR (r := rEq) op_eq (pe_op op_and (pv 6) (pv 4)) pe_int (nomark _)))
          (fun _ _ _ _ _ => pe_op op_or (pv 6) (pe_op op_shl pe_int (pv 3))))
      (pss_cons (ps_expr (pe_bm PySem.F.plainAttrs_list PySem.F.slot_list_append PySem.F.type_list_append mt_append (pv 2) (pa_cons (pv 5) pa_nil)))
      (pss_one (ps_set (i := 1) scStbRows.nd rfl (.inl rfl) (pe_op op_cat (pv 1) (pv 5)))))))
    (pss_one (ps_ret (pv 2))))), ?_⟩
  have ln := ok.1
  refine ⟨(by show 1 ≤ sizeLine; rw [sizeLine_eq]; decide), fun F0 nF0 => ?_⟩
  have s0 := same_new nF0 (.lst [V.int 0])
  have h0 := upd_same (H := H) (a := F0) (o := .lst [V.int 0])
  generalize upd H F0 (.lst [V.int 0]) = H0 at s0 h0 ⊢
  refine ⟨(by show 0 ≤ sizeLine; decide), fun R nR => ?_⟩
  have sR := same_new nR (.lst [])
  have hR := upd_same (H := H0) (a := R) (o := .lst [])
  refine ⟨_, rfl, D, _, rfl, Same.seq (s0.trans sR) hD, for_it walk_enum (fun i σ H' => ∃ (F1 : Addr) (found : List Nat) (xs : List V) (rows : List (List Nat)) (s3 s4 s5 : Option V), σ = [some (.ref D), some (.ref F1), some (.ref R), s3, s4, s5, none] ∧ Same H0 H' ∧ H' F1 = some (.lst (numsN found)) ∧ F1 ≠ R ∧ H' R = some (.lst xs) ∧ RowsT H' R xs rows ∧ rows.length = i ∧ AllRows es rows ∧ StbOk es i found ∧ found.Nodup)
    ⟨F0, [0], [], [], none, none, none, rfl, sR, sR _ _ h0, ne_of_none h0 nR, hR, .nil, rfl, fun t ht => absurd ht (by simp), stb_nil es, by simp⟩ (fun i σ H' _ ⟨_, _, _, _, _, _, _, _, s, _⟩ => Same.seq (s0.trans s) hD) ?_ ?_⟩
  · rintro i x σ H2 H3 li ⟨F1, found, xs, rows, s3', s4', s5', rfl, s2, hF, FR, hR2, hro, rl, ar, so, nd⟩ ⟨T, y, v, rfl, nT, rfl, e1, e2⟩
    obtain rfl : V.int ((i : Nat) : Int) = y := Option.some.inj e1
    rw [numsN_len] at li
    have e2' : (numsN nb)[i]? = some v := e2
    rw [numsN_get li] at e2'
    obtain rfl := Option.some.inj e2'
    have sT := same_new nT (.tup [.int ((i : Nat) : Int), .int ((nb.getD i 0 : Nat) : Int)])
    have hF3 := sT _ _ hF
    have few := stb_few nd so (show i ≤ n by omega) n9
    refine ⟨T, _, rfl, SqT.of upd_same, rfl, _, _, rfl, _, _, rfl, rfl, ?_⟩
    have hR3 := sT _ _ hR2
    have hro3 := hro.same sT
    have s23 := s2.trans sT
    generalize upd H2 T (.tup [.int ((i : Nat) : Int), .int ((nb.getD i 0 : Nat) : Int)]) = H3 at hF3 hR3 hro3 s23 ⊢
    refine ⟨_, rfl, F1, rfl, ⟨_, SqL.of hF3⟩, fun B nB => lo_it (walk_list (xs := numsN found)) (fun j H4 => Same H3 H4 ∧ H4 B = some (.lst (numsN (((found.take j).filter fun m => m &&& nb.getD i 0 == 0).map (· ||| 2 ^ i))))) ⟨same_new nB _, upd_same⟩ (fun j H4 _ ⟨s4, _⟩ => SqL.of (s4 _ _ hF3)) ?_ ?_⟩
    · rintro j x _ H4 lj ⟨s4, hB⟩ ⟨rfl, hj⟩
      unfold numsN at hj
      rw [List.getElem?_map] at hj
      cases e : found[j]? with
      | none => rw [e] at hj; cases hj
      | some m =>
        rw [e] at hj
        cases hj
        have tk := take_succ e
        refine ⟨rfl, ?_⟩
        refine ⟨_, rfl, _, rfl, _, _, rfl, rfl, rfl, _, rfl, ?_⟩
        simp only [and_nn]
        have ev : decide (V.int ((m &&& nb.getD i 0 : Nat) : Int) = V.int 0) = (m &&& nb.getD i 0 == 0) := by
          rw [Bool.eq_iff_iff, decide_eq_true_eq, beq_iff_eq]
          refine ⟨fun z => ?_, fun z => by rw [z]; rfl⟩
          injection z with z
          exact Int.ofNat.inj z
        rw [ev]
        have fl : (((found.take j).filter fun m => m &&& nb.getD i 0 == 0).map (· ||| 2 ^ i)).length ≤ 512 := by
          rw [List.length_map]
          refine Nat.le_trans (List.length_filter_le _ _) ?_
          rw [List.length_take]
          omega
        refine iteB (fun c => ?_) (fun c => ?_)
        · refine ⟨_, rfl, _, rfl, _, _, rfl, rfl, ⟨by omega, by omega, by decide⟩, _, _, rfl, rfl, ?_⟩
          simp only [or_shl]
          refine ⟨_, hB, small1000 (by rw [numsN_len]; omega), same_put s4 nB, ?_⟩
          rw [upd_same, tk, List.filter_append, List.filter_cons_of_pos (p := fun m => m &&& nb.getD i 0 == 0) c, List.map_append]
          unfold numsN
          rw [List.map_append]
          rfl
        · refine ⟨s4, ?_⟩
          rw [hB, tk, List.filter_append, List.filter_cons_of_neg (p := fun m => m &&& nb.getD i 0 == 0) (by rw [c]; decide), List.filter_nil, List.append_nil]
    · rintro H4 ⟨s4, hB⟩
      rw [numsN_len, List.take_length] at hB
      have fl : (rowN found i (nb.getD i 0)).length ≤ 512 := by
        unfold rowN
        rw [List.length_map]
        exact Nat.le_trans (List.length_filter_le _ _) few
      obtain ⟨ro, so2⟩ := row_step so ok (show i < n by omega)
      have hB' : H4 B = some (.lst (numsN (rowN found i (nb.getD i 0)))) := hB
      have BR : B ≠ R := fun z => by rw [z, hR3] at nB; cases nB
      have hR4 := s4 _ _ hR3
      have xl := hro.len
      refine ⟨_, rfl, .inl ⟨rfl, _, SqL.of hR4⟩, _, rfl, R, xs, _, rfl, rfl, hR4, small1000 (by omega), ?_⟩
      have hF4 : (upd H4 R (.lst (xs ++ [.ref B]))) F1 = some (.lst (numsN found)) := by rw [upd_ne FR]; exact s4 _ _ hF3
      have hB4 : (upd H4 R (.lst (xs ++ [.ref B]))) B = some (.lst (numsN (rowN found i (nb.getD i 0)))) := by rw [upd_ne BR]; exact hB'
      have hR5 := upd_same (H := H4) (a := R) (o := .lst (xs ++ [.ref B]))
      have ro5 : RowsT (upd H4 R (.lst (xs ++ [.ref B]))) R (xs ++ [.ref B]) (rows ++ [rowN found i (nb.getD i 0)]) := (hro3.same s4).put.snoc BR hB4
      have s5 : Same H0 (upd H4 R (.lst (xs ++ [.ref B]))) := same_put (s23.trans s4) nR
      generalize upd H4 R (.lst (xs ++ [.ref B])) = H5 at hF4 hB4 hR5 ro5 s5 ⊢
      refine ⟨_, rfl, _, rfl, F1, B, _, _, rfl, rfl, hF4, hB4, Nat.le_trans (by rw [numsN_len, numsN_len]; omega : _ ≤ 1024) (by rw [sizeLine_eq]; decide), fun c nc => ?_⟩
      have sc := same_new nc (.lst (numsN found ++ numsN (rowN found i (nb.getD i 0))))
      have e3 : numsN found ++ numsN (rowN found i (nb.getD i 0)) = numsN (found ++ rowN found i (nb.getD i 0)) := by
        unfold numsN
        rw [List.map_append]
      rw [e3] at sc ⊢
      have cR : c ≠ R := fun z => by rw [z, hR5] at nc; cases nc
      refine ⟨c, _, _, _, _, _, _, rfl, s5.trans sc, upd_same, cR, sc _ _ hR5, ro5.same sc, by rw [List.length_append, rl]; rfl, fun t ht => ?_, so2, row_nodup nd so⟩
      by_cases ct : t < rows.length
      · rw [List.getD_eq_getElem?_getD, List.getElem?_append_left ct, ← List.getD_eq_getElem?_getD]
        exact ar t ct
      · have : t = i := by
          rw [List.length_append, List.length_singleton] at ht
          omega
        subst this
        rw [List.getD_eq_getElem?_getD, List.getElem?_append_right (by omega), rl, Nat.sub_self]
        exact ⟨ro, fl⟩
  · rintro σ H2 ⟨F1, found, xs, rows, s3', s4', s5', rfl, s2, hF, FR, hR2, hro, rl, ar, so, nd⟩
    rw [numsN_len, ln] at rl
    exact ⟨_, rfl, q R xs rows H2 (s0.trans s2) hR2 hro rl ar⟩
def spChNums (K : PySem.W.Frag) : Sp := fun vs H Q _ => ∃ (D : Addr) (nb : List Nat) (n : Nat) (es : List E2), vs = [.ref D] ∧ SqL K H D (numsN nb) ∧ NbOk n es nb ∧ Good n es ∧ ∀ (F : Addr) (ns : List Nat) H', Same H H' → H' F = some (.lst (numsN ns)) → ns.length = 2 ^ n → (∀ k, k < 2 ^ n → ChOk es k (ns.getD k 0)) → Q (.ref F) H'
theorem min_nat {l : List Nat} (pos : 0 < l.length) {m : Int} (hm : m ∈ l.map fun k => ((k : Nat) : Int)) (hu : ∀ y, y ∈ (l.map fun k => ((k : Nat) : Int)) → m ≤ y) : ∃ v : Nat, m = (v : Int) ∧ v ∈ l ∧ ∀ y ∈ l, v ≤ y := by
  obtain ⟨v, hv, rfl⟩ := List.mem_map.mp hm
  refine ⟨v, rfl, hv, fun y hy => ?_⟩
  have z := hu ((y : Nat) : Int) (List.mem_map.mpr ⟨y, hy, rfl⟩)
  omega
theorem xor_nn (a b : Nat) : Builtin.bitXor ((a : Nat) : Int) ((b : Nat) : Int) = ((a ^^^ b : Nat) : Int) := by
  rw [Bits.bitXor_pp (Int.natCast_nonneg _) (Int.natCast_nonneg _), Int.toNat_natCast, Int.toNat_natCast]
theorem ev_masks (a m : Nat) : decide (V.int ((a : Nat) : Int) = V.int ((m : Nat) : Int)) = (a == m) := by
  rw [Bool.eq_iff_iff, decide_eq_true_eq, beq_iff_eq]
  refine ⟨fun z => ?_, fun z => by rw [z]⟩
  injection z with z
  exact Int.ofNat.inj z
theorem sub_less {m c : Nat} (m9 : m < 512) (m1 : 1 ≤ m) (sc : SubN c m) (tc : c.testBit (topN m) = true) : m ^^^ c < m := by
  obtain ⟨_, t9, tb, tl, tg⟩ := top_ok m m9 m1
  refine Nat.lt_of_lt_of_le (Nat.lt_pow_two_of_testBit _ fun u hu => ?_) tg
  rw [xor_sub sc]
  by_cases e : topN m = u
  · rw [← e, tc]
    exact Bool.and_false _
  · rw [high_out tl (by omega)]
    rfl
theorem ok_chrom_numbers (F : L2.Fun K "chromatic_numbers" "chromatic_numbers" sChNums f fd) (GR : FnOk P w K mg base CX0 1 fM dM ["neighbours"] (spRows K)) (bR : L2.Binds K dM ["neighbours"] []) (kR : PySem.W.keepIn K (.ref fM) = true) (mR : mg "_stable_masks_by_greatest" = some (.ref fM))
    (mr : mg "range" = none) (ml : mg "len" = none) (mn : mg "min" = none) : FnOk P w K mg base CX0 2 f fd ["neighbours"] (spChNums K) := by
  refine F.ok scChNums (fun vs H Q E h => ?_) (fun cdv A outer s H vs Q E hr h => ?_)
  · obtain ⟨D, nb, n, es, rfl, _⟩ := h
    rfl
  obtain ⟨D, nb, n, es, rfl, hD, ok, g, q⟩ := h
  refine ⟨_, pss_cons (ps_set (i := 1) scChNums.nd rfl (.inl rfl) (pe_call GR hr (by rfl) mR kR bR .nil pass0 (pa_cons (pv 0) pa_nil)))
    (pss_cons (ps_set (i := 2) scChNums.nd rfl (.inr rfl) (pe_lst (pa_cons pe_int pa_nil)))
    (pss_cons (ps_for PassesOwn.never rfl (pi_range2 (by rfl) mr (pa_cons pe_int (pa_cons (pe_op op_shl pe_int (pe_callB call_len_seq (by rfl) ml PySem.boot_len (pa_cons (pv 0) pa_nil))) pa_nil))) (pg_name (i := 3) scChNums.nd rfl (.inr rfl))
      (pss_cons (ps_setLc (i := 4) (own := [("colour", 5)]) (g := gName 5) (tt := tTest (tOp rEq (tOp (rI0 fun i j => .int (Builtin.bitAnd i j)) (tVar 5) (tVar 3)) (tVar 5))) rfl scChNums.nd rfl rfl (sw_true rfl rfl rfl (by decide +kernel)) (pi_list (pe_ix (r := rIxL K) ix_list (pv 1) (pe_op op_sub (pe_bits (pv 3)) pe_int) (fun _ _ => rfl)))
          (blkOk_by (N := ["neighbours", "colours", "numbers", "mask", "fitting", "colour"]) (sc := defScope sChNums) (by decide +kernel)) (fun _ _ _ _ _ => pg_name (i := 5) scChNums.nd rfl (Or.inl rfl))
          (fun _ _ _ _ _ => pts_one (pt_cmpR (r := rEq) op_eq (pe_op op_and (pv 5) (pv 3)) (pv 5) (nomark _)))
          (fun _ _ _ _ _ => pv 5))
      (pss_one (ps_expr (pe_bm PySem.F.plainAttrs_list PySem.F.slot_list_append PySem.F.type_list_append mt_append (pv 2) (pa_cons (pe_op op_add pe_int (pe_callB (cr_min rfl) (by rfl) mn (by decide +kernel) (pa_cons (pe_lc (own := [("colour", 5)]) (g := gName 5) (tt := tYes) rfl scChNums.nd (pi_list (pv 4))
          (blkOk_by (N := ["neighbours", "colours", "numbers", "mask", "fitting", "colour"]) (sc := defScope sChNums) (by decide +kernel)) (fun _ _ _ _ _ => pg_name (i := 5) scChNums.nd rfl (Or.inl rfl)) (fun _ _ _ _ _ => pts_nil)
          (fun _ _ _ _ _ => pe_ix (r := rIxL K) ix_list (pv 2) (pe_op op_xor (pv 3) (pv 5)) (fun _ _ => rfl))) pa_nil))) pa_nil))))))
    (pss_one (ps_ret (pv 2))))), ?_⟩
  have n9 := g.n9
  have ln := ok.1
  have p9 : 2 ^ n ≤ 512 := Nat.pow_le_pow_right (by decide) n9
  have p1 := Nat.two_pow_pos n
  refine ⟨_, rfl, D, nb, n, es, rfl, hD, ok, n9, fun R xs rows H0 s0 hR hro rl ar => ?_⟩
  have xl := hro.len
  refine ⟨(by show 1 ≤ sizeLine; rw [sizeLine_eq]; decide), fun F0 nF0 => ?_⟩
  have sF := same_new nF0 (.lst [V.int 0])
  have e2 : (1 : Int) * 2 ^ (((numsN nb).length : Nat) : Int).toNat = ((2 ^ n : Nat) : Int) := by
    rw [Int.toNat_natCast, numsN_len, ln, Int.one_mul, Int.natCast_pow]
    rfl
  have h0 := upd_same (H := H0) (a := F0) (o := .lst [V.int 0])
  refine ⟨_, rfl, D, _, rfl, .inl (Same.seq (s0.trans sF) hD), _, _, rfl, rfl, ⟨by rw [numsN_len]; omega, by rw [numsN_len]; omega, by decide⟩, 1, ((2 ^ n : Nat) : Int), congrArg (fun z : Int => [V.int 1, V.int z]) e2, ⟨by decide, by decide, by omega, by omega⟩, for_range (lo := 1) (n := (((2 ^ n : Nat) : Int) - 1).toNat) (fun i σ H' => ∃ (ns : List Nat) (s3 s4 : Option V), σ = [some (.ref D), some (.ref R), some (.ref F0), s3, s4, none] ∧ Same H0 H' ∧ H' F0 = some (.lst (numsN ns)) ∧ ns.length = i + 1 ∧ ∀ k, k < i + 1 → ChOk es k (ns.getD k 0))
    ⟨[0], none, none, rfl, sF, h0, rfl, fun k hk => ?_⟩ ?_ ?_⟩
  · obtain rfl : k = 0 := by omega
    exact ch_zero es
  · rintro i σ H2 li ⟨ns, s3', s4', rfl, s2, hF, nl, cn⟩
    have lm : i + 1 < 2 ^ n := by omega
    have m9 : i + 1 < 512 := by omega
    obtain ⟨ib, t9, tb, tl, tg⟩ := top_ok (i + 1) m9 (by omega)
    obtain ⟨tn, al⟩ := and_less g ok lm (by omega)
    have em : (1 : Int) + (i : Int) = ((i + 1 : Nat) : Int) := by omega
    rw [em]
    have eb : ((Builtin.Int.intBits ((i + 1 : Nat) : Int) : Nat) : Int) - 1 = ((topN (i + 1) : Nat) : Int) := by
      rw [ib]
      omega
    obtain ⟨rr, er, hr0⟩ := hro.get (i := topN (i + 1)) (by omega)
    obtain ⟨ro, rfew⟩ := ar (topN (i + 1)) (by omega)
    generalize rows.getD (topN (i + 1)) [] = row at hr0 ro rfew
    refine ⟨_, rfl, _, rfl, _, rfl, _, _, rfl, rfl, ?_⟩
    simp only [eb]
    have hr2 := s2 _ _ hr0
    refine ⟨R, _, _, _, rfl, rfl, SqL.of (s2 _ _ hR), atI_nat er, rr, rfl, ⟨_, SqL.of hr2⟩, fun B nB => lo_it (walk_list (xs := numsN row)) (fun j H4 => Same H2 H4 ∧ H4 B = some (.lst (numsN ((row.take j).filter fun c => c &&& (i + 1) == c)))) ⟨same_new nB _, upd_same⟩ (fun j H4 _ ⟨s4, _⟩ => SqL.of (s4 _ _ hr2)) ?_ ?_⟩
    · rintro j x _ H4 lj ⟨s4, hB⟩ ⟨rfl, hj⟩
      unfold numsN at hj
      rw [List.getElem?_map] at hj
      cases e : row[j]? with
      | none => rw [e] at hj; cases hj
      | some c =>
        rw [e] at hj
        cases hj
        have tk := take_succ e
        refine ⟨rfl, ?_⟩
        refine ⟨_, rfl, _, rfl, _, _, rfl, rfl, _, rfl, rfl, _, rfl, ?_⟩
        simp only [and_nn]
        rw [ev_masks]
        have fl : ((row.take j).filter fun c => c &&& (i + 1) == c).length ≤ 512 := by
          refine Nat.le_trans (List.length_filter_le _ _) ?_
          rw [List.length_take]
          omega
        refine iteB (fun cc => ?_) (fun cc => ?_)
        · refine ⟨_, rfl, _, hB, small1000 (by rw [numsN_len]; omega), same_put s4 nB, ?_⟩
          rw [upd_same, tk, List.filter_append, List.filter_cons_of_pos (p := fun c => c &&& (i + 1) == c) cc]
          unfold numsN
          rw [List.map_append]
          rfl
        · refine ⟨s4, ?_⟩
          rw [hB, tk, List.filter_append, List.filter_cons_of_neg (p := fun c => c &&& (i + 1) == c) (by rw [cc]; decide), List.filter_nil, List.append_nil]
    · rintro H4 ⟨s4, hB⟩
      rw [numsN_len, List.take_length] at hB
      have fpos := row_some g lm (show 1 ≤ i + 1 by omega) ro
      have ffew : (row.filter fun c => c &&& (i + 1) == c).length ≤ 512 := Nat.le_trans (List.length_filter_le _ _) rfew
      have sub : ∀ c ∈ row.filter fun c => c &&& (i + 1) == c, i + 1 ^^^ c < i + 1 := fun c hc => by
        obtain ⟨hc, sb⟩ := List.mem_filter.mp hc
        have sc : SubN c (i + 1) := (sub_and c _).mp (beq_iff_eq.mp sb)
        exact sub_less m9 (by omega) sc ((ro c).mp hc).2.1
      have hF4 := s4 _ _ hF
      generalize efit : (row.filter fun c => c &&& (i + 1) == c) = fit at hB fpos ffew sub
      refine ⟨_, rfl, .inl ⟨rfl, _, SqL.of hF4⟩, _, rfl, B, rfl, ⟨_, SqL.of hB⟩, fun B2 nB2 => lo_it (walk_list (xs := numsN fit)) (fun j H5 => Same H4 H5 ∧ H5 B2 = some (.lst (numsN ((fit.take j).map fun c => ns.getD (i + 1 ^^^ c) 0)))) ⟨same_new nB2 _, upd_same⟩ (fun j H5 _ ⟨s5, _⟩ => SqL.of (s5 _ _ hB)) ?_ ?_⟩
      · rintro j x _ H5 lj ⟨s5, hB2⟩ ⟨rfl, hj⟩
        unfold numsN at hj
        rw [List.getElem?_map] at hj
        cases e : fit[j]? with
        | none => rw [e] at hj; cases hj
        | some c =>
          rw [e] at hj
          cases hj
          have cl := sub c (List.mem_of_getElem? e)
          refine ⟨rfl, ?_⟩
          refine ⟨_, rfl, _, rfl, _, rfl, _, _, rfl, rfl, ?_⟩
          simp only [xor_nn]
          refine ⟨F0, _, _, _, rfl, rfl, SqL.of (s5 _ _ hF4), atI_nat (numsN_get (by omega)), _, hB2, small1000 (by rw [numsN_len, List.length_map, List.length_take]; omega), same_put s5 nB2, ?_⟩
          rw [upd_same, take_succ e, List.map_append]
          unfold numsN
          rw [List.map_append]
          rfl
      · rintro H5 ⟨s5, hB2⟩
        rw [numsN_len, List.take_length] at hB2
        have eN : numsN (fit.map fun c => ns.getD (i + 1 ^^^ c) 0) = ((fit.map fun c => ns.getD (i + 1 ^^^ c) 0).map fun k => ((k : Nat) : Int)).map V.int := by
          unfold numsN
          simp only [List.map_map]
          rfl
        rw [eN] at hB2
        refine ⟨B2, _, rfl, SqL.of hB2, by rw [List.length_map, List.length_map]; exact fpos, fun m hm hu => ?_⟩
        obtain ⟨v, rfl, hv, hle⟩ := min_nat (by rw [List.length_map]; exact fpos) hm hu
        have hF5 := s5 _ _ hF4
        refine ⟨_, _, rfl, rfl, F0, _, _, rfl, rfl, hF5, small1000 (by rw [numsN_len]; omega), ns ++ [1 + v], _, _, rfl, same_put (s2.trans (s4.trans s5)) nF0, ?_, by rw [List.length_append, nl]; rfl, fun k hk => ?_⟩
        · rw [upd_same]
          unfold numsN
          rw [List.map_append]
          rfl
        · by_cases c : k < i + 1
          · rw [List.getD_eq_getElem?_getD, List.getElem?_append_left (by omega), ← List.getD_eq_getElem?_getD]
            exact cn k c
          · obtain rfl : k = i + 1 := by omega
            rw [List.getD_eq_getElem?_getD, List.getElem?_append_right (by omega), nl, Nat.sub_self]
            rw [← efit] at hv hle
            exact ch_step g lm (by omega) ro (fun k => ns.getD k 0) cn hv hle
  · rintro σ H2 ⟨ns, s3', s4', rfl, s2, hF, nl, cn⟩
    have e3 : (((2 ^ n : Nat) : Int) - 1).toNat + 1 = 2 ^ n := by omega
    rw [e3] at nl cn
    exact ⟨_, rfl, q F0 ns H2 (s0.trans s2) hF nl cn⟩
def spChNum (K : PySem.W.Frag) : Sp := fun vs H Q _ => ∃ (x : V) (n : Nat) (es : List E2), vs = [x] ∧ GraphAt K H x n es ∧ Good n es ∧ ∀ (v : Nat) H', Same H H' → ChOk es (2 ^ n - 1) v → Q (.int (v : Int)) H'
theorem at_end2 {ns : List Nat} {m : Nat} (h : ns.length = m) (m1 : 1 ≤ m) : atI (numsN ns) (-1) = some (V.int ((ns.getD (m - 1) 0 : Nat) : Int)) := by
  have ne : ns ≠ [] := fun z => by
    rw [z, List.length_nil] at h
    omega
  have l : ns.getD (m - 1) 0 = ns.getLast ne := by
    rw [List.getLast_eq_getElem, List.getD_eq_getElem?_getD, List.getElem?_eq_getElem (by omega)]
    simp [h]
  have e : numsN ns = numsN ns.dropLast ++ [V.int ((ns.getLast ne : Nat) : Int)] := by
    conv => lhs; rw [← List.dropLast_concat_getLast ne]
    unfold numsN
    rw [List.map_append]
    rfl
  rw [e, l]
  exact atI_last _ _
theorem ok_chrom_number (F : L2.Fun K "chromatic_number" "chromatic_number" sChNum f fd) (GC : FnOk P w K mg base CX0 5 fC dC ["graph"] (spCheckGraph K)) (bC : L2.Binds K dC ["graph"] []) (kC : PySem.W.keepIn K (.ref fC) = true) (mC : mg "check_graph" = some (.ref fC))
    (GN : FnOk P w K mg base CX0 1 fN dN ["graph"] (spMasks K)) (bN : L2.Binds K dN ["graph"] []) (kN' : PySem.W.keepIn K (.ref fN) = true) (mN : mg "neighbour_masks" = some (.ref fN))
    (GM : FnOk P w K mg base CX0 2 fM dM ["neighbours"] (spChNums K)) (bM : L2.Binds K dM ["neighbours"] []) (kM : PySem.W.keepIn K (.ref fM) = true) (mM : mg "chromatic_numbers" = some (.ref fM)) : FnOk P w K mg base CX0 6 f fd ["graph"] (spChNum K) := by
  refine F.ok scChNum (fun vs H Q E h => ?_) (fun cdv A outer s H vs Q E hr h => ?_)
  · obtain ⟨x, n, es, rfl, _⟩ := h
    rfl
  obtain ⟨x, n, es, rfl, hx, g, q⟩ := h
  refine ⟨_, pss_cons (ps_expr (pe_call GC hr (by rfl) mC kC bC .nil pass0 (pa_cons (pv 0) pa_nil)))
    (pss_one (ps_ret (pe_ix (r := rIxL K) ix_list (pe_call GM (hr.mono (by decide)) (by rfl) mM kM bM .nil pass0 (pa_cons (pe_call GN (hr.mono (by decide)) (by rfl) mN kN' bN .nil pass0 (pa_cons (pv 0) pa_nil)) pa_nil)) (pe_un un_neg pe_int) (fun _ _ => rfl)))), ?_⟩
  have p1 := Nat.two_pow_pos n
  refine ⟨_, rfl, x, n, es, rfl, hx, g, fun H1 s1 => ?_⟩
  refine ⟨_, rfl, x, n, es, rfl, hx.same s1, g, fun D nb H2 nD s2 hD ok => ⟨D, nb, n, es, rfl, SqL.of hD, ok, g, fun F0 ns H3 s3 hF nl cn => ?_⟩⟩
  exact ⟨_, rfl, F0, _, _, _, rfl, rfl, SqL.of hF, at_end2 nl p1, q (ns.getD (2 ^ n - 1) 0) H3 (s1.trans (s2.trans s3)) (cn _ (by omega))⟩
end
end My

set_option maxHeartbeats 4000000
namespace My
open PySem PySem.Spec PyProof.Rows L2
abbrev sCNum : Stmt := top 15
abbrev sCNums : Stmt := top 19
theorem scCNum : FnScope ["graph"] ["graph"] (defScope sCNum) := ⟨rfl, rfl, rfl, by decide +kernel, rfl, by decide +kernel, by decide +kernel⟩
theorem scCNums : FnScope ["neighbours", "numbers", "mask", "greatest", "without_it", "with_it"] ["neighbours"] (defScope sCNums) := ⟨rfl, rfl, rfl, by decide +kernel, rfl, by decide +kernel, by decide +kernel⟩
def spCNums (K : PySem.W.Frag) : Sp := fun vs H Q _ => ∃ (D : Addr) (nb : List Nat) (n : Nat) (es : List E2), vs = [.ref D] ∧ SqL K H D (numsN nb) ∧ NbOk n es nb ∧ Good n es ∧ ∀ (F : Addr) (ns : List Nat) H', Same H H' → H' F = some (.lst (numsN ns)) → ns.length = 2 ^ n → (∀ k, k < 2 ^ n → CnOk es k (ns.getD k 0)) → Q (.ref F) H'
def spNumC (K : PySem.W.Frag) : Sp := fun vs H Q _ => ∃ (x : V) (n : Nat) (es : List E2), vs = [x] ∧ GraphAt K H x n es ∧ Good n es ∧ ∀ (v : Nat) H', Same H H' → CnOk es (2 ^ n - 1) v → Q (.int (v : Int)) H'
/-- no clique has more vertices than there are colours -/
theorem clq_col {es : List E2} {n v k : Nat} (n9 : n ≤ 9) (h : CnOk es (2 ^ n - 1) v) (hk : ColB es (2 ^ n - 1) k) : v ≤ k := by
  obtain ⟨⟨c, sc, cc, e⟩, _⟩ := h
  obtain ⟨f, hf, hp⟩ := hk
  have nd : ((bitsN 9 c).map f).Nodup := by
    show List.Pairwise _ _
    rw [List.pairwise_map]
    refine List.Pairwise.imp_of_mem ?_ ((bits_up 9 c).imp fun z => Nat.ne_of_lt z)
    intro a b ha hb ne
    exact hp a b (sc a (mem_bits.mp ha).2) (sc b (mem_bits.mp hb).2) (cc a b (mem_bits.mp ha).2 (mem_bits.mp hb).2 ne)
  have z := sub_few nd (m := List.range k) fun x hx => by
    obtain ⟨a, ha, rfl⟩ := List.mem_map.mp hx
    exact List.mem_range.mpr (hf a (sc a (mem_bits.mp ha).2))
  rw [List.length_map, List.length_range] at z
  rw [← e]
  exact z
theorem xor_shl (a b : Nat) : Builtin.bitXor ((a : Nat) : Int) ((1 : Int) * 2 ^ ((b : Nat) : Int).toNat) = ((a ^^^ 2 ^ b : Nat) : Int) := by
  rw [shl_one, Bits.bitXor_pp (Int.natCast_nonneg _) (Int.natCast_nonneg _), Int.toNat_natCast, Int.toNat_natCast]
theorem at_end {ns : List Nat} {m : Nat} (h : ns.length = m) (m1 : 1 ≤ m) : atI (numsN ns) (-1) = some (V.int ((ns.getD (m - 1) 0 : Nat) : Int)) := by
  have ne : ns ≠ [] := fun z => by
    rw [z, List.length_nil] at h
    omega
  have l : ns.getD (m - 1) 0 = ns.getLast ne := by
    rw [List.getLast_eq_getElem, List.getD_eq_getElem?_getD, List.getElem?_eq_getElem (by omega)]
    simp [h]
  have e : numsN ns = numsN ns.dropLast ++ [V.int ((ns.getLast ne : Nat) : Int)] := by
    conv => lhs; rw [← List.dropLast_concat_getLast ne]
    unfold numsN
    rw [List.map_append]
    rfl
  rw [e, l]
  exact atI_last _ _
section
variable {P : Program} {w : World} {K : PySem.W.Frag} {mg : Str → Option Value} {base : Heap} {f fC fN fM : Addr} {fd dC dN dM : FuncData}
theorem ok_clique_numbers (F : L2.Fun K "clique_numbers" "clique_numbers" sCNums f fd) (mr : mg "range" = none) (ml : mg "len" = none) (mx : mg "max" = none) : FnOk P w K mg base CX0 1 f fd ["neighbours"] (spCNums K) := by
  refine F.ok scCNums (fun vs H Q E h => ?_) (fun cdv A outer s H vs Q E hr h => ?_)
  · obtain ⟨D, nb, n, es, rfl, _⟩ := h
    rfl
  obtain ⟨D, nb, n, es, rfl, hD, ok, g, q⟩ := h
  refine ⟨_, pss_cons (ps_set (i := 1) scCNums.nd rfl (.inl rfl) (pe_lst (pa_cons pe_int pa_nil)))
    (pss_cons (ps_for PassesOwn.never rfl (pi_range2 (by rfl) mr (pa_cons pe_int (pa_cons (pe_op op_shl pe_int (pe_callB call_len_seq (by rfl) ml PySem.boot_len (pa_cons (pv 0) pa_nil))) pa_nil))) (pg_name (i := 2) scCNums.nd rfl (.inl rfl))
      (pss_cons (ps_set (i := 3) scCNums.nd rfl (.inl rfl) (pe_op op_sub (pe_bits (pv 2)) pe_int))
      (pss_cons (ps_set (i := 4) scCNums.nd rfl (.inl rfl) (pe_ix (r := rIxL K) ix_list (pv 1) (pe_op op_xor (pv 2) (pe_op op_shl pe_int (pv 3))) (fun _ _ => rfl)))
      (pss_cons (ps_set (i := 5) scCNums.nd rfl (.inl rfl) (pe_op op_add pe_int (pe_ix (r := rIxL K) ix_list (pv 1) (pe_op op_and (pv 2) (pe_ix (r := rIxL K) ix_list (pv 0) (pv 3) (fun _ _ => rfl))) (fun _ _ => rfl))))
      (pss_one (ps_expr (pe_bm PySem.F.plainAttrs_list PySem.F.slot_list_append PySem.F.type_list_append mt_append (pv 1) (pa_cons (pe_callB (call_max2 rfl) (by rfl) mx (by decide +kernel) (pa_cons (pv 4) (pa_cons (pv 5) pa_nil))) pa_nil))))))))
    (pss_one (ps_ret (pv 1)))), ?_⟩
  have n9 := g.n9
  have ln := ok.1
  have p9 : 2 ^ n ≤ 512 := Nat.pow_le_pow_right (by decide) n9
  have p1 := Nat.two_pow_pos n
  refine ⟨(by show 1 ≤ sizeLine; rw [sizeLine_eq]; decide), fun F0 nF0 => ?_⟩
  have s0 := same_new nF0 (.lst [V.int 0])
  have e2 : (1 : Int) * 2 ^ (((numsN nb).length : Nat) : Int).toNat = ((2 ^ n : Nat) : Int) := by
    rw [Int.toNat_natCast, numsN_len, ln, Int.one_mul, Int.natCast_pow]
    rfl
  have h0 := upd_same (H := H) (a := F0) (o := .lst [V.int 0])
  generalize upd H F0 (.lst [V.int 0]) = H0 at s0 h0 ⊢
  refine ⟨_, rfl, D, _, rfl, .inl (Same.seq s0 hD), _, _, rfl, rfl, ⟨by rw [numsN_len]; omega, by rw [numsN_len]; omega, by decide⟩, 1, ((2 ^ n : Nat) : Int), congrArg (fun z : Int => [V.int 1, V.int z]) e2, ⟨by decide, by decide, by omega, by omega⟩, for_range (lo := 1) (n := (((2 ^ n : Nat) : Int) - 1).toNat) (fun i σ H' => ∃ (ns : List Nat) (s2 s3 s4 s5 : Option V), σ = [some (.ref D), some (.ref F0), s2, s3, s4, s5] ∧ Same H H' ∧ H' F0 = some (.lst (numsN ns)) ∧ ns.length = i + 1 ∧ ∀ k, k < i + 1 → CnOk es k (ns.getD k 0))
    ⟨[0], none, none, none, none, rfl, s0, h0, rfl, fun k hk => ?_⟩ ?_ ?_⟩
  · obtain rfl : k = 0 := by omega
    exact cn_zero es
  · rintro i σ H2 li ⟨ns, s2', s3', s4', s5', rfl, s2, hF, nl, cn⟩
    have lm : i + 1 < 2 ^ n := by omega
    have m9 : i + 1 < 512 := by omega
    obtain ⟨ib, t9, tb, tl, tg⟩ := top_ok (i + 1) m9 (by omega)
    obtain ⟨tn, al⟩ := and_less g ok lm (by omega)
    have xl := xor_less m9 (show 1 ≤ i + 1 by omega)
    have em : (1 : Int) + (i : Int) = ((i + 1 : Nat) : Int) := by omega
    rw [em]
    have eb : ((Builtin.Int.intBits ((i + 1 : Nat) : Int) : Nat) : Int) - 1 = ((topN (i + 1) : Nat) : Int) := by
      rw [ib]
      omega
    refine ⟨_, rfl, _, rfl, _, _, rfl, rfl, ?_⟩
    simp only [eb]
    refine ⟨_, rfl, _, rfl, _, rfl, _, _, rfl, rfl, ⟨by omega, by omega, by decide⟩, _, _, rfl, rfl, ?_⟩
    simp only [xor_shl]
    refine ⟨F0, _, _, _, rfl, rfl, SqL.of hF, atI_nat (numsN_get (by omega)), _, rfl, _, rfl, _, rfl, _, rfl, D, _, _, _, rfl, rfl, Same.seq s2 hD, atI_nat (numsN_get (by omega)), _, _, rfl, rfl, ?_⟩
    simp only [and_nn]
    refine ⟨F0, _, _, _, rfl, rfl, SqL.of hF, atI_nat (numsN_get (by omega)), _, _, rfl, rfl, ?_⟩
    refine ⟨_, rfl, .inl ⟨rfl, _, SqL.of hF⟩, _, rfl, _, rfl, _, _, rfl, F0, _, _, rfl, rfl, hF, small1000 (by rw [numsN_len]; omega), ?_⟩
    have eM : (if (1 : Int) + ((ns.getD (i + 1 &&& nb.getD (topN (i + 1)) 0) 0 : Nat) : Int) > ((ns.getD (i + 1 ^^^ 2 ^ topN (i + 1)) 0 : Nat) : Int) then (1 : Int) + ((ns.getD (i + 1 &&& nb.getD (topN (i + 1)) 0) 0 : Nat) : Int) else ((ns.getD (i + 1 ^^^ 2 ^ topN (i + 1)) 0 : Nat) : Int)) = ((max (ns.getD (i + 1 ^^^ 2 ^ topN (i + 1)) 0) (1 + ns.getD (i + 1 &&& nb.getD (topN (i + 1)) 0) 0) : Nat) : Int) := by
      split <;> omega
    refine ⟨ns ++ [max (ns.getD (i + 1 ^^^ 2 ^ topN (i + 1)) 0) (1 + ns.getD (i + 1 &&& nb.getD (topN (i + 1)) 0) 0)], _, _, _, _, rfl, same_put s2 nF0, ?_, by rw [List.length_append, nl]; rfl, fun k hk => ?_⟩
    · rw [upd_same, eM]
      unfold numsN
      rw [List.map_append]
      rfl
    · by_cases c : k < i + 1
      · rw [List.getD_eq_getElem?_getD, List.getElem?_append_left (by omega), ← List.getD_eq_getElem?_getD]
        exact cn k c
      · obtain rfl : k = i + 1 := by omega
        rw [List.getD_eq_getElem?_getD, List.getElem?_append_right (by omega), nl, Nat.sub_self]
        exact cn_step g ok lm (by omega) (cn _ xl) (cn _ al)
  · rintro σ H2 ⟨ns, s2', s3', s4', s5', rfl, s2, hF, nl, cn⟩
    have e3 : (((2 ^ n : Nat) : Int) - 1).toNat + 1 = 2 ^ n := by omega
    rw [e3] at nl cn
    exact ⟨_, rfl, q F0 ns H2 s2 hF nl cn⟩
theorem ok_clique_number (F : L2.Fun K "clique_number" "clique_number" sCNum f fd) (GC : FnOk P w K mg base CX0 5 fC dC ["graph"] (spCheckGraph K)) (bC : L2.Binds K dC ["graph"] []) (kC : PySem.W.keepIn K (.ref fC) = true) (mC : mg "check_graph" = some (.ref fC))
    (GN : FnOk P w K mg base CX0 1 fN dN ["graph"] (spMasks K)) (bN : L2.Binds K dN ["graph"] []) (kN' : PySem.W.keepIn K (.ref fN) = true) (mN : mg "neighbour_masks" = some (.ref fN))
    (GM : FnOk P w K mg base CX0 1 fM dM ["neighbours"] (spCNums K)) (bM : L2.Binds K dM ["neighbours"] []) (kM : PySem.W.keepIn K (.ref fM) = true) (mM : mg "clique_numbers" = some (.ref fM)) : FnOk P w K mg base CX0 6 f fd ["graph"] (spNumC K) := by
  refine F.ok scCNum (fun vs H Q E h => ?_) (fun cdv A outer s H vs Q E hr h => ?_)
  · obtain ⟨x, n, es, rfl, _⟩ := h
    rfl
  obtain ⟨x, n, es, rfl, hx, g, q⟩ := h
  refine ⟨_, pss_cons (ps_expr (pe_call GC hr (by rfl) mC kC bC .nil pass0 (pa_cons (pv 0) pa_nil)))
    (pss_one (ps_ret (pe_ix (r := rIxL K) ix_list (pe_call GM (hr.mono (by decide)) (by rfl) mM kM bM .nil pass0 (pa_cons (pe_call GN (hr.mono (by decide)) (by rfl) mN kN' bN .nil pass0 (pa_cons (pv 0) pa_nil)) pa_nil)) (pe_un un_neg pe_int) (fun _ _ => rfl)))), ?_⟩
  have p1 := Nat.two_pow_pos n
  refine ⟨_, rfl, x, n, es, rfl, hx, g, fun H1 s1 => ?_⟩
  refine ⟨_, rfl, x, n, es, rfl, hx.same s1, g, fun D nb H2 nD s2 hD ok => ⟨D, nb, n, es, rfl, SqL.of hD, ok, g, fun F0 ns H3 s3 hF nl cn => ?_⟩⟩
  refine ⟨_, rfl, F0, _, _, _, rfl, rfl, SqL.of hF, ?_, q (ns.getD (2 ^ n - 1) 0) H3 (s1.trans (s2.trans s3)) (cn _ (by omega))⟩
  exact at_end nl p1
end
end My

set_option maxHeartbeats 4000000
/-! A colouring made class by class. -/
namespace My
open PySem PySem.Spec PyProof.Rows L2
def setAll (cs l : List Nat) (k : Nat) : List Nat := l.foldl (fun cs u => cs.set u k) cs
theorem setAll_len (k : Nat) : ∀ (l cs : List Nat), (setAll cs l k).length = cs.length
  | [], cs => rfl
  | a :: l, cs => by
    show (setAll (cs.set a k) l k).length = _
    rw [setAll_len k l, List.length_set]
theorem setAll_get (k u : Nat) : ∀ (l cs : List Nat), (∀ a ∈ l, a < cs.length) → (setAll cs l k).getD u 0 = if u ∈ l then k else cs.getD u 0
  | [], cs, _ => by simp [setAll]
  | a :: l, cs, h => by
    show (setAll (cs.set a k) l k).getD u 0 = _
    rw [setAll_get k u l (cs.set a k) fun b hb => by rw [List.length_set]; exact h b (List.mem_cons_of_mem _ hb)]
    by_cases c : u ∈ l
    · rw [if_pos c, if_pos (List.mem_cons_of_mem _ c)]
    · rw [if_neg c]
      by_cases e : u = a
      · subst e
        rw [if_pos (List.mem_cons_self ..), List.getD_eq_getElem?_getD, List.getElem?_set_self (h u (List.mem_cons_self ..))]
        rfl
      · rw [if_neg (by simp [e, c]), List.getD_eq_getElem?_getD, List.getElem?_set_ne (Ne.symm e), ← List.getD_eq_getElem?_getD]
structure MakeOk (es : List E2) (n v : Nat) (num : Nat → Nat) (L : Nat) (cs : List Nat) : Prop where
  len : cs.length = n
  lt : L < 2 ^ n
  le : num L ≤ v
  few : ∀ u, u < n → L.testBit u = false → num L ≤ cs.getD u 0 ∧ cs.getD u 0 < v
  all : ∀ c, num L ≤ c → c < v → ∃ u, u < n ∧ L.testBit u = false ∧ cs.getD u 0 = c
  ok : ∀ a b, a < n → b < n → L.testBit a = false → L.testBit b = false → adjB es a b = true → cs.getD a 0 ≠ cs.getD b 0
theorem make_start {es : List E2} {n : Nat} {num : Nat → Nat} {cs : List Nat} (h : cs.length = n) : MakeOk es n (num (2 ^ n - 1)) num (2 ^ n - 1) cs := by
  have p := Nat.two_pow_pos n
  have full : ∀ u, u < n → (2 ^ n - 1).testBit u = true := fun u hu => by
    rw [Nat.testBit_two_pow_sub_one]
    exact decide_eq_true hu
  refine ⟨h, by omega, Nat.le_refl _, fun u hu z => ?_, fun c h1 h2 => by omega, fun a b ha _ za => ?_⟩
  · rw [full u hu] at z
    cases z
  · rw [full a ha] at za
    cases za
theorem make_step {es : List E2} {n v : Nat} {num : Nat → Nat} {L c : Nat} {cs : List Nat} (gd : Good n es) (num_ok : ∀ k, k < 2 ^ n → ChOk es k (num k)) (h : MakeOk es n v num L cs) (t : Nat) (tc : c.testBit t = true) (sc : SubN c L) (st : Stb es c) (less : num (L ^^^ c) < num L) :
    MakeOk es n v num (L ^^^ c) (setAll cs (bitsN n c) (num L - 1)) := by
  have ir : ∀ u, adjB es u u = false := fun u => by
    cases e : adjB es u u with
    | false => rfl
    | true => exact absurd rfl (adj_ne gd e).1
  have lt' : L ^^^ c < 2 ^ n := Nat.xor_lt_two_pow h.lt (Nat.lt_of_le_of_lt sc.le h.lt)
  have eq : num (L ^^^ c) = num L - 1 := by
    have z := (num_ok L h.lt).2 _ (ch_high sc st ir (num_ok _ lt').1)
    omega
  have get : ∀ u, u < n → (setAll cs (bitsN n c) (num L - 1)).getD u 0 = if c.testBit u = true then num L - 1 else cs.getD u 0 := fun u hu => by
    rw [setAll_get _ _ _ _ fun a ha => by rw [h.len]; exact (mem_bits.mp ha).1]
    by_cases e : c.testBit u = true
    · rw [if_pos (mem_bits.mpr ⟨hu, e⟩), if_pos e]
    · rw [if_neg (fun z => e (mem_bits.mp z).2), if_neg e]
  have out : ∀ u, (L ^^^ c).testBit u = false → c.testBit u = true ∨ (c.testBit u = false ∧ L.testBit u = false) := fun u hu => by
    rw [xor_sub sc] at hu
    cases e : c.testBit u with
    | true => exact .inl rfl
    | false =>
      rw [e] at hu
      refine .inr ⟨rfl, ?_⟩
      simpa using hu
  have inC : ∀ u, c.testBit u = true → u < n := fun u hu => by
    by_cases z : u < n
    · exact z
    · rw [high_out (Nat.lt_of_le_of_lt sc.le h.lt) (by omega)] at hu
      cases hu
  refine ⟨by rw [setAll_len]; exact h.len, lt', by have := h.le; omega, fun u hu z => ?_, fun k h1 h2 => ?_, fun a b ha hb za zb ad => ?_⟩
  · rw [get u hu, eq]
    rcases out u z with e | ⟨e, e2⟩
    · rw [if_pos e]
      have := h.le
      omega
    · rw [if_neg (by rw [e]; decide)]
      have := h.few u hu e2
      omega
  · by_cases e : k = num L - 1
    · refine ⟨t, inC t tc, by rw [xor_sub sc, tc]; exact Bool.and_false _, ?_⟩
      rw [get t (inC t tc), if_pos tc, e]
    · obtain ⟨u, hu, e1, e2⟩ := h.all k (by omega) h2
      have cu : c.testBit u = false := by
        cases y : c.testBit u with
        | false => rfl
        | true =>
          rw [sc u y] at e1
          cases e1
      refine ⟨u, hu, by rw [xor_sub sc, e1]; rfl, ?_⟩
      rw [get u hu, if_neg (by rw [cu]; decide)]
      exact e2
  · rw [get a ha, get b hb]
    rcases out a za with ea | ⟨ea, ea2⟩
    · rcases out b zb with eb | ⟨eb, eb2⟩
      · by_cases ne : a = b
        · subst ne
          rw [ir] at ad
          cases ad
        · rw [st a b ea eb ne] at ad
          cases ad
      · rw [if_pos ea, if_neg (by rw [eb]; decide)]
        have := h.few b hb eb2
        omega
    · rcases out b zb with eb | ⟨eb, eb2⟩
      · rw [if_neg (by rw [ea]; decide), if_pos eb]
        have := h.few a ha ea2
        omega
      · rw [if_neg (by rw [ea]; decide), if_neg (by rw [eb]; decide)]
        exact h.ok a b ha hb ea2 eb2 ad
/-- there is a class to go on with -/
theorem best_some {n : Nat} {es : List E2} {L : Nat} {row : List Nat} {num : Nat → Nat} (lt : L < 2 ^ n) (n9 : n ≤ 9) (m1 : 1 ≤ L) (ro : RowOk es (topN L) row) (num_ok : ∀ k, k < 2 ^ n → ChOk es k (num k)) : 0 < ((row.filter fun c => c &&& L == c).filter fun c => decide (num (L ^^^ c) < num L)).length := by
  have m9 : L < 512 := Nat.lt_of_lt_of_le lt (Nat.pow_le_pow_right (by decide) n9)
  obtain ⟨_, t9, tb, tl, tg⟩ := top_ok L m9 m1
  obtain ⟨c, sc, c2, c3, k1, ck⟩ := ch_low lt tb (num_ok L lt).1
  have lt' : L ^^^ c < 2 ^ n := Nat.xor_lt_two_pow lt (Nat.lt_of_le_of_lt sc.le lt)
  have z := (num_ok _ lt').2 _ ck
  exact List.length_pos_of_mem (List.mem_filter.mpr ⟨List.mem_filter.mpr ⟨(ro c).mpr ⟨Nat.lt_of_le_of_lt sc.le tl, c2, c3⟩, beq_iff_eq.mpr ((sub_and c L).mpr sc)⟩, decide_eq_true (by omega)⟩)
end My

set_option maxHeartbeats 8000000
namespace My
open PySem PySem.Spec PyProof.Rows L2
abbrev sColg : Stmt := top (16 + 2)
theorem scColg : FnScope ["graph", "neighbours", "numbers", "rows", "colours", "left", "fitting", "best", "vertex", "mask"] ["graph"] (defScope sColg) := ⟨rfl, rfl, rfl, by decide +kernel, rfl, by decide +kernel, by decide +kernel⟩
/-- a colouring with v colours, each of them used -/
structure TellsCol (es : List E2) (n v : Nat) (cs : List Nat) : Prop where
  len : cs.length = n
  few : ∀ u, u < n → cs.getD u 0 < v
  all : ∀ c, c < v → ∃ u, u < n ∧ cs.getD u 0 = c
  ok : ∀ a b, a < n → b < n → adjB es a b = true → cs.getD a 0 ≠ cs.getD b 0
def spColg (K : PySem.W.Frag) : Sp := fun vs H Q _ => ∃ (x : V) (n : Nat) (es : List E2), vs = [x] ∧ GraphAt K H x n es ∧ Good n es ∧ ∀ (t : Addr) (cs : List Nat) (v : Nat) H', Same H H' → H' t = some (.tup (numsN cs)) → ChOk es (2 ^ n - 1) v → TellsCol es n v cs → Q (.ref t) H'
section
variable {X : Cx}
theorem ip_xor : PIp X .BitXor (ipI fun i j => Builtin.bitXor i j) := by
  intro pins s σ H x y v u Q I r1 r2 h
  obtain ⟨i, j, e1, e2, q⟩ := h
  subst e1; subst e2
  obtain ⟨t, rfl⟩ := r1
  obtain ⟨t', rfl⟩ := r2
  exact ixor_int ⟨.int _, H, I.tok _, ⟨_, rfl⟩, q⟩
end
section
variable {P : Program} {w : World} {K : PySem.W.Frag} {mg : Str → Option Value} {base : Heap} {f fC fN fM fR fL : Addr} {fd dC dN dM dR dL : FuncData}
theorem ok_colouring (F : L2.Fun K "colouring" "colouring" sColg f fd) (GC : FnOk P w K mg base CX0 5 fC dC ["graph"] (spCheckGraph K)) (bC : L2.Binds K dC ["graph"] []) (kC : PySem.W.keepIn K (.ref fC) = true) (mC : mg "check_graph" = some (.ref fC))
    (GN : FnOk P w K mg base CX0 1 fN dN ["graph"] (spMasks K)) (bN : L2.Binds K dN ["graph"] []) (kN' : PySem.W.keepIn K (.ref fN) = true) (mN : mg "neighbour_masks" = some (.ref fN))
    (GM : FnOk P w K mg base CX0 2 fM dM ["neighbours"] (spChNums K)) (bM : L2.Binds K dM ["neighbours"] []) (kM : PySem.W.keepIn K (.ref fM) = true) (mM : mg "chromatic_numbers" = some (.ref fM))
    (GR : FnOk P w K mg base CX0 1 fR dR ["neighbours"] (spRows K)) (bR : L2.Binds K dR ["neighbours"] []) (kR : PySem.W.keepIn K (.ref fR) = true) (mR : mg "_stable_masks_by_greatest" = some (.ref fR))
    (GL : FnOk P w K mg base CX0 1 fL dL ["mask"] (spLotOf K)) (bL : L2.Binds K dL ["mask"] []) (kL : PySem.W.keepIn K (.ref fL) = true) (mL : mg "lot_of" = some (.ref fL))
    (ml : mg "len" = none) (mt : mg "tuple" = none) : FnOk P w K mg base CX0 6 f fd ["graph"] (spColg K) := by
  refine F.ok scColg (fun vs H Q E h => ?_) (fun cdv A outer s H vs Q E hr h => ?_)
  · obtain ⟨x, n, es, rfl, _⟩ := h
    rfl
  obtain ⟨x, n, es, rfl, hx, g, q⟩ := h
  have h1 := hr.mono (show 1 ≤ 5 by decide)
  have h2 := hr.mono (show 2 ≤ 5 by decide)
  refine ⟨_, pss_cons (ps_expr (pe_call GC hr (by rfl) mC kC bC .nil pass0 (pa_cons (pv 0) pa_nil)))
    (pss_cons (ps_set (i := 1) scColg.nd rfl (.inl rfl) (pe_call GN h1 (by rfl) mN kN' bN .nil pass0 (pa_cons (pv 0) pa_nil)))
    (pss_cons (ps_set (i := 2) scColg.nd rfl (.inr rfl) (pe_call GM h2 (by rfl) mM kM bM .nil pass0 (pa_cons (pv 1) pa_nil)))
    (pss_cons (ps_set (i := 3) scColg.nd rfl (.inl rfl) (pe_call GR h1 (by rfl) mR kR bR .nil pass0 (pa_cons (pv 1) pa_nil)))
    (pss_cons (ps_set (i := 4) scColg.nd rfl (.inl rfl) (pe_op op_rep (pe_lst (pa_cons pe_int pa_nil)) (pe_callB call_len_seq (by rfl) ml PySem.boot_len (pa_cons (pv 1) pa_nil))))
    (pss_cons (ps_set (i := 5) scColg.nd rfl (.inr rfl) (pe_op op_sub (pe_callB call_len_seq (by rfl) ml PySem.boot_len (pa_cons (pv 2) pa_nil)) pe_int))
    (pss_cons (ps_while PassesOwn.never (pt_truth (pv 5) (by intro _; rfl))
      (pss_cons (ps_setLc (i := 6) (own := [("mask", 9)]) (g := gName 9) (tt := tTest (tOp rEq (tOp (rI0 fun i j => .int (Builtin.bitAnd i j)) (tVar 9) (tVar 5)) (tVar 9))) rfl scColg.nd rfl rfl (sw_true rfl rfl rfl (by decide +kernel)) (pi_list (pe_ix (r := rIxL K) ix_list (pv 3) (pe_op op_sub (pe_bits (pv 5)) pe_int) (fun _ _ => rfl)))
          (blkOk_by (N := ["graph", "neighbours", "numbers", "rows", "colours", "left", "fitting", "best", "vertex", "mask"]) (sc := defScope sColg) (by decide +kernel)) (fun _ _ _ _ _ => pg_name (i := 9) scColg.nd rfl (Or.inl rfl))
          (fun _ _ _ _ _ => pts_one (pt_cmpR (r := rEq) op_eq (pe_op op_and (pv 9) (pv 5)) (pv 9) (nomark _)))
          (fun _ _ _ _ _ => pv 9))
      (pss_cons (ps_setLc (i := 7) (own := [("mask", 9)]) (g := gName 9) (tt := tTest (tOp (rI0 fun i j => .bl (decide (i < j))) (tOp (rIxL K) (tVar 2) (tOp (rI0 fun i j => .int (Builtin.bitXor i j)) (tVar 5) (tVar 9))) (tOp (rIxL K) (tVar 2) (tVar 5)))) rfl scColg.nd rfl rfl (sw_true rfl rfl rfl (by decide +kernel)) (pi_list (pv 6))
          (blkOk_by (N := ["graph", "neighbours", "numbers", "rows", "colours", "left", "fitting", "best", "vertex", "mask"]) (sc := defScope sColg) (by decide +kernel)) (fun _ _ _ _ _ => pg_name (i := 9) scColg.nd rfl (Or.inl rfl))
          (fun _ _ _ _ _ => pts_one (pt_cmpR op_lt (pe_ix (r := rIxL K) ix_list (pv 2) (pe_op op_xor (pv 5) (pv 9)) (fun _ _ => rfl)) (pe_ix (r := rIxL K) ix_list (pv 2) (pv 5) (fun _ _ => rfl)) (nomark _)))
          (fun _ _ _ _ _ => pv 9))
      (pss_cons (ps_for PassesOwn.never rfl (pi_tup (pe_call GL h1 (by rfl) mL kL bL .nil pass0 (pa_cons (pe_ix (r := rIxL K) ix_list (pv 7) pe_int (fun _ _ => rfl)) pa_nil))) (pg_name (i := 8) scColg.nd rfl (.inl rfl))
        (pss_one (ps_asg (pe_op op_sub (pe_ix (r := rIxL K) ix_list (pv 2) (pv 5) (fun _ _ => rfl)) pe_int) (pg_sub (pv 4) (pv 8) set_list))))
      (pss_one (ps_aug (i := 5) scColg.nd rfl (.inr rfl) (pe_ix (r := rIxL K) ix_list (pv 7) pe_int (fun _ _ => rfl)) ip_xor))))))
    (pss_one (ps_ret (pe_callTy call_tuple_of (by rfl) mt (by decide +kernel) (pa_cons (pv 4) pa_nil)))))))))), ?_⟩
  have n9 := g.n9
  have p9 : 2 ^ n ≤ 512 := Nat.pow_le_pow_right (by decide) n9
  have p1 := Nat.two_pow_pos n
  refine ⟨_, rfl, x, n, es, rfl, hx, g, fun H1 s1 => ?_⟩
  refine ⟨_, rfl, x, n, es, rfl, hx.same s1, g, fun D nb H2 nD s2 hD ok => ?_⟩
  have ln := ok.1
  refine ⟨_, rfl, D, nb, n, es, rfl, SqL.of hD, ok, g, fun FN ns H3 s3 hN nl cn => ?_⟩
  have hD3 := s3 _ _ hD
  refine ⟨_, rfl, D, nb, n, es, rfl, SqL.of hD3, ok, n9, fun R xs rows H4 s4 hR hro rl ar => ?_⟩
  have xl := hro.len
  have hD4 := s4 _ _ hD3
  have hN4 := s4 _ _ hN
  refine ⟨(by show 1 ≤ sizeLine; rw [sizeLine_eq]; decide), fun z nz => ?_⟩
  have sz := same_new nz (.lst [V.int 0])
  have hz := upd_same (H := H4) (a := z) (o := .lst [V.int 0])
  refine ⟨_, rfl, D, _, rfl, .inl (SqL.of (sz _ _ hD4)), z, _, [.int 0], rfl, rfl, hz, by rw [numsN_len]; omega, by rw [numsN_len]; omega, small (by rw [Int.toNat_natCast, List.length_singleton, numsN_len]; omega), fun C nC => ?_⟩
  have e0 : (List.replicate (((numsN nb).length : Nat) : Int).toNat [V.int 0]).flatten = numsN (List.replicate n 0) := by
    rw [Int.toNat_natCast, numsN_len, ln]
    unfold numsN
    rw [List.map_replicate, List.flatten_replicate_singleton]
    rfl
  rw [e0]
  have sC := same_new nC (.lst (numsN (List.replicate n 0)))
  have nC4 : H4 C = none := sz.free nC
  have hC := upd_same (H := upd H4 z (.lst [V.int 0])) (a := C) (o := .lst (numsN (List.replicate n 0)))
  have s45 := sz.trans sC
  generalize upd (upd H4 z (.lst [V.int 0])) C (.lst (numsN (List.replicate n 0))) = H5 at hC s45 ⊢
  have eL : (((numsN ns).length : Nat) : Int) - 1 = ((2 ^ n - 1 : Nat) : Int) := by
    rw [numsN_len, nl]
    omega
  refine ⟨_, rfl, FN, _, rfl, .inl (SqL.of (s45 _ _ hN4)), _, _, rfl, rfl, ?_⟩
  simp only [eL]
  obtain ⟨W, hW⟩ : ∃ W : Nat → L2.St → Hp → Prop, W = fun (L : Nat) σ H' => ∃ (cs : List Nat) (s6 s7 s8 : Option V), σ = [some x, some (.ref D), some (.ref FN), some (.ref R), some (.ref C), some (.int (L : Int)), s6, s7, s8, none] ∧ Same H4 H' ∧ H' C = some (.lst (numsN cs)) ∧ MakeOk es n (ns.getD (2 ^ n - 1) 0) (fun k => ns.getD k 0) L cs := ⟨_, rfl⟩
  refine ⟨W, ⟨2 ^ n - 1, ?_⟩, ?_⟩
  · rw [hW]
    exact ⟨List.replicate n 0, none, none, none, rfl, s45, hC, make_start (num := fun k => ns.getD k 0) (List.length_replicate ..)⟩
  rintro L σ H6 w6
  rw [hW] at w6
  obtain ⟨cs, s6', s7', s8', rfl, s6, hC6, mk⟩ := w6
  have Llt := mk.lt
  refine ⟨_, rfl, _, rfl, iteB (fun c => ?_) (fun c => ?_)⟩
  · have L1 : 1 ≤ L := by
      have c' : (L : Int) ≠ 0 := by simpa using c
      omega
    refine ⟨fun σ' H' => ∃ m', m' < L ∧ W m' σ' H', fun σ' H' h => h, ?_⟩
    have L9 : L < 512 := by omega
    obtain ⟨ib, t9, tb, tl, tg⟩ := top_ok L L9 L1
    obtain ⟨tn, _⟩ := and_less g ok Llt L1
    have eb : ((Builtin.Int.intBits ((L : Nat) : Int) : Nat) : Int) - 1 = ((topN L : Nat) : Int) := by
      rw [ib]
      omega
    obtain ⟨rr, er, hr0⟩ := hro.get (i := topN L) (by omega)
    obtain ⟨ro, rfew⟩ := ar (topN L) (by omega)
    generalize rows.getD (topN L) [] = row at hr0 ro rfew
    have bs := best_some (num := fun k => ns.getD k 0) Llt n9 L1 ro cn
    refine ⟨_, rfl, _, rfl, _, rfl, _, _, rfl, rfl, ?_⟩
    simp only [eb]
    have hr2 := s6 _ _ hr0
    refine ⟨R, _, _, _, rfl, rfl, SqL.of (s6 _ _ hR), atI_nat er, rr, rfl, ⟨_, SqL.of hr2⟩, fun B nB => lo_it (walk_list (xs := numsN row)) (fun j H7 => Same H6 H7 ∧ H7 B = some (.lst (numsN ((row.take j).filter fun c => c &&& L == c)))) ⟨same_new nB _, upd_same⟩ (fun j H7 _ ⟨s7, _⟩ => SqL.of (s7 _ _ hr2)) ?_ ?_⟩
    · rintro j x _ H7 lj ⟨s7, hB⟩ ⟨rfl, hj⟩
      unfold numsN at hj
      rw [List.getElem?_map] at hj
      cases e : row[j]? with
      | none => rw [e] at hj; cases hj
      | some c =>
        rw [e] at hj
        cases hj
        have tk := take_succ e
        refine ⟨rfl, ?_⟩
        refine ⟨_, rfl, _, rfl, _, _, rfl, rfl, _, rfl, rfl, _, rfl, ?_⟩
        simp only [and_nn]
        rw [ev_masks]
        have fl : ((row.take j).filter fun c => c &&& L == c).length ≤ 512 := by
          refine Nat.le_trans (List.length_filter_le _ _) ?_
          rw [List.length_take]
          omega
        refine iteB (fun cc => ?_) (fun cc => ?_)
        · refine ⟨_, rfl, _, hB, small1000 (by rw [numsN_len]; omega), same_put s7 nB, ?_⟩
          rw [upd_same, tk, List.filter_append, List.filter_cons_of_pos (p := fun c => c &&& L == c) cc]
          unfold numsN
          rw [List.map_append]
          rfl
        · refine ⟨s7, ?_⟩
          rw [hB, tk, List.filter_append, List.filter_cons_of_neg (p := fun c => c &&& L == c) (by rw [cc]; decide), List.filter_nil, List.append_nil]
    · rintro H7 ⟨s7, hB⟩
      rw [numsN_len, List.take_length] at hB
      have ffew : (row.filter fun c => c &&& L == c).length ≤ 512 := Nat.le_trans (List.length_filter_le _ _) rfew
      have props : ∀ c ∈ row.filter fun c => c &&& L == c, SubN c L ∧ c.testBit (topN L) = true ∧ Stb es c := fun c hc => by
        obtain ⟨hc, sb⟩ := List.mem_filter.mp hc
        exact ⟨(sub_and c _).mp (beq_iff_eq.mp sb), ((ro c).mp hc).2.1, ((ro c).mp hc).2.2⟩
      generalize efit : (row.filter fun c => c &&& L == c) = fit at hB ffew bs props
      have hN7 := s7 _ _ (s6 _ _ hN4)
      have less : ∀ c ∈ fit, L ^^^ c < 2 ^ n := fun c hc => Nat.lt_trans (sub_less L9 L1 (props c hc).1 (props c hc).2.1) Llt
      refine ⟨_, rfl, B, rfl, ⟨_, SqL.of hB⟩, fun B2 nB2 => lo_it (walk_list (xs := numsN fit)) (fun j H8 => Same H7 H8 ∧ H8 B2 = some (.lst (numsN ((fit.take j).filter fun c => decide (ns.getD (L ^^^ c) 0 < ns.getD L 0))))) ⟨same_new nB2 _, upd_same⟩ (fun j H8 _ ⟨s8, _⟩ => SqL.of (s8 _ _ hB)) ?_ ?_⟩
      · rintro j x _ H8 lj ⟨s8, hB2⟩ ⟨rfl, hj⟩
        unfold numsN at hj
        rw [List.getElem?_map] at hj
        cases e : fit[j]? with
        | none => rw [e] at hj; cases hj
        | some c =>
          rw [e] at hj
          cases hj
          have tk := take_succ e
          have cl := less c (List.mem_of_getElem? e)
          have hN8 := s8 _ _ hN7
          refine ⟨rfl, ?_⟩
          refine ⟨_, rfl, _, rfl, _, rfl, _, _, rfl, rfl, ?_⟩
          simp only [xor_nn]
          refine ⟨FN, _, _, _, rfl, rfl, SqL.of hN8, atI_nat (numsN_get (by omega)), _, rfl, _, rfl, FN, _, _, _, rfl, rfl, SqL.of hN8, atI_nat (numsN_get (by omega)), _, _, rfl, rfl, _, rfl, ?_⟩
          have ev : decide (((ns.getD (L ^^^ c) 0 : Nat) : Int) < ((ns.getD L 0 : Nat) : Int)) = decide (ns.getD (L ^^^ c) 0 < ns.getD L 0) := decide_eq_decide.mpr ⟨fun z => by omega, fun z => by omega⟩
          rw [ev]
          have fl : ((fit.take j).filter fun c => decide (ns.getD (L ^^^ c) 0 < ns.getD L 0)).length ≤ 512 := by
            refine Nat.le_trans (List.length_filter_le _ _) ?_
            rw [List.length_take]
            omega
          refine iteB (fun cc => ?_) (fun cc => ?_)
          · refine ⟨_, rfl, _, hB2, small1000 (by rw [numsN_len]; omega), same_put s8 nB2, ?_⟩
            rw [upd_same, tk, List.filter_append, List.filter_cons_of_pos (p := fun c => decide (ns.getD (L ^^^ c) 0 < ns.getD L 0)) cc]
            unfold numsN
            rw [List.map_append]
            rfl
          · refine ⟨s8, ?_⟩
            rw [hB2, tk, List.filter_append, List.filter_cons_of_neg (p := fun c => decide (ns.getD (L ^^^ c) 0 < ns.getD L 0)) (by rw [cc]; decide), List.filter_nil, List.append_nil]
      · rintro H8 ⟨s8, hB2⟩
        rw [numsN_len, List.take_length] at hB2
        have bprops : ∀ c ∈ fit.filter fun c => decide (ns.getD (L ^^^ c) 0 < ns.getD L 0), c ∈ fit ∧ ns.getD (L ^^^ c) 0 < ns.getD L 0 := fun c hc => ⟨(List.mem_filter.mp hc).1, of_decide_eq_true (List.mem_filter.mp hc).2⟩
        generalize (fit.filter fun c => decide (ns.getD (L ^^^ c) 0 < ns.getD L 0)) = best at hB2 bs bprops
        obtain ⟨c0, rest, rfl⟩ : ∃ c0 rest, best = c0 :: rest := by
          cases best with
          | nil => exact absurd bs (by simp)
          | cons a r => exact ⟨a, r, rfl⟩
        obtain ⟨c0f, c0l⟩ := bprops c0 (List.mem_cons_self ..)
        obtain ⟨sc, tc, st⟩ := props c0 c0f
        have c0n : c0 < 2 ^ n := Nat.lt_of_le_of_lt sc.le Llt
        have step := make_step g cn mk (topN L) tc sc st c0l
        have s68 := s7.trans s8
        have BC : B2 ≠ C := fun z => by
          have := s68 _ _ hC6
          have z2 := s7 _ _ hC6
          rw [z, z2] at nB2
          cases nB2
        refine ⟨_, rfl, B2, _, 0, _, rfl, rfl, SqL.of hB2, atI_nat (j := 0) rfl, c0, n, rfl, c0n, n9, fun t H9 nt s9 ht => ?_⟩
        have hC9 := s9 _ _ (s68 _ _ hC6)
        have hB9 := s9 _ _ hB2
        have hN9 := s9 _ _ (s8 _ _ hN7)
        have s49 := s6.trans (s68.trans s9)
        have one : ((ns.getD L 0 : Nat) : Int) - 1 = ((ns.getD L 0 - 1 : Nat) : Int) := by omega
        have tC' : t ≠ C := fun z => by
          rw [z, hC9] at ht
          cases ht
        have nlt : ∀ u ∈ bitsN n c0, u < cs.length := fun u hu => by rw [mk.len]; exact (mem_bits.mp hu).1
        refine ⟨t, rfl, ⟨_, SqT.of ht⟩, for_it (walk_tup (xs := (bitsN n c0).map fun k => V.int ((k : Nat) : Int))) (fun j σ H' => ∃ (s8 : Option V), σ = [some x, some (.ref D), some (.ref FN), some (.ref R), some (.ref C), some (.int (L : Int)), some (.ref B), some (.ref B2), s8, none] ∧ Same H4 H' ∧ H' FN = some (.lst (numsN ns)) ∧ H' B2 = some (.lst (numsN (c0 :: rest))) ∧ H' t = some (.tup ((bitsN n c0).map fun k => V.int ((k : Nat) : Int))) ∧ H' C = some (.lst (numsN (setAll cs ((bitsN n c0).take j) (ns.getD L 0 - 1)))))
          ⟨_, rfl, s49, hN9, hB9, ht, hC9⟩ (fun j σ H' _ ⟨_, _, _, _, _, e, _⟩ => SqT.of e) ?_ ?_⟩
        · rintro j x σ _ H10 lj ⟨s8', rfl, s10, hN10, hB10, ht10, hC10⟩ ⟨rfl, hj⟩
          rw [List.getElem?_map] at hj
          cases e : (bitsN n c0)[j]? with
          | none => rw [e] at hj; cases hj
          | some u =>
            rw [e] at hj
            cases hj
            have ul := nlt u (List.mem_of_getElem? e)
            refine ⟨_, rfl, _, rfl, FN, _, _, _, rfl, rfl, SqL.of hN10, atI_nat (numsN_get (by omega)), _, _, rfl, rfl, ?_⟩
            simp only [one]
            have FC : FN ≠ C := ne_of_none hN4 nC4
            refine ⟨_, rfl, _, rfl, C, _, _, u, rfl, rfl, hC10, by rw [numsN_len, setAll_len]; exact ixN_of ul, _, rfl, same_put s10 nC4, by rw [upd_ne FC]; exact hN10, by rw [upd_ne BC]; exact hB10, by rw [upd_ne tC']; exact ht10, ?_⟩
            rw [upd_same, numsN_set, take_succ e]
            unfold setAll
            rw [List.foldl_append]
            rfl
        · rintro σ H10 ⟨s8', rfl, s10, hN10, hB10, ht10, hC10⟩
          rw [List.length_map, List.take_length] at hC10
          refine ⟨_, rfl, _, rfl, B2, _, 0, _, rfl, rfl, SqL.of hB10, atI_nat (j := 0) rfl, _, _, rfl, rfl, L ^^^ c0, sub_less L9 L1 sc tc, ?_⟩
          rw [hW]
          refine ⟨_, some (.ref B), some (.ref B2), s8', ?_, s10, hC10, step⟩
          simp only [xor_nn]
          rfl
  · have L0 : L = 0 := by
      have c' : (L : Int) = 0 := by simpa using c
      omega
    subst L0
    refine ⟨_, rfl, C, _, rfl, .inl ⟨SqL.of hC6, fun t nt => ?_⟩⟩
    have z0 : ns.getD 0 0 = 0 := by
      have := (cn 0 p1).2 0 (ch_zero es).1
      omega
    refine q t cs (ns.getD (2 ^ n - 1) 0) _ (s1.trans (s2.trans (s3.trans (s4.trans (s6.trans (same_new nt _)))))) upd_same (cn _ (by omega)) ⟨mk.len, fun u hu => (mk.few u hu (Nat.zero_testBit u)).2, fun c hc => ?_, fun a b ha hb ad => mk.ok a b ha hb (Nat.zero_testBit a) (Nat.zero_testBit b) ad⟩
    obtain ⟨u, hu, _, e⟩ := mk.all c (by show ns.getD 0 0 ≤ c; omega) hc
    exact ⟨u, hu, e⟩
end
end My

set_option maxHeartbeats 4000000
namespace My
open PySem PySem.Spec PyProof.Rows L2
abbrev sTied : Stmt := top 38
theorem scTied : FnScope ["graph", "u", "v"] ["graph", "u", "v"] (defScope sTied) := ⟨rfl, rfl, rfl, by decide +kernel, rfl, by decide +kernel, by decide +kernel⟩
def spTied (K : PySem.W.Frag) : Sp := fun vs H Q _ => ∃ (x : V) (n : Nat) (es : List E2) (u v : Nat), vs = [x, .int (u : Int), .int (v : Int)] ∧ GraphAt K H x n es ∧ ∀ H', Same H H' → Q (.bl (adjB es u v)) H'
section
variable {P : Program} {w : World} {K : PySem.W.Frag} {mg : Str → Option Value} {base : Heap} {f : Addr} {fd : FuncData}
theorem ok_tied (F : L2.Fun K "_law_is_tied" "_law_is_tied" sTied f fd) (mn : mg "min" = none) (mx : mg "max" = none) : FnOk P w K mg base CX0 1 f fd ["graph", "u", "v"] (spTied K) := by
  refine F.ok scTied (fun vs H Q E h => ?_) (fun cdv A outer s H vs Q E hr h => ?_)
  · obtain ⟨x, n, es, u, v, rfl, _⟩ := h
    rfl
  obtain ⟨x, n, es, a, b, rfl, hx, q⟩ := h
  refine ⟨_, pss_one (ps_ret (pe_cmpR (r := rInP id K) (op_inP hr.units) (pe_tup (pa_cons (pe_callB (call_min2 rfl) (by rfl) mn (by decide +kernel) (pa_cons (pv 1) (pa_cons (pv 2) pa_nil))) (pa_cons (pe_callB (call_max2 rfl) (by rfl) mx (by decide +kernel) (pa_cons (pv 1) (pa_cons (pv 2) pa_nil))) pa_nil))) (pe_ix (r := rIxT K) ix_tup (pv 0) pe_int (fun _ _ => rfl)) (by rfl))), ?_⟩
  refine ⟨_, rfl, _, rfl, _, _, rfl, _, rfl, _, rfl, _, _, rfl, (by show 2 ≤ sizeLine; decide), fun t nt => ?_⟩
  have e1 : (if (b : Int) < (a : Int) then (b : Int) else (a : Int)) = ((min a b : Nat) : Int) := by split <;> omega
  have e2 : (if (b : Int) > (a : Int) then (b : Int) else (a : Int)) = ((max a b : Nat) : Int) := by split <;> omega
  rw [e1, e2]
  have s1 := same_new nt (.tup [.int ((min a b : Nat) : Int), .int ((max a b : Nat) : Int)])
  obtain ⟨t', e, ys, rfl, ht, he, hes⟩ := hx.same s1
  have a1 : atI [V.int (n : Int), V.ref e] 1 = some (.ref e) := atI_nat (j := 1) rfl
  exact ⟨_, rfl, t', _, 1, _, rfl, rfl, ht, a1, (min a b, max a b), e, ys, es, ⟨t, rfl, SqT.of upd_same⟩, rfl, he, hes, q _ s1⟩
end
end My

set_option maxHeartbeats 4000000
namespace My
open PySem PySem.Spec PyProof.Rows L2
abbrev sGreat : Stmt := top (38 + 1)
theorem scGreat : FnScope ["graph", "lot", "is_tied", "first", "rest", "near", "found", "v"] ["graph", "lot", "is_tied"] (defScope sGreat) := ⟨rfl, rfl, rfl, by decide +kernel, rfl, by decide +kernel, by decide +kernel⟩
def GreatOk (es : List E2) (t : Bool) (l : List Nat) (v : Nat) : Prop := (∃ s, s.Sublist l ∧ PairB es t s ∧ s.length = v) ∧ ∀ s, s.Sublist l → PairB es t s → s.length ≤ v
theorem great_nil (es : List E2) (t : Bool) : GreatOk es t [] 0 := ⟨⟨[], .slnil, .nil, rfl⟩, fun s h _ => by rw [List.sublist_nil.mp h]; exact Nat.le_refl _⟩
theorem great_cons {es : List E2} {t : Bool} {a : Nat} {r : List Nat} {v1 v2 : Nat} (h1 : GreatOk es t (r.filter fun v => adjB es a v == t) v1) (h2 : GreatOk es t r v2) : GreatOk es t (a :: r) (max (1 + v1) v2) := by
  obtain ⟨⟨s1, a1, b1, c1⟩, u1⟩ := h1
  obtain ⟨⟨s2, a2, b2, c2⟩, u2⟩ := h2
  constructor
  · by_cases c : v2 ≤ 1 + v1
    · refine ⟨a :: s1, (a1.trans List.filter_sublist).cons_cons a, List.pairwise_cons.mpr ⟨fun b hb => ?_, b1⟩, by rw [List.length_cons]; omega⟩
      have z := (List.mem_filter.mp (a1.subset hb)).2
      exact beq_iff_eq.mp z
    · exact ⟨s2, a2.cons a, b2, by omega⟩
  · intro s hs pb
    cases hs with
    | cons _ h =>
      have := u2 s h pb
      omega
    | cons_cons _ h =>
      rename_i s'
      obtain ⟨p1, p2⟩ := List.pairwise_cons.mp pb
      have z : s'.filter (fun v => adjB es a v == t) = s' := List.filter_eq_self.mpr fun b hb => beq_iff_eq.mpr (p1 b hb)
      have := u1 s' (by rw [← z]; exact h.filter _) p2
      rw [List.length_cons]
      omega
theorem great_le {es : List E2} {t : Bool} {l : List Nat} {v : Nat} (h : GreatOk es t l v) : v ≤ l.length := by
  obtain ⟨⟨s, a, _, c⟩, _⟩ := h
  rw [← c]
  exact a.length_le
theorem great_has (es : List E2) (t : Bool) : ∀ l : List Nat, ∃ v, GreatOk es t l v := by
  intro l
  generalize e : l.length = k
  induction k using Nat.strongRecOn generalizing l with
  | _ k ih =>
    cases l with
    | nil => exact ⟨0, great_nil es t⟩
    | cons a r =>
      rw [List.length_cons] at e
      have lf := List.length_filter_le (fun v => adjB es a v == t) r
      obtain ⟨v1, g1⟩ := ih _ (by omega) (r.filter fun v => adjB es a v == t) rfl
      obtain ⟨v2, g2⟩ := ih _ (by omega) r rfl
      exact ⟨_, great_cons g1 g2⟩
def tupD (l : List Nat) : PyData := .tuple (l.map fun k => .int ((k : Nat) : Int))
theorem nums_shapedT (l : List Nat) : SeqAt.shaped (tupD l) = true := by
  have z : ∀ m : List Nat, PyData.canLayAll0 (m.map fun k => PyData.int ((k : Nat) : Int)) = true ∧ PyData.depthAll (m.map fun k => PyData.int ((k : Nat) : Int)) ≤ 1 := fun m => by
    induction m with
    | nil => rw [List.map_nil]; constructor <;> simp [PyData.canLayAll0, PyData.depthAll]
    | cons a r ih =>
      rw [List.map_cons]
      constructor
      · simp only [PyData.canLayAll0, PyData.canLay0, ih.1, Bool.and_true]
      · have := ih.2
        simp only [PyData.depthAll, PyData.depth]
        omega
  obtain ⟨h1, h2⟩ := z l
  unfold SeqAt.shaped tupD
  rw [Bool.and_eq_true, decide_eq_true_eq]
  refine ⟨?_, ?_⟩
  · simp only [PyData.canLay0, h1]
  · simp only [PyData.depth]
    omega
theorem tup_nilB (l : List Nat) : PyData.eqv (tupD l) (.tuple []) = l.isEmpty := by
  cases l with
  | nil => simp [tupD, PyData.eqv, PyData.eqvAll]
  | cons a r => simp [tupD, PyData.eqv, PyData.eqvAll]
theorem nums_dpT {K : PySem.W.Frag} {H : Hp} : ∀ l : List Nat, DpAll K H (natV l) (l.map fun k => PyData.int ((k : Nat) : Int))
  | [] => .nil
  | a :: r => .cons (.int _) (nums_dpT r)
def spGreat (K : PySem.W.Frag) (k : Nat) : Sp := fun vs H Q _ => ∃ (x : V) (n : Nat) (es : List E2) (y : V) (l : List Nat) (t : Bool), vs = [x, y, .bl t] ∧ GraphAt K H x n es ∧ LotT H y l ∧ l.length < k ∧ l.length ≤ 9 ∧ ∀ (v : Nat) H', Same H H' → GreatOk es t l v → Q (.int (v : Int)) H'
section
variable {P : Program} {w : World} {K : PySem.W.Frag} {mg : Str → Option Value} {base : Heap} {f fT : Addr} {fd dT : FuncData}
theorem ok_great (F : L2.Fun K "_law_greatest" "_law_greatest" sGreat f fd) (B : L2.Binds K fd ["graph", "lot", "is_tied"] []) (kF : PySem.W.keepIn K (.ref f) = true) (mF : mg "_law_greatest" = some (.ref f))
    (GT : FnOk P w K mg base CX0 1 fT dT ["graph", "u", "v"] (spTied K)) (bT : L2.Binds K dT ["graph", "u", "v"] []) (kT : PySem.W.keepIn K (.ref fT) = true) (mT : mg "_law_is_tied" = some (.ref fT)) (ml : mg "len" = none) (mt : mg "tuple" = none) (mx : mg "max" = none) : ∀ k, FnOk P w K mg base CX0 (k + 2) f fd ["graph", "lot", "is_tied"] (spGreat K k)
  | 0 => by
    refine F.ok scGreat (fun vs H Q E h => ?_) (fun cdv A outer s H vs Q E hr h => ?_)
    · obtain ⟨x, n, es, y, l, t, rfl, _⟩ := h
      rfl
    · obtain ⟨x, n, es, y, l, t, rfl, _, _, no, _⟩ := h
      omega
  | k + 1 => by
    have G := ok_great F B kF mF GT bT kT mT ml mt mx k
    refine F.ok scGreat (fun vs H Q E h => ?_) (fun cdv A outer s H vs Q E hr h => ?_)
    · obtain ⟨x, n, es, y, l, t, rfl, _⟩ := h
      rfl
    obtain ⟨x, n, es, y, l, t, rfl, hx, hy, lk, l9, q⟩ := h
    have h1 := hr.mono (show 1 ≤ k + 2 by omega)
    refine ⟨_, pss_cons (ps_if (pt_cmpR (op_eqD hr.units) (pv 1) (pe_tup pa_nil) (nomark _)) (pss_one (ps_ret pe_int)) pss_nil)
      (pss_cons (ps_asg (pe_tup (pa_cons (pe_ix (r := rIxT K) ix_tup (pv 1) pe_int (fun _ _ => rfl)) (pa_cons (pe_slice sl_tupA (pv 1) (po_some pe_int) po_none) pa_nil))) (pg_tup (by rfl) (pgs_cons (pg_name (i := 3) scGreat.nd rfl (.inr rfl)) (pgs_cons (pg_name (i := 4) scGreat.nd rfl (.inl rfl)) pgs_nil))))
      (pss_cons (ps_set (i := 5) scGreat.nd rfl (.inl rfl) (pe_callTy call_tuple_of (by rfl) mt (by decide +kernel) (pa_cons (pe_lc (own := [("v", 7)]) (g := gName 7) (tt := tTest (tOp rEq (tCall (spTied K) [] E0 (tCons (tVar 0) (tCons (tVar 3) (tCons (tVar 7) tNil)))) (tVar 2))) rfl scGreat.nd (pi_tup (pv 4))
          (blkOk_by (N := ["graph", "lot", "is_tied", "first", "rest", "near", "found", "v"]) (sc := defScope sGreat) (by decide +kernel)) (fun _ _ _ _ _ => pg_name (i := 7) scGreat.nd rfl (Or.inl rfl))
          (fun _ _ _ _ _ => pts_one (pt_cmpR (r := rEq) op_eq (pe_call GT h1 (by rfl) mT kT bT .nil pass0 (pa_cons (pv 0) (pa_cons (pv 3) (pa_cons (pv 7) pa_nil)))) (pv 2) (nomark _)))
          (fun _ _ _ _ _ => pv 7)) pa_nil)))
      (pss_cons (ps_set (i := 6) scGreat.nd rfl (.inl rfl) (pe_op op_add pe_int (pe_call G hr (by rfl) mF kF B .nil pass0 (pa_cons (pv 0) (pa_cons (pv 5) (pa_cons (pv 2) pa_nil))))))
      (pss_one (ps_ret (pe_ifExp (pt_cmpR op_gt (pv 6) (pe_callB call_len_seq (by rfl) ml PySem.boot_len (pa_cons (pv 4) pa_nil)) (nomark _)) (pv 6) (pe_callB (call_max2 rfl) (by rfl) mx (by decide +kernel) (pa_cons (pv 6) (pa_cons (pe_call G hr (by rfl) mF kF B .nil pass0 (pa_cons (pv 0) (pa_cons (pv 4) (pa_cons (pv 2) pa_nil)))) pa_nil))))))))), ?_⟩
    obtain ⟨ty, rfl, hty⟩ := hy
    refine ⟨_, rfl, (by show 0 ≤ sizeLine; decide), fun z nz => ?_⟩
    have sz := same_new nz (.tup [])
    have hz := upd_same (H := H) (a := z) (o := .tup [])
    generalize upd H z (.tup []) = H0 at sz hz ⊢
    have hty := sz _ _ hty
    have hx := hx.same sz
    refine ⟨tupD l, .tuple [], .tup (SqT.of hty) (nums_dpT l), .tup (SqT.of hz) .nil, nums_shapedT l, nums_shapedT [], _, rfl, ?_⟩
    rw [tup_nilB]
    cases l with
    | nil => exact iteT (q 0 H0 sz (great_nil es t))
    | cons a r =>
      refine iteF ?_
      have rk : r.length < k := by
        rw [List.length_cons] at lk
        omega
      have r9 : r.length ≤ 8 := by
        rw [List.length_cons] at l9
        omega
      have nl : (natV (a :: r)).length = r.length + 1 := by unfold natV; rw [List.length_map, List.length_cons]
      refine ⟨_, rfl, ty, _, 0, _, rfl, rfl, SqT.of hty, atI_nat (j := 0) rfl, _, rfl, (1 : Int), rfl, ty, natV (a :: r), rfl, SqT.of hty, fun w => ?_, fun _ p np => ?_⟩
      · have w2 := w.1
        rw [show (1 : Int) = ((1 : Nat) : Int) from rfl, HT.sIx_nat] at w2
        omega
      have ec : cutV (natV (a :: r)) (some 1) none = natV r := by
        unfold cutV
        rw [HT.sIx_none, show (1 : Int) = ((1 : Nat) : Int) from rfl, HT.sIx_nat, nl, Nat.min_eq_left (by omega)]
        unfold natV
        rw [List.map_cons, List.drop_one, List.tail_cons, List.take_of_length_le (by rw [List.length_map]; omega)]
      rw [ec]
      have sp := same_new np (.tup (natV r))
      have hp := upd_same (H := H0) (a := p) (o := .tup (natV r))
      generalize upd H0 p (.tup (natV r)) = H1 at sp hp ⊢
      refine ⟨(by show 2 ≤ sizeLine; decide), fun u nu => ?_⟩
      have su := same_new nu (.tup [.int (a : Int), .ref p])
      have hu := upd_same (H := H1) (a := u) (o := .tup [.int (a : Int), .ref p])
      have hp2 := su _ _ hp
      have s02 := sp.trans su
      generalize upd H1 u (.tup [.int (a : Int), .ref p]) = H2 at hu hp2 s02 ⊢
      refine ⟨u, _, rfl, SqT.of hu, rfl, _, _, rfl, _, _, rfl, rfl, ?_⟩
      have hx2 := hx.same s02
      refine ⟨_, rfl, p, rfl, ⟨_, SqT.of hp2⟩, fun Bl nB => lo_it (walk_tup (xs := natV r)) (fun j H4 => Same H2 H4 ∧ H4 Bl = some (.lst (natV ((r.take j).filter fun v => adjB es a v == t)))) ⟨same_new nB _, upd_same⟩ (fun j H4 _ ⟨s4, _⟩ => SqT.of (s4 _ _ hp2)) ?_ ?_⟩
      · rintro j y _ H4 lj ⟨s4, hB⟩ ⟨rfl, hj⟩
        unfold natV at hj
        rw [List.getElem?_map] at hj
        cases e : r[j]? with
        | none => rw [e] at hj; cases hj
        | some b =>
          rw [e] at hj
          cases hj
          have tk := take_succ e
          refine ⟨rfl, ?_⟩
          refine ⟨_, rfl, _, rfl, _, rfl, x, n, es, a, b, rfl, hx2.same s4, fun H5 s5 => ?_⟩
          have hB5 := s5 _ _ hB
          have fl : (natV ((r.take j).filter fun v => adjB es a v == t)).length ≤ 10 := by
            unfold natV
            rw [List.length_map]
            refine Nat.le_trans (List.length_filter_le _ _) ?_
            rw [List.length_take]
            omega
          refine ⟨_, rfl, rfl, _, rfl, ?_⟩
          have ev : decide (V.bl (adjB es a b) = V.bl t) = (adjB es a b == t) := by
            cases adjB es a b <;> cases t <;> rfl
          rw [ev]
          refine iteB (fun c => ?_) (fun c => ?_)
          · refine ⟨_, rfl, _, hB5, small1000 (by omega), same_put (s4.trans s5) nB, ?_⟩
            rw [upd_same, tk, List.filter_append, List.filter_cons_of_pos (p := fun v => adjB es a v == t) c]
            unfold natV
            rw [List.map_append]
            rfl
          · refine ⟨s4.trans s5, ?_⟩
            rw [hB5, tk, List.filter_append, List.filter_cons_of_neg (p := fun v => adjB es a v == t) (by rw [c]; decide), List.filter_nil, List.append_nil]
      · rintro H4 ⟨s4, hB⟩
        have e5 : r.take (natV r).length = r := by
          unfold natV
          rw [List.length_map, List.take_length]
        rw [e5] at hB
        refine ⟨Bl, _, rfl, .inl ⟨SqL.of hB, fun tn ntn => ?_⟩⟩
        have st := same_new ntn (.tup (natV (r.filter fun v => adjB es a v == t)))
        have htn := upd_same (H := H4) (a := tn) (o := .tup (natV (r.filter fun v => adjB es a v == t)))
        have s25 := s4.trans st
        have hp5 := s25 _ _ hp2
        generalize upd H4 tn (.tup (natV (r.filter fun v => adjB es a v == t))) = H5 at htn s25 hp5 ⊢
        have lfl := List.length_filter_le (fun v => adjB es a v == t) r
        refine ⟨_, rfl, _, rfl, _, rfl, x, n, es, .ref tn, _, t, rfl, hx2.same s25, ⟨tn, rfl, htn⟩, by omega, by omega, fun v1 H6 s6 g1 => ?_⟩
        refine ⟨_, _, rfl, rfl, ?_⟩
        have hp6 := s6 _ _ hp5
        have s06 := sz.trans (s02.trans (s25.trans s6))
        have nr : (natV r).length = r.length := List.length_map _
        refine ⟨_, rfl, _, rfl, p, _, rfl, .inr (SqT.of hp6), _, _, rfl, rfl, _, rfl, ?_⟩
        refine iteB (fun c => ?_) (fun _ => ?_)
        · have c' := of_decide_eq_true c
          have e1 : (1 : Int) + (v1 : Int) = ((1 + v1 : Nat) : Int) := by omega
          refine ⟨_, rfl, ?_⟩
          show Q (V.int ((1 : Int) + (v1 : Int))) H6
          rw [e1]
          -- the rest is too short to do better
          obtain ⟨v2, g2⟩ := great_has es t r
          have l2 := great_le g2
          have gc := great_cons (a := a) g1 g2
          rw [nr] at c'
          rw [show max (1 + v1) v2 = 1 + v1 by omega] at gc
          exact q _ H6 s06 gc
        · refine ⟨_, rfl, _, rfl, _, rfl, _, rfl, x, n, es, .ref p, r, t, rfl, hx2.same (s25.trans s6), ⟨p, rfl, hp6⟩, by omega, by omega, fun v2 H7 s7 g2 => ?_⟩
          refine ⟨_, _, rfl, ?_⟩
          have e1 : (if (v2 : Int) > (1 : Int) + (v1 : Int) then (v2 : Int) else (1 : Int) + (v1 : Int)) = ((max (1 + v1) v2 : Nat) : Int) := by split <;> omega
          show Q (V.int (if (v2 : Int) > (1 : Int) + (v1 : Int) then (v2 : Int) else (1 : Int) + (v1 : Int))) H7
          rw [e1]
          exact q _ H7 (s06.trans s7) (great_cons g1 g2)
end
end My

set_option maxHeartbeats 8000000
namespace My
open PySem PySem.Spec PyProof.Rows L2
abbrev sCold : Stmt := top (38 + 2)
theorem scCold : FnScope ["graph", "lot", "told", "many", "v", "bad", "colour", "k"] ["graph", "lot", "told", "many"] (defScope sCold) := ⟨rfl, rfl, rfl, by decide +kernel, rfl, by decide +kernel, by decide +kernel⟩
/-- told colours below k, unlike at adjacent vertices -/
structure PropC (es : List E2) (cs : List Nat) (k : Nat) : Prop where
  few : ∀ u, u < cs.length → cs.getD u 0 < k
  ok : ∀ u v, u < cs.length → v < cs.length → adjB es u v = true → cs.getD u 0 ≠ cs.getD v 0
/-- they can be gone on with -/
def ExtB (es : List E2) (n : Nat) (cs : List Nat) (k : Nat) : Prop := ∃ f : Nat → Nat, (∀ u, u < cs.length → f u = cs.getD u 0) ∧ (∀ u, u < n → f u < k) ∧ ∀ u v, u < n → v < n → adjB es u v = true → f u ≠ f v
theorem ext_full {es : List E2} {n : Nat} {cs : List Nat} {k : Nat} (h : PropC es cs k) (e : cs.length = n) : ExtB es n cs k := by
  subst e
  exact ⟨fun u => cs.getD u 0, fun _ _ => rfl, h.few, h.ok⟩
theorem getD_app {cs : List Nat} {c u : Nat} (h : u < cs.length) : (cs ++ [c]).getD u 0 = cs.getD u 0 := by
  rw [List.getD_eq_getElem?_getD, List.getElem?_append_left h, ← List.getD_eq_getElem?_getD]
theorem getD_last {cs : List Nat} {c : Nat} : (cs ++ [c]).getD cs.length 0 = c := by
  rw [List.getD_eq_getElem?_getD, List.getElem?_append_right (Nat.le_refl _), Nat.sub_self]
  rfl
theorem ext_less {es : List E2} {n : Nat} {cs : List Nat} {c k : Nat} (h : ExtB es n (cs ++ [c]) k) : ExtB es n cs k := by
  obtain ⟨f, h1, h2, h3⟩ := h
  refine ⟨f, fun u hu => ?_, h2, h3⟩
  rw [h1 u (by rw [List.length_append]; omega), getD_app hu]
theorem prop_more {es : List E2} {cs : List Nat} {c k : Nat} (ir : ∀ u, adjB es u u = false) (h : PropC es cs k) (ck : c < k) (nb : ∀ u, u < cs.length → adjB es u cs.length = true → cs.getD u 0 ≠ c) : PropC es (cs ++ [c]) k := by
  have sp : ∀ u, u < (cs ++ [c]).length → u < cs.length ∨ u = cs.length := fun u hu => by
    rw [List.length_append, List.length_singleton] at hu
    omega
  refine ⟨fun u hu => ?_, fun u v hu hv ad => ?_⟩
  · rcases sp u hu with hu | rfl
    · rw [getD_app hu]; exact h.few u hu
    · rw [getD_last]; exact ck
  · rcases sp u hu with hu | rfl
    · rcases sp v hv with hv | rfl
      · rw [getD_app hu, getD_app hv]; exact h.ok u v hu hv ad
      · rw [getD_app hu, getD_last]; exact nb u hu ad
    · rcases sp v hv with hv | rfl
      · rw [getD_app hv, getD_last]
        rw [adj_comm] at ad
        exact fun z => nb v hv ad z.symm
      · rw [ir] at ad; cases ad
/-- colours above those told are alike -/
theorem ext_some {es : List E2} {n : Nat} {cs : List Nat} {k M : Nat} (ln : cs.length < n) (hM : ∀ u, u < cs.length → cs.getD u 0 < M) (h : ExtB es n cs k) : ∃ c, c < k ∧ c ≤ M ∧ (∀ u, u < cs.length → adjB es u cs.length = true → cs.getD u 0 ≠ c) ∧ ExtB es n (cs ++ [c]) k := by
  obtain ⟨f, h1, h2, h3⟩ := h
  have mk : ∀ g : Nat → Nat, (∀ u, u < cs.length → g u = cs.getD u 0) → (∀ u, u < n → g u < k) → (∀ u v, u < n → v < n → adjB es u v = true → g u ≠ g v) → g cs.length ≤ M → ∃ c, c < k ∧ c ≤ M ∧ (∀ u, u < cs.length → adjB es u cs.length = true → cs.getD u 0 ≠ c) ∧ ExtB es n (cs ++ [c]) k := fun g g1 g2 g3 gM => by
    refine ⟨g cs.length, g2 _ ln, gM, fun u hu ad => ?_, g, fun u hu => ?_, g2, g3⟩
    · rw [← g1 u hu]
      exact g3 u _ (by omega) ln ad
    · rw [List.length_append, List.length_singleton] at hu
      by_cases e : u = cs.length
      · subst e; rw [getD_last]
      · rw [getD_app (by omega), g1 u (by omega)]
  by_cases c : f cs.length ≤ M
  · exact mk f h1 h2 h3 c
  · have fk := h2 _ ln
    refine mk (fun u => if f u = f cs.length then M else if f u = M then f cs.length else f u) (fun u hu => ?_) (fun u hu => ?_) (fun u v hu hv ad => ?_) ?_
    · have := hM u hu
      rw [← h1 u hu] at this ⊢
      rw [if_neg (by omega), if_neg (by omega)]
    · have := h2 u hu
      split
      · omega
      · split <;> omega
    · have := h3 u v hu hv ad
      split <;> split <;> (try split) <;> (try split) <;> omega
    · rw [if_pos rfl]
      exact Nat.le_refl M
theorem ext_col {es : List E2} {n k : Nat} : ExtB es n [] k ↔ ColB es (2 ^ n - 1) k := by
  have full : ∀ u, (2 ^ n - 1).testBit u = true ↔ u < n := fun u => by
    rw [Nat.testBit_two_pow_sub_one, decide_eq_true_eq]
  constructor
  · rintro ⟨f, _, h2, h3⟩
    exact ⟨f, fun u hu => h2 u ((full u).mp hu), fun u v hu hv ad => h3 u v ((full u).mp hu) ((full v).mp hv) ad⟩
  · rintro ⟨f, h2, h3⟩
    exact ⟨f, fun u hu => absurd hu (by simp), fun u hu => h2 u ((full u).mpr hu), fun u v hu hv ad => h3 u v ((full u).mpr hu) ((full v).mpr hv) ad⟩
theorem great_notin (k : Nat) : ∀ l : List Nat, inV (V.int (k : Int)) (natV l) = decide (k ∈ l)
  | [] => rfl
  | a :: l => by
    have ih := great_notin k l
    unfold inV natV at ih ⊢
    rw [List.map_cons, List.any_cons, ih]
    have e : eqV (V.int (k : Int)) (V.int (a : Int)) = decide (k = a) := by
      show ((k : Int) == (a : Int)) = _
      by_cases h : k = a
      · subst h; simp
      · have : ((k : Int) == (a : Int)) = false := beq_eq_false_iff_ne.mpr (by omega)
        rw [this, decide_eq_false h]
    first
      | rw [e]
      | rw [show eqV (V.int (a : Int)) (V.int (k : Int)) = decide (k = a) by rw [← e]; show ((a : Int) == (k : Int)) = ((k : Int) == (a : Int)); exact BEq.comm]
    simp [List.mem_cons]
theorem flat_nats : ∀ l : List Nat, (natV l).all flatV = true
  | [] => rfl
  | _ :: l => flat_nats l
def spCold (K : PySem.W.Frag) (k : Nat) : Sp := fun vs H Q _ => ∃ (x : V) (n : Nat) (es : List E2) (y : V) (T : Addr) (cs : List Nat) (m : Nat), vs = [x, y, .ref T, .int (m : Int)] ∧ GraphAt K H x n es ∧ Good n es ∧ LotT H y (List.range n) ∧ H T = some (.lst (natV cs)) ∧ cs.length ≤ n ∧ n - cs.length < k ∧ m ≤ 9 ∧ PropC es cs m ∧ ∀ (b : Bool) H', Same H H' → (b = true ↔ ExtB es n cs m) → Q (.bl b) H'
section
variable {P : Program} {w : World} {K : PySem.W.Frag} {mg : Str → Option Value} {base : Heap} {f fT : Addr} {fd dT : FuncData}
theorem ok_cold (F : L2.Fun K "_law_is_coloured" "_law_is_coloured" sCold f fd) (B : L2.Binds K fd ["graph", "lot", "told", "many"] []) (kF : PySem.W.keepIn K (.ref f) = true) (mF : mg "_law_is_coloured" = some (.ref f))
    (GT : FnOk P w K mg base CX0 1 fT dT ["graph", "u", "v"] (spTied K)) (bT : L2.Binds K dT ["graph", "u", "v"] []) (kT : PySem.W.keepIn K (.ref fT) = true) (mT : mg "_law_is_tied" = some (.ref fT)) (mr : mg "range" = none) (ml : mg "len" = none) (mn : mg "min" = none) (mx : mg "max" = none) : ∀ k, FnOk P w K mg base CX0 (k + 2) f fd ["graph", "lot", "told", "many"] (spCold K k)
  | 0 => by
    refine F.ok scCold (fun vs H Q E h => ?_) (fun cdv A outer s H vs Q E hr h => ?_)
    · obtain ⟨x, n, es, y, T, cs, m, rfl, _⟩ := h
      rfl
    · obtain ⟨x, n, es, y, T, cs, m, rfl, _, _, _, _, _, no, _⟩ := h
      omega
  | k + 1 => by
    have G := ok_cold F B kF mF GT bT kT mT mr ml mn mx k
    refine F.ok scCold (fun vs H Q E h => ?_) (fun cdv A outer s H vs Q E hr h => ?_)
    · obtain ⟨x, n, es, y, T, cs, m, rfl, _⟩ := h
      rfl
    obtain ⟨x, n, es, y, T, cs, m, rfl, hx, g, hy, hT, le, lk, m9, pc, q⟩ := h
    have h1 := hr.mono (show 1 ≤ k + 2 by omega)
    refine ⟨_, pss_cons (ps_if (pt_cmpR op_eq (pe_callB call_len_seq (by rfl) ml PySem.boot_len (pa_cons (pv 2) pa_nil)) (pe_callB call_len_seq (by rfl) ml PySem.boot_len (pa_cons (pv 1) pa_nil)) (nomark _)) (pss_one (ps_ret pe_bl)) pss_nil)
      (pss_cons (ps_set (i := 4) scCold.nd rfl (.inr rfl) (pe_ix (r := rIxT K) ix_tup (pv 1) (pe_callB call_len_seq (by rfl) ml PySem.boot_len (pa_cons (pv 2) pa_nil)) (fun _ _ => rfl)))
      (pss_cons (ps_setLc (i := 5) (own := [("k", 7)]) (g := gName 7) (tt := tB (tCall (spTied K) [] E0 (tCons (tVar 0) (tCons (tOp (rIxT K) (tVar 1) (tVar 7)) (tCons (tVar 4) tNil))))) rfl scCold.nd rfl rfl (sw_true rfl rfl rfl (by decide +kernel)) (pi_range1 rfl mr (pa_cons (pe_callB call_len_seq (by rfl) ml PySem.boot_len (pa_cons (pv 2) pa_nil)) pa_nil))
          (blkOk_by (N := ["graph", "lot", "told", "many", "v", "bad", "colour", "k"]) (sc := defScope sCold) (by decide +kernel)) (fun _ _ _ _ _ => pg_name (i := 7) scCold.nd rfl (Or.inl rfl))
          (fun _ _ _ _ _ => pts_one (pt_val (pe_call GT h1 (by rfl) mT kT bT .nil pass0 (pa_cons (pv 0) (pa_cons (pe_ix (r := rIxT K) ix_tup (pv 1) (pv 7) (fun _ _ => rfl)) (pa_cons (pv 4) pa_nil))))))
          (fun _ _ _ _ _ => pe_ix (r := rIxL K) ix_list (pv 2) (pv 7) (fun _ _ => rfl)))
      (pss_cons (ps_for PassesOwn.never rfl (pi_range1 rfl mr (pa_cons (pe_callB (call_min2 rfl) (by rfl) mn (by decide +kernel) (pa_cons (pv 3) (pa_cons (pe_op op_add (pe_callB (cr_max rfl) (by rfl) mx (by decide +kernel) (pa_cons (pe_op op_cat (pv 2) (pe_lst (pa_cons (pe_un un_neg pe_int) pa_nil))) pa_nil)) pe_int) pa_nil))) pa_nil)) (pg_name (i := 6) scCold.nd rfl (.inl rfl))
        (pss_one (ps_if (PW.pt (pw_and (pt_cmpR op_notIn_seq (pv 6) (pv 5) (by rfl)) (pw_and1 (pt_val (pe_call G hr (by rfl) mF kF B .nil pass0 (pa_cons (pv 0) (pa_cons (pv 1) (pa_cons (pe_op op_cat (pv 2) (pe_lst (pa_cons (pv 6) pa_nil))) (pa_cons (pv 3) pa_nil))))))))) (pss_one (ps_ret pe_bl)) pss_nil)))
      (pss_one (ps_ret pe_bl))))), ?_⟩
    have n9 := g.n9
    have ir : ∀ u, adjB es u u = false := fun u => by
      cases e : adjB es u u with
      | false => rfl
      | true => exact absurd rfl (adj_ne g e).1
    obtain ⟨ty, rfl, hty⟩ := hy
    have lc : (natV cs).length = cs.length := List.length_map _
    have lr : (natV (List.range n)).length = n := by unfold natV; rw [List.length_map, List.length_range]
    refine ⟨_, rfl, T, _, rfl, .inl (SqL.of hT), _, rfl, ty, _, rfl, .inr (SqT.of hty), rfl, _, rfl, ?_⟩
    rw [lc, lr]
    refine iteB (fun c => ?_) (fun c => ?_)
    · have e : cs.length = n := by
        have z := of_decide_eq_true c
        injection z with z
        omega
      exact q true H (Same.refl H) ⟨fun _ => ext_full pc e, fun _ => rfl⟩
    have ln : cs.length < n := by
      have z := of_decide_eq_false c
      have : cs.length ≠ n := fun e => z (by rw [e])
      omega
    have rg : ∀ u, u < n → (natV (List.range n))[u]? = some (V.int ((u : Nat) : Int)) := fun u hu => by
      unfold natV
      rw [List.getElem?_map, List.getElem?_range hu]
      rfl
    have cg : ∀ u, u < cs.length → (natV cs)[u]? = some (V.int ((cs.getD u 0 : Nat) : Int)) := fun u hu => by
      unfold natV
      rw [List.getElem?_map, List.getD_eq_getElem?_getD, List.getElem?_eq_getElem hu]
      rfl
    refine ⟨_, rfl, _, rfl, T, _, rfl, .inl (SqL.of hT), ty, _, _, _, rfl, rfl, SqT.of hty, by rw [lc]; exact atI_nat (rg _ ln), ?_⟩
    refine ⟨_, rfl, T, _, rfl, .inl (SqL.of hT), _, rfl, by omega, by omega, fun Bd nB => lo_it (walk_range (lo := 0) (n := (((natV cs).length : Nat) : Int).toNat)) (fun j H4 => Same H H4 ∧ H4 Bd = some (.lst (natV (((List.range j).filter fun u => adjB es u cs.length).map fun u => cs.getD u 0)))) ⟨same_new nB _, upd_same⟩ (fun _ _ _ _ => trivial) ?_ ?_⟩
    · rintro j y _ H4 lj ⟨s4, hB⟩ ⟨rfl, ex⟩
      obtain rfl : y = V.int ((j : Nat) : Int) := ex.trans (congrArg V.int (Int.zero_add _))
      have jl : j < cs.length := by omega
      refine ⟨rfl, ?_⟩
      refine ⟨_, rfl, _, rfl, _, rfl, ty, _, _, _, rfl, rfl, SqT.of (s4 _ _ hty), atI_nat (rg j (by omega)), _, rfl, x, n, es, j, cs.length, rfl, hx.same s4, fun H5 s5 => ⟨_, rfl, ?_⟩⟩
      have hB5 := s5 _ _ hB
      have fl : (natV (((List.range j).filter fun u => adjB es u cs.length).map fun u => cs.getD u 0)).length ≤ 10 := by
        unfold natV
        rw [List.length_map, List.length_map]
        refine Nat.le_trans (List.length_filter_le _ _) ?_
        rw [List.length_range]
        omega
      refine iteB (fun cc => ?_) (fun cc => ?_)
      · refine ⟨_, rfl, _, rfl, T, _, _, _, rfl, rfl, SqL.of (s5 _ _ (s4 _ _ hT)), atI_nat (cg j jl), _, hB5, small1000 (by omega), same_put (s4.trans s5) nB, ?_⟩
        rw [upd_same, List.range_succ, List.filter_append, List.filter_cons_of_pos (p := fun u => adjB es u cs.length) cc, List.map_append]
        unfold natV
        rw [List.map_append]
        rfl
      · refine ⟨s4.trans s5, ?_⟩
        rw [hB5, List.range_succ, List.filter_append, List.filter_cons_of_neg (p := fun u => adjB es u cs.length) (by rw [cc]; decide), List.filter_nil, List.append_nil]
    · rintro H4 ⟨s4, hB⟩
      rw [Int.toNat_natCast, lc] at hB
      have badm : ∀ c, c ∈ (((List.range cs.length).filter fun u => adjB es u cs.length).map fun u => cs.getD u 0) ↔ ∃ u, u < cs.length ∧ adjB es u cs.length = true ∧ cs.getD u 0 = c := fun c => by
        rw [List.mem_map]
        constructor
        · rintro ⟨u, hu, e⟩
          obtain ⟨h1, h2⟩ := List.mem_filter.mp hu
          exact ⟨u, List.mem_range.mp h1, h2, e⟩
        · rintro ⟨u, h1, h2, h3⟩
          exact ⟨u, List.mem_filter.mpr ⟨List.mem_range.mpr h1, h2⟩, h3⟩
      generalize (((List.range cs.length).filter fun u => adjB es u cs.length).map fun u => cs.getD u 0) = bad at hB badm
      have hT4 := s4 _ _ hT
      refine ⟨_, rfl, _, rfl, _, rfl, (by show 1 ≤ sizeLine; rw [sizeLine_eq]; decide), fun Z nZ => ?_⟩
      have sZ := same_new nZ (.lst [V.int (-1)])
      have hZ := upd_same (H := H4) (a := Z) (o := .lst [V.int (-1)])
      have hT5 := sZ _ _ hT4
      refine ⟨T, Z, _, _, rfl, rfl, hT5, hZ, Nat.le_trans (by rw [lc, List.length_singleton]; omega : _ ≤ 1024) (by rw [sizeLine_eq]; decide), fun C nC => ?_⟩
      have sC := same_new nC (.lst (natV cs ++ [V.int (-1)]))
      have hC := upd_same (H := upd H4 Z (.lst [V.int (-1)])) (a := C) (o := .lst (natV cs ++ [V.int (-1)]))
      have s46 := sZ.trans sC
      generalize upd (upd H4 Z (.lst [V.int (-1)])) C (.lst (natV cs ++ [V.int (-1)])) = H6 at hC s46 ⊢
      have eC : natV cs ++ [V.int (-1)] = ((cs.map fun k => ((k : Nat) : Int)) ++ [(-1 : Int)]).map V.int := by
        unfold natV
        rw [List.map_append, List.map_map]
        rfl
      rw [eC] at hC
      refine ⟨C, _, rfl, SqL.of hC, by simp, fun M hM hu => ?_⟩
      have Mlo : -1 ≤ M := hu (-1) (by simp)
      have Mall : ∀ u, u < cs.length → ((cs.getD u 0 : Nat) : Int) ≤ M := fun u hul => hu _ (by
        rw [List.mem_append, List.mem_map]
        refine .inl ⟨cs.getD u 0, ?_, rfl⟩
        rw [List.getD_eq_getElem?_getD, List.getElem?_eq_getElem hul]
        exact List.getElem_mem hul)
      have Mhi : M < 9 := by
        rcases List.mem_append.mp hM with z | z
        · obtain ⟨a, ha, rfl⟩ := List.mem_map.mp z
          obtain ⟨u, hul, e⟩ := List.mem_iff_getElem.mp ha
          have z2 := pc.few u hul
          rw [List.getD_eq_getElem?_getD, List.getElem?_eq_getElem hul, e] at z2
          have z3 : a < m := z2
          omega
        · have := List.mem_singleton.mp z
          omega
      refine ⟨_, _, rfl, rfl, _, _, rfl, ?_⟩
      generalize eN : (if M + 2 < (m : Int) then M + 2 else (m : Int)) = N
      have N0 : 0 ≤ N := by
        rw [← eN]
        split <;> omega
      have Nm : N ≤ m := by
        rw [← eN]
        split <;> omega
      have nT : H T ≠ none := by rw [hT]; simp
      have s06 := s4.trans s46
      have hB6 := s46 _ _ hB
      refine ⟨N, rfl, by omega, by omega, for_range (lo := 0) (n := N.toNat) (fun i σ H' => ∃ (s6 : Option V), σ = [some x, some (.ref ty), some (.ref T), some (.int (m : Int)), some (.int (cs.length : Int)), some (.ref Bd), s6, none] ∧ Same H6 H' ∧ ∀ c, c < i → c ∉ bad → ¬ ExtB es n (cs ++ [c]) m)
        ⟨none, rfl, Same.refl H6, fun c hc => absurd hc (by omega)⟩ ?_ ?_⟩
      · rintro i σ H7 li ⟨s6', rfl, s7, no⟩
        rw [show (0 : Int) + (i : Int) = (i : Int) by omega]
        have im : i < m := by omega
        refine ⟨_, rfl, _, rfl, Bd, natV bad, rfl, .inl (SqL.of (s7 _ _ hB6)), rfl, flat_nats bad, _, rfl, ?_⟩
        have c1 : (if true = true then !inV (V.int (i : Int)) (natV bad) else inV (V.int (i : Int)) (natV bad)) = decide (i ∉ bad) := by
          rw [if_pos rfl, great_notin]
          by_cases c : i ∈ bad <;> simp [c]
        rw [c1]
        have hT7 := s7 _ _ (s46 _ _ hT4)
        refine iteB (fun cb => ?_) (fun cb => ?_)
        · have nb := of_decide_eq_true cb
          refine ⟨_, rfl, _, rfl, _, rfl, _, rfl, (by show 1 ≤ sizeLine; rw [sizeLine_eq]; decide), fun Z2 nZ2 => ?_⟩
          have sZ2 := same_new nZ2 (.lst [V.int (i : Int)])
          have hZ2 := upd_same (H := H7) (a := Z2) (o := .lst [V.int (i : Int)])
          have hT8 := sZ2 _ _ hT7
          generalize upd H7 Z2 (.lst [V.int (i : Int)]) = H8 at sZ2 hZ2 hT8 ⊢
          refine ⟨T, Z2, _, _, rfl, rfl, hT8, hZ2, Nat.le_trans (by rw [lc, List.length_singleton]; omega : _ ≤ 1024) (by rw [sizeLine_eq]; decide), fun C2 nC2 => ?_⟩
          have sC2 := same_new nC2 (.lst (natV cs ++ [V.int (i : Int)]))
          have hC2 := upd_same (H := H8) (a := C2) (o := .lst (natV cs ++ [V.int (i : Int)]))
          have s79 := sZ2.trans sC2
          generalize upd H8 C2 (.lst (natV cs ++ [V.int (i : Int)])) = H9 at s79 hC2 ⊢
          have eC2 : natV cs ++ [V.int (i : Int)] = natV (cs ++ [i]) := by
            unfold natV
            rw [List.map_append]
            rfl
          rw [eC2] at hC2
          have s09 := s06.trans (s7.trans s79)
          refine ⟨_, rfl, x, n, es, .ref ty, C2, cs ++ [i], m, rfl, hx.same s09, g, ⟨ty, rfl, s09 _ _ hty⟩, hC2, by rw [List.length_append, List.length_singleton]; omega, by rw [List.length_append, List.length_singleton]; omega, m9, prop_more ir pc im (fun u hul ad z => nb ((badm i).mpr ⟨u, hul, ad, z⟩)), fun b H10 s10 hb => ⟨_, rfl, ?_⟩⟩
          refine iteB (fun cbb => ?_) (fun cbb => ?_)
          · exact q true H10 (s09.trans s10) ⟨fun _ => ext_less (hb.mp cbb), fun _ => rfl⟩
          · refine ⟨_, rfl, s7.trans (s79.trans s10), fun c hc nc => ?_⟩
            by_cases e : c = i
            · subst e
              intro z
              rw [hb.mpr z] at cbb
              cases cbb
            · exact no c (by omega) nc
        · have ib : i ∈ bad := by simpa using cb
          refine ⟨_, rfl, s7, fun c hc nc => ?_⟩
          by_cases e : c = i
          · subst e
            exact absurd ib nc
          · exact no c (by omega) nc
      · rintro σ H7 ⟨s6', rfl, s7, no⟩
        refine q false H7 (s06.trans s7) ⟨fun (z : false = true) => absurd z (by decide), fun z => ?_⟩
        exfalso
        obtain ⟨c, cm, cM, cb, ce⟩ := ext_some (M := (M + 1).toNat) ln (fun u hul => by have := Mall u hul; omega) z
        refine no c ?_ (fun hc => ?_) ce
        · rw [← eN]
          split <;> omega
        · obtain ⟨u, h1, h2, h3⟩ := (badm c).mp hc
          exact cb u h1 h2 h3
end
end My

set_option maxHeartbeats 8000000
namespace My
open PySem PySem.Spec PyProof.Rows L2
abbrev sChr : Stmt := top (38 + 3)
theorem scChr : FnScope ["graph", "lot", "many"] ["graph", "lot"] (defScope sChr) := ⟨rfl, rfl, rfl, by decide +kernel, rfl, by decide +kernel, by decide +kernel⟩
theorem great_col {es : List E2} {n v k : Nat} (h : GreatOk es true (List.range n) v) (hk : ColB es (2 ^ n - 1) k) : v ≤ k := by
  obtain ⟨⟨s, sub, pb, e⟩, _⟩ := h
  obtain ⟨f, hf, hp⟩ := hk
  have lt : ∀ a ∈ s, (2 ^ n - 1).testBit a = true := fun a ha => by
    rw [Nat.testBit_two_pow_sub_one]
    exact decide_eq_true (List.mem_range.mp (sub.subset ha))
  have nd : (s.map f).Nodup := by
    show List.Pairwise _ _
    rw [List.pairwise_map]
    refine List.Pairwise.imp_of_mem ?_ pb
    intro a b ha hb ad
    exact hp a b (lt a ha) (lt b hb) ad
  have z := sub_few nd (m := List.range k) fun x hx => by
    obtain ⟨a, ha, rfl⟩ := List.mem_map.mp hx
    exact List.mem_range.mpr (hf a (lt a ha))
  rw [List.length_map, List.length_range] at z
  omega
theorem col_all {es : List E2} {n : Nat} (ir : ∀ u, adjB es u u = false) : ColB es (2 ^ n - 1) n := by
  refine ⟨fun u => u, fun u hu => ?_, fun u v _ _ ad e => ?_⟩
  · rw [Nat.testBit_two_pow_sub_one] at hu
    exact of_decide_eq_true hu
  · have e' : u = v := e
    subst e'
    rw [ir] at ad
    cases ad
def spChr (K : PySem.W.Frag) : Sp := fun vs H Q _ => ∃ (x : V) (n : Nat) (es : List E2) (y : V), vs = [x, y] ∧ GraphAt K H x n es ∧ Good n es ∧ LotT H y (List.range n) ∧ ∀ (v : Nat) H', Same H H' → ChOk es (2 ^ n - 1) v → Q (.int (v : Int)) H'
section
variable {P : Program} {w : World} {K : PySem.W.Frag} {mg : Str → Option Value} {base : Heap} {f fG fC : Addr} {fd dG dC : FuncData}
theorem ok_chr (F : L2.Fun K "_law_chromatic" "_law_chromatic" sChr f fd)
    (GG : FnOk P w K mg base CX0 12 fG dG ["graph", "lot", "is_tied"] (spGreat K 10)) (bG : L2.Binds K dG ["graph", "lot", "is_tied"] []) (kG : PySem.W.keepIn K (.ref fG) = true) (mG : mg "_law_greatest" = some (.ref fG))
    (GC : FnOk P w K mg base CX0 12 fC dC ["graph", "lot", "told", "many"] (spCold K 10)) (bC : L2.Binds K dC ["graph", "lot", "told", "many"] []) (kC : PySem.W.keepIn K (.ref fC) = true) (mC : mg "_law_is_coloured" = some (.ref fC))
    (mr : mg "range" = none) (ml : mg "len" = none) : FnOk P w K mg base CX0 13 f fd ["graph", "lot"] (spChr K) := by
  refine F.ok scChr (fun vs H Q E h => ?_) (fun cdv A outer s H vs Q E hr h => ?_)
  · obtain ⟨x, n, es, y, rfl, _⟩ := h
    rfl
  obtain ⟨x, n, es, y, rfl, hx, g, hy, q⟩ := h
  refine ⟨_, pss_cons (ps_for PassesOwn.never rfl (pi_range2 (by rfl) mr (pa_cons (pe_call GG hr (by rfl) mG kG bG .nil pass0 (pa_cons (pv 0) (pa_cons (pv 1) (pa_cons pe_bl pa_nil)))) (pa_cons (pe_op op_add (pe_callB call_len_seq (by rfl) ml PySem.boot_len (pa_cons (pv 1) pa_nil)) pe_int) pa_nil))) (pg_name (i := 2) scChr.nd rfl (.inl rfl))
      (pss_one (ps_if (pt_val (pe_call GC hr (by rfl) mC kC bC .nil pass0 (pa_cons (pv 0) (pa_cons (pv 1) (pa_cons (pe_lst pa_nil) (pa_cons (pv 2) pa_nil)))))) (pss_one (ps_ret (pv 2))) pss_nil)))
    (pss_one (ps_ret (pe_callB call_len_seq (by rfl) ml PySem.boot_len (pa_cons (pv 1) pa_nil)))), ?_⟩
  have n9 := g.n9
  have ir : ∀ u, adjB es u u = false := fun u => by
    cases e : adjB es u u with
    | false => rfl
    | true => exact absurd rfl (adj_ne g e).1
  obtain ⟨ty, rfl, hty⟩ := hy
  have lr : (natV (List.range n)).length = n := by unfold natV; rw [List.length_map, List.length_range]
  refine ⟨_, rfl, _, rfl, x, n, es, .ref ty, List.range n, true, rfl, hx, ⟨ty, rfl, hty⟩, by rw [List.length_range]; omega, by rw [List.length_range]; exact n9, fun v H1 s1 gv => ?_⟩
  have vn : v ≤ n := by
    have := great_le gv
    rw [List.length_range] at this
    exact this
  have hty1 := s1 _ _ hty
  refine ⟨_, rfl, ty, _, rfl, .inr (SqT.of hty1), _, _, rfl, rfl, (v : Int), ((n : Nat) : Int) + 1, by rw [lr], ⟨by omega, by omega, by omega, by omega⟩, for_range (lo := (v : Int)) (n := (((n : Nat) : Int) + 1 - (v : Int)).toNat) (fun i σ H' => ∃ (s2 : Option V), σ = [some x, some (.ref ty), s2] ∧ Same H1 H' ∧ ∀ k, k < v + i → ¬ ColB es (2 ^ n - 1) k)
    ⟨none, rfl, Same.refl H1, fun k hk hc => absurd (great_col gv hc) (by omega)⟩ ?_ ?_⟩
  · rintro i σ H2 li ⟨s2', rfl, s2, no⟩
    rw [show (v : Int) + (i : Int) = ((v + i : Nat) : Int) by omega]
    refine ⟨_, rfl, _, rfl, (by show 0 ≤ sizeLine; decide), fun Z nZ => ?_⟩
    have sZ := same_new nZ (.lst [])
    have hZ := upd_same (H := H2) (a := Z) (o := .lst [])
    generalize upd H2 Z (.lst []) = H3 at sZ hZ ⊢
    have s03 := s1.trans (s2.trans sZ)
    refine ⟨_, rfl, x, n, es, .ref ty, Z, [], v + i, rfl, hx.same s03, g, ⟨ty, rfl, s03 _ _ hty⟩, hZ, Nat.zero_le _, by rw [List.length_nil]; omega, by omega, ⟨fun u hu => absurd hu (by simp), fun u v hu => absurd hu (by simp)⟩, fun b H4 s4 hb => ⟨_, rfl, ?_⟩⟩
    rw [ext_col] at hb
    refine iteB (fun c => ?_) (fun c => ?_)
    · refine ⟨_, rfl, q (v + i) H4 (s03.trans s4) ⟨hb.mp c, fun k hk => ?_⟩⟩
      by_cases z : k < v + i
      · exact absurd hk (no k z)
      · omega
    · refine ⟨_, rfl, s2.trans (sZ.trans s4), fun k hk => ?_⟩
      by_cases e : k = v + i
      · subst e
        intro z
        rw [hb.mpr z] at c
        cases c
      · exact no k (by omega)
  · rintro σ H2 ⟨s2', rfl, s2, no⟩
    exact absurd (col_all ir) (no n (by omega))
end
end My

set_option maxHeartbeats 8000000
namespace My
open PySem PySem.Spec PyProof.Rows L2
abbrev sIsCol : Stmt := top (16 + 1)
theorem scIsCol : FnScope ["graph", "value", "many", "edges", "colour", "one", "other"] ["graph", "value"] (defScope sIsCol) := ⟨rfl, rfl, rfl, by decide +kernel, rfl, by decide +kernel, by decide +kernel⟩
def intS : Sh → Int
  | .int i => i
  | _ => 0
/-- a colouring, whatever its numbers -/
def isCol (n : Nat) (es : List E2) : Sh → Bool
  | .tup ss => decide (ss.length = n) && (ss.all (wholeF 0) && es.all fun p => !(intS (ss.getD p.1 (.int 0)) == intS (ss.getD p.2 (.int 0))))
  | _ => false
def spIsCol (K : PySem.W.Frag) : Sp := fun vs H Q _ => ∃ (x : V) (n : Nat) (es : List E2) (v : V) (s : Sh), vs = [x, v] ∧ GraphAt K H x n es ∧ Good n es ∧ ShAt K H v s ∧ ∀ H', Same H H' → Q (.bl (isCol n es s)) H'
section
variable {P : Program} {w : World} {K : PySem.W.Frag} {mg : Str → Option Value} {base : Heap} {f fC fW : Addr} {fd dC dW : FuncData}
theorem ok_is_col (F : L2.Fun K "is_colouring" "is_colouring" sIsCol f fd) (GC : FnOk P w K mg base CX0 5 fC dC ["graph"] (spCheckGraph K)) (bC : L2.Binds K dC ["graph"] []) (kC : PySem.W.keepIn K (.ref fC) = true) (mC : mg "check_graph" = some (.ref fC))
    (GW : FnOk P w K mg base CX0 1 fW dW ["value", "low"] (spWholeFromA K)) (bW : L2.Binds K dW ["value", "low"] []) (kW : PySem.W.keepIn K (.ref fW) = true) (mW : mg "is_whole_from" = some (.ref fW))
    (mty : mg "type" = none) (mt : mg "tuple" = none) (ma : mg "all" = none) (ml : mg "len" = none) : FnOk P w K mg base CX0 6 f fd ["graph", "value"] (spIsCol K) := by
  refine F.ok scIsCol (fun vs H Q E h => ?_) (fun cdv A outer s H vs Q E hr h => ?_)
  · obtain ⟨x, n, es, v, s, rfl, _⟩ := h
    rfl
  obtain ⟨x, n, es, v, s, rfl, hx, g, hv, q⟩ := h
  refine ⟨_, pss_cons (ps_expr (pe_call GC hr (by rfl) mC kC bC .nil pass0 (pa_cons (pv 0) pa_nil)))
    (pss_cons (ps_asg (pv 0) (pg_tup (by rfl) (pgs_cons (pg_name (i := 2) scIsCol.nd rfl (.inl rfl)) (pgs_cons (pg_name (i := 3) scIsCol.nd rfl (.inl rfl)) pgs_nil))))
    (pss_cons (ps_if (PW.pt (pw_or (pt_cmpR op_isNotTy (pe_callTy call_type1 (by rfl) mty (by decide +kernel) (pa_cons (pv 1) pa_nil)) (pe_bltn (v := .ty "tuple") (by rfl) mt (by decide +kernel) rfl) (nomark _)) (pw_or1 (pt_cmpR op_ne (pe_callB call_len_seq (by rfl) ml PySem.boot_len (pa_cons (pv 1) pa_nil)) (pv 2) (nomark _))))) (pss_one (ps_ret pe_bl)) pss_nil)
    (pss_cons (ps_if (pt_not (pt_val (pe_callB (cr_all rfl) (by rfl) ma (by decide +kernel) (pa_cons (pe_lc (own := [("colour", 4)]) (g := gName 4) (tt := tYes) rfl scIsCol.nd (pi_tup (pv 1))
        (blkOk_by (N := ["graph", "value", "many", "edges", "colour", "one", "other"]) (sc := defScope sIsCol) (by decide +kernel)) (fun _ _ _ _ _ => pg_name (i := 4) scIsCol.nd rfl (Or.inl rfl)) (fun _ _ _ _ _ => pts_nil)
        (fun _ _ _ _ _ => pe_call GW (hr.mono (by decide)) (by rfl) mW kW bW .nil pass0 (pa_cons (pv 4) (pa_cons pe_int pa_nil)))) pa_nil)))) (pss_one (ps_ret pe_bl)) pss_nil)
    (pss_one (ps_ret (pe_callB (cr_all rfl) (by rfl) ma (by decide +kernel) (pa_cons (pe_lc (own := [("one", 5), ("other", 6)]) (g := gTup K 2 (gCons (gName 5) (gCons (gName 6) gNil))) (tt := tYes) rfl scIsCol.nd (pi_tup (pv 3))
        (blkOk_by (N := ["graph", "value", "many", "edges", "colour", "one", "other"]) (sc := defScope sIsCol) (by decide +kernel)) (fun _ _ _ _ _ => pg_tup (by rfl) (pgs_cons (pg_name (i := 5) scIsCol.nd rfl (Or.inl rfl)) (pgs_cons (pg_name (i := 6) scIsCol.nd rfl (Or.inl rfl)) pgs_nil))) (fun _ _ _ _ _ => pts_nil)
        (fun _ _ _ _ _ => pe_cmpR (r := rNe) op_ne (pe_ix (r := rIxT K) ix_tup (pv 1) (pv 5) (fun _ _ => rfl)) (pe_ix (r := rIxT K) ix_tup (pv 1) (pv 6) (fun _ _ => rfl)) (nomark _))) pa_nil))))))), ?_⟩
  refine ⟨_, rfl, x, n, es, rfl, hx, g, fun H1 s1 => ?_⟩
  obtain ⟨t, e, ys, rfl, ht, he, hes⟩ := hx.same s1
  refine ⟨_, rfl, t, _, rfl, ht, rfl, _, _, rfl, _, _, rfl, rfl, ?_⟩
  have hv1 := hv.same s1
  obtain ⟨T, ty, ok⟩ := hv1.ty
  refine ⟨_, rfl, v, T, rfl, ty, T, "tuple", rfl, rfl, _, rfl, ?_⟩
  refine iteB (fun c3 => ?_) (fun c3 => ?_)
  · refine iteT ?_
    have nt : T ≠ "tuple" := by simpa using c3
    have e : isCol n es s = false := by
      cases s with
      | tup es => exact absurd ok nt
      | _ => rfl
    have q0 := q H1 s1
    rw [e] at q0
    exact q0
  have et : T = "tuple" := by simpa using c3
  obtain ⟨ss, rfl⟩ : ∃ ss, s = .tup ss := by
    cases s with
    | tup ss => exact ⟨ss, rfl⟩
    | int i => rw [show T = "int" from ok] at et; exact absurd et (by decide)
    | bool b => rw [show T = "bool" from ok] at et; exact absurd et (by decide)
    | str x => rw [show T = "str" from ok] at et; exact absurd et (by decide)
    | oth => exact absurd et ok.2.2.1
  have eq : isCol n es (.tup ss) = (decide (ss.length = n) && (ss.all (wholeF 0) && es.all fun p => !(intS (ss.getD p.1 (.int 0)) == intS (ss.getD p.2 (.int 0))))) := rfl
  have n9 := g.n9
  have few := g.few
  have le := PairsAt.len hes
  cases hv1 with
  | @tup u xs _ hu r =>
  have lx := r.len
  refine ⟨_, rfl, u, _, rfl, .inr hu, _, rfl, rfl, _, rfl, ?_⟩
  refine iteB (fun c4 => ?_) (fun c4 => ?_)
  · have ne : ss.length ≠ n := fun z => by
      have z2 : decide (V.int ((xs.length : Nat) : Int) = V.int (n : Int)) = true := decide_eq_true (by rw [lx, z])
      rw [z2] at c4
      cases c4
    have q0 := q H1 s1
    rw [eq, decide_eq_false ne, Bool.false_and] at q0
    exact q0
  have ln : ss.length = n := by
    by_cases z : ss.length = n
    · exact z
    · have z2 : decide (V.int ((xs.length : Nat) : Int) = V.int (n : Int)) = false := decide_eq_false fun w => z (by
        injection w with w
        rw [lx] at w
        exact Int.ofNat.inj w)
      rw [z2] at c4
      cases c4
  rw [eq, decide_eq_true ln, Bool.true_and] at q
  refine ⟨_, rfl, u, rfl, ⟨_, hu⟩, fun D nD => lo_it (walk_tup (xs := xs)) (fun i H2 => Same H1 H2 ∧ H2 D = some (.lst (((ss.take i).map (wholeF 0)).map V.bl))) ⟨same_new nD _, upd_same⟩ (fun i H2 _ ⟨s2, _⟩ => Same.tup s2 hu) ?_ ?_⟩
  · rintro i y _ H2 li ⟨s2, hD⟩ ⟨rfl, hi⟩
    obtain ⟨z, hz, sz⟩ := (r.same s2).get hi
    refine ⟨rfl, ?_⟩
    refine ⟨_, rfl, y, z, 0, rfl, sz, _, hD, small1000 (by rw [List.length_map, List.length_map, List.length_take]; omega), same_put s2 nD, ?_⟩
    rw [upd_same, take_succ hz, List.map_append, List.map_append]
    rfl
  rintro H2 ⟨s2, hD⟩
  rw [lx, List.take_length] at hD
  refine ⟨D, _, rfl, SqL.of hD, _, rfl, ?_⟩
  have ea : (ss.map (wholeF 0)).all id = ss.all (wholeF 0) := by rw [List.all_map]; rfl
  rw [ea]
  refine iteB (fun c5 => ?_) (fun c5 => ?_)
  · have c6 : ss.all (wholeF 0) = false := by
      cases z : ss.all (wholeF 0) with
      | false => rfl
      | true => rw [z] at c5; cases c5
    have q1 := q H2 (s1.trans s2)
    rw [c6, Bool.false_and] at q1
    exact q1
  have c6 : ss.all (wholeF 0) = true := by
    cases z : ss.all (wholeF 0) with
    | true => rfl
    | false => rw [z] at c5; cases c5
  rw [c6, Bool.true_and] at q
  have xint : ∀ k, k < n → xs[k]? = some (V.int (intS (ss.getD k (.int 0)))) := fun k hk => by
    have hkx : k < xs.length := by omega
    obtain ⟨z, hz, sz⟩ := r.get (List.getElem?_eq_getElem hkx)
    have wz := List.all_eq_true.mp c6 z (List.mem_of_getElem? hz)
    rw [List.getElem?_eq_getElem hkx, List.getD_eq_getElem?_getD, hz]
    generalize xs[k] = xv at sz ⊢
    cases z with
    | int i =>
      cases sz
      rfl
    | _ => cases wz
  refine ⟨_, rfl, e, rfl, ⟨_, Same.tup s2 he⟩, fun D2 nD2 => lo_it (walk_tup (xs := ys)) (fun i H3 => Same H2 H3 ∧ H3 D2 = some (.lst (((es.take i).map fun p => !(intS (ss.getD p.1 (.int 0)) == intS (ss.getD p.2 (.int 0)))).map V.bl))) ⟨same_new nD2 _, upd_same⟩ (fun i H3 _ ⟨s3, _⟩ => Same.tup s3 (Same.tup s2 he)) ?_ ?_⟩
  · rintro i y _ H3 li ⟨s3, hD2⟩ ⟨rfl, hi⟩
    have s23 := s2.trans s3
    obtain ⟨p, hp, w2, rfl, hw2⟩ := PairsAt.get (hes.same s23) hi
    obtain ⟨l1, l2⟩ := g.lt p (List.mem_of_getElem? hp)
    have hu3 := Same.tup s23 hu
    refine ⟨w2, _, rfl, hw2, rfl, _, _, rfl, _, _, rfl, rfl, ?_⟩
    refine ⟨rfl, ?_⟩
    refine ⟨_, rfl, _, rfl, u, _, _, _, rfl, rfl, hu3, atI_nat (xint p.1 (by omega)), _, rfl, _, rfl, u, _, _, _, rfl, rfl, hu3, atI_nat (xint p.2 l2), rfl, _, hD2, small1000 (by rw [List.length_map, List.length_map, List.length_take]; omega), same_put s3 nD2, ?_⟩
    rw [upd_same, take_succ hp, List.map_append, List.map_append, dec_int]
    rfl
  · rintro H3 ⟨s3, hD2⟩
    rw [le, List.take_length] at hD2
    refine ⟨D2, _, rfl, SqL.of hD2, ?_⟩
    have q1 := q H3 (s1.trans (s2.trans s3))
    have eb : (es.map fun p => !(intS (ss.getD p.1 (.int 0)) == intS (ss.getD p.2 (.int 0)))).all id = es.all fun p => !(intS (ss.getD p.1 (.int 0)) == intS (ss.getD p.2 (.int 0))) := by rw [List.all_map]; rfl
    rw [eb]
    exact q1
end
end My

set_option maxHeartbeats 8000000
namespace My
open PySem PySem.Spec PyProof.Rows L2
abbrev sOne : Stmt := top (38 + 4)
theorem scOne : FnScope ["graph", "thing", "each", "pair"] ["graph", "thing"] (defScope sOne) := ⟨rfl, rfl, rfl, by decide +kernel, rfl, by decide +kernel, by decide +kernel⟩
def isTup : Sh → Bool
  | .tup _ => true
  | _ => false
def isInt : Sh → Bool
  | .int _ => true
  | .bool _ => true
  | _ => false
def isBool : Sh → Bool
  | .bool _ => true
  | _ => false
theorem tyx_tup {K : PySem.W.Frag} {H : Hp} {t : Addr} {xs : List V} (h : SqT K H t xs) : TyX K H (.ref t) (.type "tuple") := by
  rcases h with (h | ⟨o, h⟩) | ⟨o, its, n, h, c, _⟩
  · exact .base (.tup h)
  · exact .fTuple h
  · exact .kTuple h c
theorem tyx_lst {K : PySem.W.Frag} {H : Hp} {t : Addr} {xs : List V} (h : SqL K H t xs) : TyX K H (.ref t) (.type "list") := by
  rcases h with (h | ⟨o, h⟩) | ⟨o, its, n, h, c, _⟩
  · exact .base (.lst h)
  · exact .base (.frz h)
  · exact .kList h c
theorem isi_of {K : PySem.W.Frag} {H : Hp} {v : V} {s : Sh} (h : ShAt K H v s) : ∃ t, TyX K H v t ∧ PySem.W.kitOne K t (.type "tuple") = some (isTup s) ∧ PySem.W.kitOne K t (.type "int") = some (isInt s) ∧ PySem.W.kitOne K t (.type "bool") = some (isBool s) := by
  cases h with
  | int i => exact ⟨_, .base (.int i), rfl, rfl, rfl⟩
  | bool b => exact ⟨_, .base (.bl b), rfl, rfl, rfl⟩
  | tup h r => exact ⟨_, tyx_tup h, rfl, rfl, rfl⟩
  | non => exact ⟨_, .base .non, rfl, rfl, rfl⟩
  | str x => exact ⟨_, .base (.str x), rfl, rfl, rfl⟩
  | lst h => exact ⟨_, tyx_lst h, rfl, rfl, rfl⟩
  | dct h => exact ⟨_, .base (.dK h), rfl, rfl, rfl⟩
theorem pairs_shapedL (es : List E2) : SeqAt.shaped (.list (es.map pairD)) = true := by
  have pd := pairsD_depth es
  unfold SeqAt.shaped
  rw [Bool.and_eq_true, decide_eq_true_eq]
  refine ⟨?_, ?_⟩
  · simp only [PyData.canLay0, pairsD_lay es]
  · simp only [PyData.depth]
    omega
def spOne (K : PySem.W.Frag) : Sp := fun vs H Q _ => ∃ (x : V) (n : Nat) (es : List E2) (v : V) (s : Sh), vs = [x, v] ∧ GraphAt K H x n es ∧ Good n es ∧ ShAt K H v s ∧ ∀ H', Same H H' → Q (.bl (isCol n es s)) H'
section
variable {P : Program} {w : World} {K : PySem.W.Frag} {mg : Str → Option Value} {base : Heap} {f : Addr} {fd : FuncData}
theorem ok_one (F : L2.Fun K "_law_is_one" "_law_is_one" sOne f fd) (mi : mg "isinstance" = none) (mt : mg "tuple" = none) (ml : mg "len" = none) (mn : mg "int" = none) (mb : mg "bool" = none) : FnOk P w K mg base CX0 1 f fd ["graph", "thing"] (spOne K) := by
  refine F.ok scOne (fun vs H Q E h => ?_) (fun cdv A outer s H vs Q E hr h => ?_)
  · obtain ⟨x, n, es, v, s, rfl, _⟩ := h
    rfl
  obtain ⟨x, n, es, v, s, rfl, hx, g, hv, q⟩ := h
  refine ⟨_, pss_cons (ps_if (PW.pt (pw_or (pt_not (pt_val (pe_callB call_isi (by rfl) mi (by decide +kernel) (pa_cons (pv 1) (pa_cons (pe_bltn (v := .ty "tuple") (by rfl) mt (by decide +kernel) rfl) pa_nil))))) (pw_or1 (pt_cmpR op_ne (pe_callB call_len_seq (by rfl) ml PySem.boot_len (pa_cons (pv 1) pa_nil)) (pe_ix (r := rIxT K) ix_tup (pv 0) pe_int (fun _ _ => rfl)) (nomark _))))) (pss_one (ps_ret pe_bl)) pss_nil)
    (pss_cons (ps_for PassesOwn.never rfl (pi_tup (pv 1)) (pg_name (i := 2) scOne.nd rfl (.inl rfl))
      (pss_one (ps_if (PW.pt (pw_or (pt_not (pt_val (pe_callB call_isi (by rfl) mi (by decide +kernel) (pa_cons (pv 2) (pa_cons (pe_bltn (v := .ty "int") (by rfl) mn (by decide +kernel) rfl) pa_nil))))) (pw_or (pt_val (pe_callB call_isi (by rfl) mi (by decide +kernel) (pa_cons (pv 2) (pa_cons (pe_bltn (v := .ty "bool") (by rfl) mb (by decide +kernel) rfl) pa_nil)))) (pw_or1 (pt_cmpR op_lt (pv 2) pe_int (nomark _)))))) (pss_one (ps_ret pe_bl)) pss_nil)))
    (pss_one (ps_ret (pe_cmpR (op_eqD hr.units) (pe_lc (own := [("pair", 3)]) (g := gName 3) (tt := tTest (tOp rEq (tOp (rIxT K) (tVar 1) (tOp (rIxT K) (tVar 3) (tC (.int 0)))) (tOp (rIxT K) (tVar 1) (tOp (rIxT K) (tVar 3) (tC (.int 1)))))) rfl scOne.nd (pi_tup (pe_ix (r := rIxT K) ix_tup (pv 0) pe_int (fun _ _ => rfl)))
        (blkOk_by (N := ["graph", "thing", "each", "pair"]) (sc := defScope sOne) (by decide +kernel)) (fun _ _ _ _ _ => pg_name (i := 3) scOne.nd rfl (Or.inl rfl))
        (fun _ _ _ _ _ => pts_one (pt_cmpR (r := rEq) op_eq (pe_ix (r := rIxT K) ix_tup (pv 1) (pe_ix (r := rIxT K) ix_tup (pv 3) pe_int (fun _ _ => rfl)) (fun _ _ => rfl)) (pe_ix (r := rIxT K) ix_tup (pv 1) (pe_ix (r := rIxT K) ix_tup (pv 3) pe_int (fun _ _ => rfl)) (fun _ _ => rfl)) (nomark _)))
        (fun _ _ _ _ _ => pv 3)) (pe_lst pa_nil) (nomark _))))), ?_⟩
  have n9 := g.n9
  have few := g.few
  obtain ⟨tt, tx, k1, k2, k3⟩ := isi_of hv
  refine ⟨_, rfl, v, .ty "tuple", tt, .type "tuple", isTup s, rfl, .ty _, tx, k1, _, rfl, ?_⟩
  refine iteB (fun c => ?_) (fun c => ?_)
  · refine iteT ?_
    have e : isCol n es s = false := by
      cases s with
      | tup es => cases c
      | _ => rfl
    have q0 := q H (Same.refl H)
    rw [e] at q0
    exact q0
  obtain ⟨ss, rfl⟩ : ∃ ss, s = .tup ss := by
    cases s with
    | tup ss => exact ⟨ss, rfl⟩
    | _ => cases c
  obtain ⟨t, e, ys, rfl, ht, he, hes⟩ := id hx
  have a0 : atI [V.int (n : Int), V.ref e] 0 = some (.int (n : Int)) := atI_nat (j := 0) rfl
  have a1 : atI [V.int (n : Int), V.ref e] 1 = some (.ref e) := atI_nat (j := 1) rfl
  have eq : isCol n es (.tup ss) = (decide (ss.length = n) && (ss.all (wholeF 0) && es.all fun p => !(intS (ss.getD p.1 (.int 0)) == intS (ss.getD p.2 (.int 0))))) := rfl
  have le := PairsAt.len hes
  cases hv with
  | @tup u xs _ hu r =>
  have lx := r.len
  refine ⟨_, rfl, u, _, rfl, .inr hu, _, rfl, t, _, 0, _, rfl, rfl, ht, a0, rfl, _, rfl, ?_⟩
  refine iteB (fun c4 => ?_) (fun c4 => ?_)
  · have ne : ss.length ≠ n := fun z => by
      have z2 : decide (V.int ((xs.length : Nat) : Int) = V.int (n : Int)) = true := decide_eq_true (by rw [lx, z])
      rw [z2] at c4
      cases c4
    have q0 := q H (Same.refl H)
    rw [eq, decide_eq_false ne, Bool.false_and] at q0
    exact q0
  have ln : ss.length = n := by
    by_cases z : ss.length = n
    · exact z
    · have z2 : decide (V.int ((xs.length : Nat) : Int) = V.int (n : Int)) = false := decide_eq_false fun w => z (by
        injection w with w
        rw [lx] at w
        exact Int.ofNat.inj w)
      rw [z2] at c4
      cases c4
  rw [eq, decide_eq_true ln, Bool.true_and] at q
  refine ⟨_, rfl, u, rfl, ⟨_, hu⟩, for_it (walk_tup (xs := xs)) (fun i σ H' => ∃ (s2 : Option V), σ = [some (.ref t), some (.ref u), s2, none] ∧ H' = H ∧ (ss.take i).all (wholeF 0) = true) ⟨none, rfl, rfl, rfl⟩ (fun i σ H' _ ⟨_, _, z, _⟩ => by rw [z]; exact hu) ?_ ?_⟩
  · rintro i y σ _ H2 li ⟨s2', rfl, rfl, al⟩ ⟨rfl, hi⟩
    obtain ⟨z, hz, sz⟩ := r.get hi
    obtain ⟨t2, tx2, j1, j2, j3⟩ := isi_of sz
    have bad : wholeF 0 z = false → ss.all (wholeF 0) = false := fun w => by
      cases e2 : ss.all (wholeF 0) with
      | false => rfl
      | true => rw [List.all_eq_true.mp e2 z (List.mem_of_getElem? hz)] at w; cases w
    have qf : wholeF 0 z = false → Q (.bl false) H2 := fun w => by
      have q0 := q H2 (Same.refl H2)
      rw [bad w, Bool.false_and] at q0
      exact q0
    have ok : wholeF 0 z = true → (ss.take (i + 1)).all (wholeF 0) = true := fun w => by
      rw [take_succ hz, List.all_append, al, List.all_cons, w]
      rfl
    refine ⟨_, rfl, y, .ty "int", t2, .type "int", isInt z, rfl, .ty _, tx2, j2, _, rfl, ?_⟩
    refine iteB (fun c1 => ?_) (fun c1 => ?_)
    · refine iteT (qf ?_)
      cases z with
      | int i => cases c1
      | _ => rfl
    refine ⟨_, rfl, y, .ty "bool", t2, .type "bool", isBool z, rfl, .ty _, tx2, j3, _, rfl, ?_⟩
    refine iteB (fun c2 => ?_) (fun c2 => ?_)
    · refine iteT (qf ?_)
      cases z with
      | int i => cases c2
      | _ => rfl
    cases z with
    | int k =>
      cases sz
      refine ⟨_, rfl, _, _, rfl, rfl, _, rfl, ?_⟩
      refine iteB (fun c3 => ?_) (fun c3 => ?_)
      · refine qf ?_
        have := of_decide_eq_true c3
        show decide (k ≥ 0) = false
        exact decide_eq_false (by omega)
      · refine ⟨_, rfl, rfl, ok ?_⟩
        have := of_decide_eq_false c3
        show decide (k ≥ 0) = true
        exact decide_eq_true (by omega)
    | bool b => cases c2
    | _ => cases c1
  rintro σ H2 ⟨s2', rfl, rfl, al⟩
  rw [lx, List.take_length] at al
  rw [al, Bool.true_and] at q
  have xint : ∀ k, k < n → xs[k]? = some (V.int (intS (ss.getD k (.int 0)))) := fun k hk => by
    have hkx : k < xs.length := by omega
    obtain ⟨z, hz, sz⟩ := r.get (List.getElem?_eq_getElem hkx)
    have wz := List.all_eq_true.mp al z (List.mem_of_getElem? hz)
    rw [List.getElem?_eq_getElem hkx, List.getD_eq_getElem?_getD, hz]
    generalize xs[k] = xv at sz ⊢
    cases z with
    | int i =>
      cases sz
      rfl
    | _ => cases wz
  refine ⟨_, rfl, t, _, 1, _, rfl, rfl, ht, a1, e, rfl, ⟨_, he⟩, fun D nD => lo_it (walk_tup (xs := ys)) (fun j H3 => Same H2 H3 ∧ ∃ zs, H3 D = some (.lst zs) ∧ PairsAt K H3 zs ((es.take j).filter fun p => intS (ss.getD p.1 (.int 0)) == intS (ss.getD p.2 (.int 0)))) ⟨same_new nD _, [], upd_same, .nil⟩ (fun j H3 _ ⟨s3, _⟩ => Same.tup s3 he) ?_ ?_⟩
  · rintro j y _ H3 lj ⟨s3, zs, hD, hz⟩ ⟨rfl, hj⟩
    obtain ⟨p, hp, w2, rfl, hw2⟩ := PairsAt.get (hes.same s3) hj
    obtain ⟨l1, l2⟩ := g.lt p (List.mem_of_getElem? hp)
    have hu3 := Same.tup s3 hu
    have tk := take_succ hp
    refine ⟨rfl, ?_⟩
    refine ⟨_, rfl, _, rfl, w2, _, 0, _, rfl, rfl, hw2, atI_nat (j := 0) rfl, u, _, _, _, rfl, rfl, hu3, atI_nat (xint p.1 (by omega)), _, rfl, _, rfl, w2, _, 1, _, rfl, rfl, hw2, atI_nat (j := 1) rfl, u, _, _, _, rfl, rfl, hu3, atI_nat (xint p.2 l2), rfl, _, rfl, ?_⟩
    rw [dec_int]
    have lz : zs.length < 1000 := by
      rw [PairsAt.len hz]
      refine Nat.lt_of_le_of_lt (List.length_filter_le _ _) ?_
      rw [List.length_take]
      omega
    refine iteB (fun cc => ?_) (fun cc => ?_)
    · refine ⟨_, rfl, zs, hD, small1000 (by omega), same_put s3 nD, zs ++ [.ref w2], upd_same, ?_⟩
      rw [tk, List.filter_append, List.filter_cons_of_pos (p := fun p : E2 => intS (ss.getD p.1 (.int 0)) == intS (ss.getD p.2 (.int 0))) cc]
      exact (hz.ts (TS.put hD)).append (.cons ⟨w2, rfl, (TS.put hD).tup hw2⟩ .nil)
    · refine ⟨s3, zs, hD, ?_⟩
      rw [tk, List.filter_append, List.filter_cons_of_neg (p := fun p : E2 => intS (ss.getD p.1 (.int 0)) == intS (ss.getD p.2 (.int 0))) (by rw [cc]; decide), List.filter_nil, List.append_nil]
      exact hz
  · rintro H3 ⟨s3, zs, hD, hz⟩
    rw [le, List.take_length] at hz
    refine ⟨(by show 0 ≤ sizeLine; decide), fun Z nZ => ?_⟩
    have sZ := same_new nZ (.lst [])
    have hZ := upd_same (H := H3) (a := Z) (o := .lst [])
    have q1 := q _ (s3.trans sZ)
    generalize eb : (es.filter fun p => intS (ss.getD p.1 (.int 0)) == intS (ss.getD p.2 (.int 0))) = bad at hz
    have ev : (es.all fun p => !(intS (ss.getD p.1 (.int 0)) == intS (ss.getD p.2 (.int 0)))) = PyData.eqv (.list (bad.map pairD)) (.list []) := by
      rw [← eb]
      cases e2 : es.filter fun p => intS (ss.getD p.1 (.int 0)) == intS (ss.getD p.2 (.int 0)) with
      | nil =>
        rw [List.map_nil]
        simp only [PyData.eqv, PyData.eqvAll]
        rw [List.all_eq_true]
        intro p hp
        have z := List.filter_eq_nil_iff.mp e2 p hp
        simpa using z
      | cons a r =>
        rw [List.map_cons]
        simp only [PyData.eqv, PyData.eqvAll]
        have m : a ∈ es.filter fun p => intS (ss.getD p.1 (.int 0)) == intS (ss.getD p.2 (.int 0)) := by rw [e2]; exact List.mem_cons_self ..
        obtain ⟨m1, m2⟩ := List.mem_filter.mp m
        rw [List.all_eq_false]
        exact ⟨a, m1, by rw [m2]; decide⟩
    rw [ev] at q1
    refine ⟨.list (bad.map pairD), .list [], .lst (SqL.of (sZ _ _ hD)) (hz.same sZ).dp, .lst (SqL.of hZ) .nil, pairs_shapedL bad, pairs_shapedL [], q1⟩
end
end My

set_option maxHeartbeats 8000000
namespace My
open PySem PySem.Spec PyProof.Rows L2
abbrev sBent : Stmt := top (38 + 5)
theorem scBent : FnScope ["well", "told", "way", "at", "odd", "each"] ["well", "told"] (defScope sBent) := ⟨rfl, rfl, rfl, by decide +kernel, rfl, by decide +kernel, by decide +kernel⟩
/-- t + u, whatever of them is () -/
def rCatW (K : PySem.W.Frag) : R2 := fun x y H Q => ∃ a b xs ys, x = .ref a ∧ y = .ref b ∧ SqT K H a xs ∧ SqT K H b ys ∧ xs.length + ys.length ≤ sizeLine ∧ ∀ p H', Same H H' → SqT K H' p (xs ++ ys) → Q (.ref p) H'
theorem op_catW {X : Cx} : OpR X (binaryOp .Add) (rCatW X.K) := by
  intro pins s σ H x y v u Q I rx ry h
  obtain ⟨a, b, xs, ys, rfl, rfl, ha, hb, hz, q⟩ := h
  refine op_catA pins s σ H _ _ v u Q I rx ry ⟨a, b, xs, ys, rfl, rfl, ha, hb, hz, fun e => ?_, fun _ e => ?_, fun _ _ p np => q p _ (same_new np _) (SqT.of upd_same)⟩
  · subst e
    exact q b H (Same.refl H) hb
  · subst e
    exact q a H (Same.refl H) (by rw [List.append_nil]; exact ha)
/-- t[lo:hi], the whole of it too -/
def rSlW (K : PySem.W.Frag) : V → Option Int → Option Int → Hp → VK → Prop := fun x lo hi H Q => ∃ a xs, x = .ref a ∧ SqT K H a xs ∧ ∀ p H', Same H H' → SqT K H' p (cutV xs lo hi) → Q (.ref p) H'
theorem sl_tupW {X : Cx} : SlR X (rSlW X.K) := by
  intro pins s σ H x v vl vu lo hi sl Q I rx hs pl pu h
  obtain ⟨a, xs, rfl, hx, q⟩ := h
  refine sl_tupA pins s σ H _ v vl vu lo hi sl Q I rx hs pl pu ⟨a, xs, rfl, hx, fun w => q a H (Same.refl H) ?_, fun _ p np => q p _ (same_new np _) (SqT.of upd_same)⟩
  have e : cutV xs lo hi = xs := by
    unfold cutV
    rw [w.1, w.2, List.drop_zero, Nat.sub_zero, List.take_length]
  rw [e]
  exact hx
theorem ShsAt.drop {K : PySem.W.Frag} {H : Hp} : ∀ {xs : List V} {ss : List Sh} (k : Nat), ShsAt K H xs ss → ShsAt K H (xs.drop k) (ss.drop k)
  | _, _, 0, h => h
  | _, _, k + 1, .nil => .nil
  | _, _, k + 1, .cons _ r => ShsAt.drop k r
theorem ShsAt.take {K : PySem.W.Frag} {H : Hp} : ∀ {xs : List V} {ss : List Sh} (k : Nat), ShsAt K H xs ss → ShsAt K H (xs.take k) (ss.take k)
  | _, _, 0, _ => .nil
  | _, _, k + 1, .nil => .nil
  | _, _, k + 1, .cons a r => .cons a (ShsAt.take k r)
theorem ShsAt.cut {K : PySem.W.Frag} {H : Hp} {xs : List V} {ss : List Sh} (h : ShsAt K H xs ss) (lo hi : Option Int) : ∃ ts, ShsAt K H (cutV xs lo hi) ts := ⟨_, (h.drop _).take _⟩
def spBentC (K : PySem.W.Frag) : Sp := fun vs H Q _ => ∃ (p t : Addr) (cs : List Nat), vs = [.ref p, .ref t] ∧ Wl H p ∧ H t = some (.tup (numsN cs)) ∧ cs.length ≤ 9 ∧ ∀ (v : V) (s : Sh) H', But p H H' → Wl H' p → ShAt K H' v s → Q v H'
section
variable {P : Program} {w : World} {K : PySem.W.Frag} {mg : Str → Option Value} {base : Heap} {f fD fK : Addr} {fd dD dK : FuncData}
theorem ok_bentC (F : L2.Fun K "_law_bent" "_law_bent" sBent f fd) (GD : FnOk P w K mg base CX0 1 fD dD ["well", "many"] spDraw) (bD : L2.Binds K dD ["well", "many"] []) (kD : PySem.W.keepIn K (.ref fD) = true) (mD : mg "_law_draw" = some (.ref fD))
    (GK : FnOk P w K mg base CX0 2 fK dK ["well", "some"] (spPick K)) (bK : L2.Binds K dK ["well", "some"] []) (kK : PySem.W.keepIn K (.ref fK) = true) (mK : mg "_law_pick" = some (.ref fK)) (ml : mg "len" = none) (mli : mg "list" = none) (mt : mg "tuple" = none) : FnOk P w K mg base CX0 3 f fd ["well", "told"] (spBentC K) := by
  refine F.ok scBent (fun vs H Q E h => ?_) (fun cdv A outer s H vs Q E hr h => ?_)
  · obtain ⟨p, t, cs, rfl, _⟩ := h
    rfl
  obtain ⟨p, t, cs, rfl, hW, ht, l9, q⟩ := h
  have h1 := hr.mono (show 1 ≤ 2 by decide)
  refine ⟨_, pss_cons (ps_par (by rfl) scBent.nd (i := 2) (j := 3) rfl rfl (by decide) rfl rfl (pa_cons (pe_call GD h1 (by rfl) mD kD bD .nil pass0 (pa_cons (pv 0) (pa_cons pe_int pa_nil))) (pa_cons (pe_call GD h1 (by rfl) mD kD bD .nil pass0 (pa_cons (pv 0) (pa_cons (pe_op op_add (pe_callB call_len_seq (by rfl) ml PySem.boot_len (pa_cons (pv 1) pa_nil)) pe_int) pa_nil))) pa_nil)) (by rfl))
    (pss_cons (ps_set (i := 4) scBent.nd rfl (.inl rfl) (pe_call GK hr (by rfl) mK kK bK .nil pass0 (pa_cons (pv 0) (pa_cons (pe_tup (pa_cons pe_int (pa_cons pe_int (pa_cons pe_int (pa_cons (pe_un un_neg pe_int) (pa_cons pe_bl (pa_cons pe_non (pa_cons pe_str (pa_cons (pe_tup (pa_cons pe_int pa_nil)) (pa_cons (pe_op op_pow pe_int pe_int) (pa_cons pe_bl pa_nil))))))))))) pa_nil))))
    (pss_cons (ps_if (pt_cmpR op_eq (pv 2) pe_int (nomark _)) (pss_one (ps_ret (pe_op op_catW (pe_op op_catW (pe_slice sl_tupW (pv 1) po_none (po_some (pv 3))) (pe_tup (pa_cons (pv 4) pa_nil))) (pe_slice sl_tupW (pv 1) (po_some (pv 3)) po_none)))) pss_nil)
    (pss_cons (ps_if (pt_cmpR op_eq (pv 2) pe_int (nomark _)) (pss_one (ps_ret (pe_op op_catW (pe_slice sl_tupW (pv 1) po_none (po_some (pv 3))) (pe_slice sl_tupW (pv 1) (po_some (pe_op op_add (pv 3) pe_int)) po_none)))) pss_nil)
    (pss_cons (ps_if (pt_cmpR op_eq (pv 2) pe_int (nomark _)) (pss_one (ps_ret (pe_callTy call_list_of (by rfl) mli (by decide +kernel) (pa_cons (pv 1) pa_nil)))) pss_nil)
    (pss_cons (ps_if (pt_cmpR op_eq (pv 2) pe_int (nomark _)) (pss_one (ps_ret (pe_call GK hr (by rfl) mK kK bK .nil pass0 (pa_cons (pv 0) (pa_cons (pe_tup (pa_cons pe_non (pa_cons pe_int (pa_cons pe_str (pa_cons pe_dnewK (pa_cons (pe_tup pa_nil) (pa_cons (pe_tup (pa_cons (pe_tup pa_nil) pa_nil)) pa_nil))))))) pa_nil))))) pss_nil)
    (pss_cons (ps_if (pt_cmpR op_eq (pv 2) pe_int (nomark _)) (pss_one (ps_ret (pe_callTy call_tuple_of (by rfl) mt (by decide +kernel) (pa_cons (pe_lc (own := [("each", 5)]) (g := gName 5) (tt := tYes) rfl scBent.nd (pi_tup (pv 1))
        (blkOk_by (N := ["well", "told", "way", "at", "odd", "each"]) (sc := defScope sBent) (by decide +kernel)) (fun _ _ _ _ _ => pg_name (i := 5) scBent.nd rfl (Or.inl rfl)) (fun _ _ _ _ _ => pts_nil) (fun _ _ _ _ _ => pe_op op_add (pv 5) pe_int)) pa_nil)))) pss_nil)
    (pss_one (ps_ret (pe_ifExp (pt_cmpR op_lt (pv 3) (pe_callB call_len_seq (by rfl) ml PySem.boot_len (pa_cons (pv 1) pa_nil)) (nomark _)) (pe_op op_catW (pe_op op_catW (pe_slice sl_tupW (pv 1) po_none (po_some (pv 3))) (pe_tup (pa_cons (pv 4) pa_nil))) (pe_slice sl_tupW (pv 1) (po_some (pe_op op_add (pv 3) pe_int)) po_none)) (pv 1)))))))))), ?_⟩
  refine ⟨_, rfl, p, 8, rfl, hW, by decide, by decide, fun d H1 _ _ b1 w1 => ?_⟩
  have T1 := TS.but b1 hW
  have t1 : SqT K H1 t (numsN cs) := T1.tup (SqT.of ht)
  refine ⟨_, rfl, _, rfl, t, _, rfl, .inr t1, _, _, rfl, rfl, p, _, rfl, w1, by rw [numsN_len]; omega, by rw [numsN_len]; omega, fun a H2 a0 _ b2 w2 => ?_⟩
  have T2 := TS.but b2 w1
  have t2 := T2.tup t1
  refine ⟨_, _, rfl, ?_⟩
  refine ⟨_, rfl, _, rfl, (by show 1 ≤ sizeLine; rw [sizeLine_eq]; decide), fun ta nta => ⟨_, _, rfl, rfl, ⟨by decide, by decide, by decide⟩, (by show 10 ≤ sizeLine; rw [sizeLine_eq]; decide), fun tb ntb => ?_⟩⟩
  have sa := same_new nta (.tup [.int 0])
  have ha := upd_same (H := H2) (a := ta) (o := .tup [.int 0])
  generalize upd H2 ta (.tup [.int 0]) = H3 at sa ha ntb ⊢
  have w3 := w2.same sa
  have t3 := Same.tup sa t2
  refine ⟨p, tb, _, rfl, w3.same (same_new ntb _), (w3.same (same_new ntb _)).off (SqT.of upd_same), by simp, by simp, fun i v H5 hi b5 w5 => ?_⟩
  have T5 := (TS.of (same_new ntb _)).trans (TS.but b5 (w3.same (same_new ntb _)))
  have ta5 : SqT K H5 ta [.int 0] := T5.tup (SqT.of ha)
  have hA : SqT K H5 t (numsN cs) := T5.tup t3
  have bA : But p H H5 := b1.trans (b2.trans ((But.of (sa.trans (same_new ntb _))).trans b5))
  obtain ⟨so, ho⟩ : ∃ so, ShAt K H5 v so := by
    have m := List.mem_of_getElem? hi
    simp only [List.mem_cons, List.not_mem_nil, or_false] at m
    rcases m with rfl | rfl | rfl | rfl | rfl | rfl | rfl | rfl | rfl | rfl
    · exact ⟨_, .int _⟩
    · exact ⟨_, .int _⟩
    · exact ⟨_, .int _⟩
    · exact ⟨_, .int _⟩
    · exact ⟨_, .bool _⟩
    · exact ⟨_, .non⟩
    · exact ⟨_, .str _⟩
    · exact ⟨_, .tup ta5 (.cons (.int 0) .nil)⟩
    · exact ⟨_, .int _⟩
    · exact ⟨_, .bool _⟩
  clear hi T5 ta5
  have nn : (numsN cs).length ≤ 9 := by rw [numsN_len]; exact l9
  have shA : ShsAt K H5 (numsN cs) (cs.map fun k => Sh.int ((k : Nat) : Int)) := ints_sh cs
  have line : ∀ k, k ≤ 100 → k ≤ sizeLine := fun k hk => small (by omega)
  have cl : ∀ lo hi, (cutV (numsN cs) lo hi).length ≤ 9 := fun lo hi => Nat.le_trans (cutV_length _ _ _) nn
  refine ⟨_, rfl, rfl, _, rfl, iteB (fun _ => ?_) (fun _ => ?_)⟩
  · refine ⟨_, rfl, _, rfl, _, rfl, t, _, rfl, hA, fun p1 H6 s6 hp1 => ?_⟩
    refine ⟨_, rfl, line 1 (by decide), fun u nu => ?_⟩
    have su := same_new nu (.tup [v])
    refine ⟨p1, u, _, _, rfl, rfl, Same.tup su hp1, SqT.of upd_same, line _ (by have := cl none (some a); rw [List.length_singleton]; omega), fun p2 H7 s7 hp2 => ?_⟩
    refine ⟨_, rfl, _, rfl, _, rfl, t, _, rfl, Same.tup (s6.trans (su.trans s7)) hA, fun p3 H8 s8 hp3 => ?_⟩
    refine ⟨p2, p3, _, _, rfl, rfl, Same.tup s8 hp2, hp3, line _ (by have := cl none (some a); have := cl (some a) none; rw [List.length_append, List.length_singleton]; omega), fun p4 H9 s9 hp4 => ?_⟩
    have s59 := s6.trans (su.trans (s7.trans (s8.trans s9)))
    obtain ⟨c1, z1⟩ := (shA.same s59).cut none (some a)
    obtain ⟨c2, z2⟩ := (shA.same s59).cut (some a) none
    exact q _ _ H9 (bA.trans (But.of s59)) (w5.same s59) (.tup hp4 ((z1.app (.cons (ho.same s59) .nil)).app z2))
  refine ⟨_, rfl, rfl, _, rfl, iteB (fun _ => ?_) (fun _ => ?_)⟩
  · refine ⟨_, rfl, _, rfl, _, rfl, t, _, rfl, hA, fun p1 H6 s6 hp1 => ?_⟩
    refine ⟨_, rfl, _, rfl, _, _, rfl, rfl, _, rfl, t, _, rfl, Same.tup s6 hA, fun p3 H8 s8 hp3 => ?_⟩
    refine ⟨p1, p3, _, _, rfl, rfl, Same.tup s8 hp1, hp3, line _ (by have := cl none (some a); have := cl (some (a + 1)) none; omega), fun p4 H9 s9 hp4 => ?_⟩
    have s59 := s6.trans (s8.trans s9)
    obtain ⟨c1, z1⟩ := (shA.same s59).cut none (some a)
    obtain ⟨c2, z2⟩ := (shA.same s59).cut (some (a + 1)) none
    exact q _ _ H9 (bA.trans (But.of s59)) (w5.same s59) (.tup hp4 (z1.app z2))
  refine ⟨_, rfl, rfl, _, rfl, iteB (fun _ => ?_) (fun _ => ?_)⟩
  · refine ⟨_, rfl, t, _, rfl, .inr hA, fun l nl => ?_⟩
    have sl := same_new nl (.lst (numsN cs))
    exact q _ .oth _ (bA.trans (But.of sl)) (w5.same sl) (.lst (SqL.of upd_same))
  refine ⟨_, rfl, rfl, _, rfl, iteB (fun _ => ?_) (fun _ => ?_)⟩
  · refine ⟨_, rfl, fun td ntd => ⟨line 0 (by decide), fun t1' nt1 => ⟨line 0 (by decide), fun t2' nt2 => ⟨line 1 (by decide), fun t3' nt3 => ⟨line 6 (by decide), fun t4' nt4 => ?_⟩⟩⟩⟩⟩
    have sd := same_new ntd (.dK [])
    have e1 := same_new nt1 (.tup [])
    have e2 := same_new nt2 (.tup [])
    have e3 := same_new nt3 (.tup [.ref t2'])
    have e4 := same_new nt4 (.tup [.non, .int 5, .str "01", .ref td, .ref t1', .ref t3'])
    have hd := (e1.trans (e2.trans (e3.trans e4))) _ _ (upd_same (H := H5) (a := td) (o := .dK []))
    have h1' := (e2.trans (e3.trans e4)) _ _ (upd_same (H := upd H5 td (.dK [])) (a := t1') (o := .tup []))
    have h2' := (e3.trans e4) _ _ (upd_same (H := upd (upd H5 td (.dK [])) t1' (.tup [])) (a := t2') (o := .tup []))
    have h3' := e4 _ _ (upd_same (H := upd (upd (upd H5 td (.dK [])) t1' (.tup [])) t2' (.tup [])) (a := t3') (o := .tup [.ref t2']))
    have h4' := upd_same (H := upd (upd (upd (upd H5 td (.dK [])) t1' (.tup [])) t2' (.tup [])) t3' (.tup [.ref t2'])) (a := t4') (o := .tup [.non, .int 5, .str "01", .ref td, .ref t1', .ref t3'])
    have s59 := sd.trans (e1.trans (e2.trans (e3.trans e4)))
    have dp : td ≠ p := w5.ne ntd
    generalize upd (upd (upd (upd (upd H5 td (.dK [])) t1' (.tup [])) t2' (.tup [])) t3' (.tup [.ref t2'])) t4' (.tup [.non, .int 5, .str "01", .ref td, .ref t1', .ref t3']) = H9 at hd h1' h2' h3' h4' s59 ⊢
    have w9 := w5.same s59
    refine ⟨p, t4', _, rfl, w9, w9.off (SqT.of h4'), by simp, by simp, fun i v' H10 hi' b10 w10 => ?_⟩
    have T10 := TS.but b10 w9
    have m := List.mem_of_getElem? hi'
    simp only [List.mem_cons, List.not_mem_nil, or_false] at m
    have bB := bA.trans ((But.of s59).trans b10)
    rcases m with rfl | rfl | rfl | rfl | rfl | rfl
    · exact q _ _ H10 bB w10 .non
    · exact q _ _ H10 bB w10 (.int _)
    · exact q _ _ H10 bB w10 (.str _)
    · exact q _ _ H10 bB w10 (.dct (b10 _ _ dp hd))
    · exact q _ _ H10 bB w10 (.tup (T10.tup (SqT.of h1')) .nil)
    · exact q _ _ H10 bB w10 (.tup (T10.tup (SqT.of h3')) (.cons (.tup (T10.tup (SqT.of h2')) .nil) .nil))
  refine ⟨_, rfl, rfl, _, rfl, iteB (fun _ => ?_) (fun _ => ?_)⟩
  · refine ⟨_, rfl, t, rfl, ⟨_, hA⟩, fun D nD => lo_it (walk_tup (xs := numsN cs)) (fun i H6 => Same H5 H6 ∧ H6 D = some (.lst (numsN ((cs.take i).map (· + 7))))) ⟨same_new nD _, upd_same⟩ (fun i H6 _ ⟨s6, _⟩ => Same.tup s6 hA) ?_ ?_⟩
    · rintro j y _ H6 lj ⟨s6, hD⟩ ⟨rfl, hj⟩
      unfold numsN at hj
      rw [List.getElem?_map] at hj
      cases e : cs[j]? with
      | none => rw [e] at hj; cases hj
      | some k =>
        rw [e] at hj
        cases hj
        refine ⟨rfl, ?_⟩
        refine ⟨_, rfl, _, _, rfl, rfl, _, hD, small1000 (by rw [numsN_len, List.length_map, List.length_take]; omega), same_put s6 nD, ?_⟩
        rw [upd_same, take_succ e, List.map_append]
        unfold numsN
        rw [List.map_append]
        rfl
    · rintro H6 ⟨s6, hD⟩
      rw [numsN_len, List.take_length] at hD
      refine ⟨D, _, rfl, .inl ⟨SqL.of hD, fun l nl => ?_⟩⟩
      have sl := same_new nl (.tup (numsN (cs.map (· + 7))))
      exact q _ _ _ (bA.trans (But.of (s6.trans sl))) (w5.same (s6.trans sl)) (.tup (SqT.of upd_same) (ints_sh (cs.map (· + 7))))
  refine ⟨_, rfl, _, rfl, t, _, rfl, .inr hA, _, _, rfl, rfl, _, rfl, iteB (fun _ => ?_) (fun _ => ?_)⟩
  · refine ⟨_, rfl, _, rfl, _, rfl, t, _, rfl, hA, fun p1 H6 s6 hp1 => ?_⟩
    refine ⟨_, rfl, line 1 (by decide), fun u nu => ?_⟩
    have su := same_new nu (.tup [v])
    refine ⟨p1, u, _, _, rfl, rfl, Same.tup su hp1, SqT.of upd_same, line _ (by have := cl none (some a); rw [List.length_singleton]; omega), fun p2 H7 s7 hp2 => ?_⟩
    refine ⟨_, rfl, _, rfl, _, _, rfl, rfl, _, rfl, t, _, rfl, Same.tup (s6.trans (su.trans s7)) hA, fun p3 H8 s8 hp3 => ?_⟩
    refine ⟨p2, p3, _, _, rfl, rfl, Same.tup s8 hp2, hp3, line _ (by have := cl none (some a); have := cl (some (a + 1)) none; rw [List.length_append, List.length_singleton]; omega), fun p4 H9 s9 hp4 => ?_⟩
    have s59 := s6.trans (su.trans (s7.trans (s8.trans s9)))
    obtain ⟨c1, z1⟩ := (shA.same s59).cut none (some a)
    obtain ⟨c2, z2⟩ := (shA.same s59).cut (some (a + 1)) none
    exact q _ _ H9 (bA.trans (But.of s59)) (w5.same s59) (.tup hp4 ((z1.app (.cons (ho.same s59) .nil)).app z2))
  · exact ⟨_, rfl, q _ _ H5 bA w5 (.tup hA shA)⟩
end
end My

set_option maxHeartbeats 2000000
/-! Reading graph6, in plain Lean: by the signs' codes. -/
namespace My
open PySem PySem.Spec PyProof.Rows L2
/-- the sign c can stand at place a behind the first one, with L pairs to tell -/
def goodS (L a c : Nat) : Bool := decide (63 ≤ c ∧ c < 127) && decide (6 * a < L) && decide ((c - 63) % 2 ^ (6 - (L - 6 * a)) = 0)
/-- where it is wrong, by how many signs are right -/
def scan (L : Nat) : Nat → List Nat → Option Nat
  | a, [] => if 6 * a < L then some (a + 1) else none
  | a, c :: cs => if goodS L a c = true then scan L (a + 1) cs else some (a + 1)
def bits6 (c : Nat) : List Nat := [5, 4, 3, 2, 1, 0].map fun p => (c - 63) / 2 ^ p % 2
def bitsC (cs : List Nat) : List Nat := cs.flatMap bits6
def tellP (ps : List E2) (bs : List Nat) : List E2 := ((ps.zip bs).filter fun q => q.2 != 0).map (·.1)
inductive RdG where
  | bad (k : Nat)
  | told (n : Nat) (ps : List E2)
def readG : List Nat → RdG
  | [] => .bad 0
  | c :: cs => if 63 ≤ c ∧ c ≤ 72 then match scan (pairsG (c - 63)).length 0 cs with
    | some k => .bad k
    | none => .told (c - 63) (tellP (pairsG (c - 63)) (bitsC cs))
    else .bad 0
theorem bitsC_len (cs : List Nat) : (bitsC cs).length = 6 * cs.length := by
  unfold bitsC
  induction cs with
  | nil => rfl
  | cons c cs ih => rw [List.flatMap_cons, List.length_append, ih, List.length_cons]; show 6 + _ = _; omega
theorem eq_of_up : ∀ {es fs : List E2}, es.Pairwise ahead → fs.Pairwise ahead → (∀ q, q ∈ es ↔ q ∈ fs) → es = fs
  | [], [], _, _, _ => rfl
  | [], f :: fs, _, _, h => absurd ((h f).mpr (List.mem_cons_self ..)) (fun z => nomatch z)
  | e :: es, [], _, _, h => absurd ((h e).mp (List.mem_cons_self ..)) (fun z => nomatch z)
  | e :: es, f :: fs, he, hf, h => by
    obtain ⟨e1, e2⟩ := List.pairwise_cons.mp he
    obtain ⟨f1, f2⟩ := List.pairwise_cons.mp hf
    have ef : e = f := by
      rcases List.mem_cons.mp ((h e).mp (List.mem_cons_self ..)) with z | z
      · exact z
      · rcases List.mem_cons.mp ((h f).mpr (List.mem_cons_self ..)) with y | y
        · exact y.symm
        · have a1 := f1 e z
          have a2 := e1 f y
          unfold ahead at a1 a2
          omega
    subst ef
    refine congrArg (e :: ·) (eq_of_up e2 f2 fun q => ⟨fun z => ?_, fun z => ?_⟩)
    · rcases List.mem_cons.mp ((h q).mp (List.mem_cons_of_mem _ z)) with y | y
      · exact absurd (e1 q z) (fun w => ahead_ne w y.symm)
      · exact y
    · rcases List.mem_cons.mp ((h q).mpr (List.mem_cons_of_mem _ z)) with y | y
      · exact absurd (f1 q z) (fun w => ahead_ne w y.symm)
      · exact y
theorem tellP_snoc {ps : List E2} {bs : List Nat} {p : E2} {b : Nat} (h : ps.length = bs.length) : tellP (ps ++ [p]) (bs ++ [b]) = tellP ps bs ++ (if b != 0 then [p] else []) := by
  unfold tellP
  rw [List.zip_append h, List.filter_append, List.map_append]
  congr 1
  show (([(p, b)] : List (E2 × Nat)).filter _).map _ = _
  cases e : (b != 0)
  · rw [List.filter_cons_of_neg (by simpa using e)]
    rfl
  · rw [List.filter_cons_of_pos (by simpa using e)]
    rfl
theorem tellP_sub (ps : List E2) (bs : List Nat) : ∀ q ∈ tellP ps bs, q ∈ ps := by
  intro q hq
  obtain ⟨r, hr, rfl⟩ := List.mem_map.mp hq
  exact (List.of_mem_zip (List.mem_filter.mp hr).1).1
/-! ### there and back -/
theorem bits6_of : ∀ a b c d e f : Nat, a ≤ 1 → b ≤ 1 → c ≤ 1 → d ≤ 1 → e ≤ 1 → f ≤ 1 → bits6 (63 + numOf [a, b, c, d, e, f]) = [a, b, c, d, e, f] := by
  have h : ∀ a b c d e f : Fin 2, bits6 (63 + numOf [a.val, b.val, c.val, d.val, e.val, f.val]) = [a.val, b.val, c.val, d.val, e.val, f.val] := by decide +kernel
  exact fun a b c d e f h1 h2 h3 h4 h5 h6 => h ⟨a, by omega⟩ ⟨b, by omega⟩ ⟨c, by omega⟩ ⟨d, by omega⟩ ⟨e, by omega⟩ ⟨f, by omega⟩
theorem bits6_chunk {b : List Nat} (l : b.length = 6) (h : ∀ x ∈ b, x ≤ 1) : bits6 (63 + numOf b) = b := by
  match b, l, h with
  | [a, b, c, d, e, f], _, h => exact bits6_of a b c d e f (h a (by simp)) (h b (by simp)) (h c (by simp)) (h d (by simp)) (h e (by simp)) (h f (by simp))
theorem chunks_all {b : List Nat} : ∀ m, b.length = 6 * m → (List.range m).flatMap (chunk b) = b
  | 0, h => by
    rw [List.range_zero, List.flatMap_nil]
    exact (List.eq_nil_of_length_eq_zero (by omega)).symm
  | m + 1, h => by
    have ih := chunks_all (b := b.drop 6) m (by rw [List.length_drop]; omega)
    rw [List.range_succ_eq_map, List.flatMap_cons, List.flatMap_map]
    have e : (List.range m).flatMap (fun i => chunk b (Nat.succ i)) = (List.range m).flatMap (chunk (b.drop 6)) := by
      congr 1
      funext i
      unfold chunk
      rw [List.drop_drop]
      congr 2
      omega
    rw [e, ih]
    unfold chunk
    rw [Nat.mul_zero, List.drop_zero, List.take_append_drop]
theorem bitsC_code {b : List Nat} {m : Nat} (l : b.length = 6 * m) (h : ∀ x ∈ b, x ≤ 1) : bitsC ((List.range m).map fun i => 63 + numOf (chunk b i)) = b := by
  unfold bitsC
  rw [List.flatMap_map]
  have e : ∀ i ∈ List.range m, bits6 (63 + numOf (chunk b i)) = chunk b i := fun i hi => by
    have im := List.mem_range.mp hi
    exact bits6_chunk (chunk_len (by omega)) fun x hx => h x (chunk_sub b i x hx)
  have e2 : (List.range m).flatMap (fun i => bits6 (63 + numOf (chunk b i))) = (List.range m).flatMap (chunk b) := by
    rw [List.flatMap_def, List.flatMap_def, List.map_congr_left e]
  rw [e2, chunks_all m l]
theorem numOf_zeros (b : List Nat) : ∀ k, numOf (b ++ List.replicate k 0) = numOf b * 2 ^ k
  | 0 => by rw [List.replicate_zero, List.append_nil, Nat.pow_zero, Nat.mul_one]
  | k + 1 => by
    rw [List.replicate_succ', ← List.append_assoc, numOf_snoc, numOf_zeros b k, Nat.pow_succ, Nat.add_zero, Nat.mul_comm 2, Nat.mul_assoc]
theorem goodS_code {bs : List Nat} {i : Nat} (h : ∀ x ∈ bs, x ≤ 1) (hi : i < groups bs) : goodS bs.length i (63 + numOf (chunk (pad bs) i)) = true := by
  have lt := chunk_lt (i := i) (pad_le h)
  unfold groups at hi
  unfold goodS
  rw [Bool.and_eq_true, Bool.and_eq_true]
  refine ⟨⟨decide_eq_true (by omega), decide_eq_true (by omega)⟩, decide_eq_true ?_⟩
  rw [Nat.add_sub_cancel_left]
  by_cases f : 6 * i + 6 ≤ bs.length
  · rw [show 6 - (bs.length - 6 * i) = 0 by omega, Nat.pow_zero, Nat.mod_one]
  · have e : chunk (pad bs) i = bs.drop (6 * i) ++ List.replicate (6 - (bs.length - 6 * i)) 0 := by
      unfold chunk pad
      rw [List.drop_append_of_le_length (by omega)]
      rw [List.take_of_length_le (by rw [List.length_append, List.length_drop, List.length_replicate]; omega)]
      congr 2
      omega
    rw [e, numOf_zeros, Nat.mul_mod_left]
theorem scan_code {L m : Nat} (f : Nat → Nat) (hm : m = (L + 5) / 6) (h : ∀ i, i < m → goodS L i (f i) = true) : ∀ k, k ≤ m → scan L k (((List.range m).drop k).map f) = none := by
  intro k hk
  induction e : m - k generalizing k with
  | zero =>
    have : k = m := by omega
    subst this
    rw [List.drop_eq_nil_of_le (by rw [List.length_range]; exact Nat.le_refl _)]
    show (if 6 * k < L then some (k + 1) else none) = none
    rw [if_neg (by omega)]
  | succ d ih =>
    have lk : k < (List.range m).length := by rw [List.length_range]; omega
    rw [List.drop_eq_getElem_cons lk, List.getElem_range, List.map_cons]
    show (if goodS L k (f k) = true then scan L (k + 1) _ else some (k + 1)) = none
    rw [if_pos (h k (by omega))]
    exact ih (k + 1) (by omega) (by omega)
theorem tellP_bits (es : List E2) : ∀ (ps : List E2) (k : Nat), tellP ps (ps.map (bit1 es) ++ List.replicate k 0) = ps.filter fun p => decide (p ∈ es)
  | [], k => by
    unfold tellP
    rw [List.zip_nil_left]
    rfl
  | p :: ps, k => by
    have ih := tellP_bits es ps k
    unfold tellP at ih ⊢
    rw [List.map_cons, List.cons_append, List.zip_cons_cons]
    unfold bit1 at *
    by_cases h : p ∈ es
    · rw [List.filter_cons_of_pos (by simp [h]), List.map_cons, List.filter_cons_of_pos (by simpa using h), ih]
    · rw [List.filter_cons_of_neg (by simp [h]), List.filter_cons_of_neg (by simpa using h), ih]
/-- the text of a graph, read -/
theorem read_code {n : Nat} {es : List E2} (g : Good n es) : readG ((codeL n es).map (63 + ·)) = .told n ((pairsG n).filter fun p => decide (p ∈ es)) := by
  unfold codeL
  rw [List.map_cons, List.map_map]
  have n9 := g.n9
  have hb := bits_le n es
  show (if 63 ≤ 63 + n ∧ 63 + n ≤ 72 then _ else _) = _
  rw [if_pos (by omega), Nat.add_sub_cancel_left]
  have e1 : ((fun x => 63 + x) ∘ fun i => numOf (chunk (pad (bitsOf n es)) i)) = fun i => 63 + numOf (chunk (pad (bitsOf n es)) i) := rfl
  rw [e1]
  have s := scan_code (L := (pairsG n).length) (m := groups (bitsOf n es)) (fun i => 63 + numOf (chunk (pad (bitsOf n es)) i)) (by unfold groups; rw [bits_len]) (fun i hi => by rw [← bits_len n es]; exact goodS_code hb hi) 0 (Nat.zero_le _)
  rw [List.drop_zero] at s
  rw [s, bitsC_code (pad_len _) (pad_le hb)]
  show RdG.told n (tellP (pairsG n) (pad (bitsOf n es))) = _
  unfold pad
  rw [show bitsOf n es = (pairsG n).map (bit1 es) from rfl, tellP_bits]
end My

set_option maxHeartbeats 4000000
/-! What is told is fit to be shown. -/
namespace My
open PySem PySem.Spec PyProof.Rows L2
theorem app_len (a b : Str) : (a ++ b).length = a.length + b.length := by
  show (a.cps ++ b.cps).size = _
  rw [Array.size_append]
  rfl
theorem tup_len (ts : List Str) : (tupleText ts).length ≤ (ts.map (·.length)).sum + 2 * ts.length + 3 := by
  have h := StrLaws.join_length_le ", " ts
  have c : ((", " : String) : Str).length = 2 := by decide +kernel
  have o : (("(" : String) : Str).length = 1 := by decide +kernel
  have e1 : ((",)" : String) : Str).length = 2 := by decide +kernel
  have e2 : ((")" : String) : Str).length = 1 := by decide +kernel
  unfold tupleText
  rw [app_len, app_len, o]
  rw [c] at h
  split
  · rw [e1]; omega
  · rw [e2]; omega
theorem from_len : ∀ (ts : List Str) (k : Nat) (acc : Str), (textFrom k acc ts).length ≤ acc.length + (ts.map (·.length)).sum + 2 * ts.length
  | [], k, acc => by show acc.length ≤ acc.length + 0 + 0; omega
  | t :: ts, k, acc => by
    have h := from_len ts (k + 1) (acc ++ (((if k > 0 then ", " else "" : String)) : Str) ++ t)
    have c : ((", " : String) : Str).length = 2 := by decide +kernel
    have c0 : (("" : String) : Str).length = 0 := by decide +kernel
    have e : (acc ++ (((if k > 0 then ", " else "" : String)) : Str) ++ t : Str).length ≤ acc.length + 2 + t.length := by
      rw [app_len, app_len]
      split
      · rw [c]; omega
      · rw [c0]; omega
    show (textFrom (k + 1) (acc ++ (((if k > 0 then ", " else "" : String)) : Str) ++ t) ts).length ≤ _
    rw [List.map_cons, List.sum_cons, List.length_cons]
    omega
theorem lst_len (ts : List Str) : (listText ts).length ≤ (ts.map (·.length)).sum + 2 * ts.length + 2 := by
  have h := from_len ts 0 "["
  have o : (("[" : String) : Str).length = 1 := by decide +kernel
  have e2 : (("]" : String) : Str).length = 1 := by decide +kernel
  unfold listText
  rw [app_len, e2]
  rw [o] at h
  omega
theorem pair_fine : ∀ a, a ≤ 9 → ∀ b, b ≤ 9 → (pairD (a, b)).shown.length ≤ 6 ∧ (pairD (a, b)).showable = true := by decide +kernel
theorem pairs_fine : ∀ {es : List E2}, (∀ p ∈ es, p.1 ≤ 9 ∧ p.2 ≤ 9) → ((PyData.shownAll (es.map pairD)).map (·.length)).sum ≤ 6 * es.length ∧ (PyData.shownAll (es.map pairD)).length = es.length ∧ PyData.showableAll (es.map pairD) = true
  | [], _ => ⟨Nat.le_refl _, rfl, by rw [List.map_nil]; simp [PyData.showableAll]⟩
  | p :: es, h => by
    obtain ⟨h1, h2, h3⟩ := pairs_fine (es := es) fun q hq => h q (List.mem_cons_of_mem _ hq)
    obtain ⟨a, b⟩ := h p (List.mem_cons_self ..)
    obtain ⟨f1, f2⟩ := pair_fine p.1 a p.2 b
    rw [List.map_cons]
    simp only [PyData.shownAll, PyData.showableAll, List.map_cons, List.sum_cons, List.length_cons]
    refine ⟨?_, by omega, ?_⟩
    · have f1' : (pairD p).shown.length ≤ 6 := f1
      omega
    · have f2' : (pairD p).showable = true := f2
      rw [f2', h3]
      rfl
theorem num_fine : ∀ n : Nat, n ≤ 9 → (PyData.int (n : Int)).shown.length ≤ 1 ∧ (PyData.int (n : Int)).showable = true := by decide +kernel
theorem graph_fine {n : Nat} {es : List E2} (g : Good n es) : (graphD n es).shown.length ≤ 400 ∧ (graphD n es).showable = true ∧ (graphD n es).depth ≤ 3 := by
  have n9 := g.n9
  obtain ⟨h1, h2, h3⟩ := pairs_fine (es := es) fun p hp => by have := g.lt p hp; omega
  obtain ⟨f1, f2⟩ := num_fine n n9
  have few := g.few
  have t1 := tup_len (PyData.shownAll (es.map pairD))
  have t2 := tup_len [(PyData.int (n : Int)).shown, tupleText (PyData.shownAll (es.map pairD))]
  have pd := pairsD_depth es
  unfold graphD
  refine ⟨?_, ?_, ?_⟩
  · have e : (PyData.tuple [.int (n : Int), .tuple (es.map pairD)]).shown = tupleText [(PyData.int (n : Int)).shown, tupleText (PyData.shownAll (es.map pairD))] := by simp [PyData.shown, PyData.shownAll]
    rw [e]
    simp only [List.map_cons, List.map_nil, List.sum_cons, List.sum_nil, List.length_cons, List.length_nil] at t2
    omega
  · simp [PyData.showable, PyData.showableAll, h3]
    simpa [PyData.showable] using f2
  · simp only [PyData.depth, PyData.depthAll]
    omega
def FineD (d : PyData) : Prop := d.showable = true ∧ d.depth ≤ 60 ∧ d.shown.length ≤ sizeLine
instance (d : PyData) : Decidable (FineD d) := inferInstanceAs (Decidable (_ ∧ _ ∧ _))
theorem bad_fine : ∀ k : Nat, k ≤ 950 → FineD (.list [.str "wrong", .int (k : Int)]) := by decide +kernel
theorem told_fine {n : Nat} {es : List E2} (g : Good n es) : FineD (.list [.str "told", graphD n es]) := by
  obtain ⟨h1, h2, h3⟩ := graph_fine g
  have c : (reprText "told").length = 6 := by decide +kernel
  have t := lst_len [reprText "told", (graphD n es).shown]
  refine ⟨?_, ?_, ?_⟩
  · simp [PyData.showable, PyData.showableAll, h2]
  · simp only [PyData.depth, PyData.depthAll]
    omega
  · have e : (PyData.list [.str "told", graphD n es]).shown = listText [reprText "told", (graphD n es).shown] := by simp [PyData.shown, PyData.shownAll]
    rw [e]
    simp only [List.map_cons, List.map_nil, List.sum_cons, List.sum_nil, List.length_cons, List.length_nil] at t
    exact Nat.le_trans t (Nat.le_of_lt (small1000 (by omega)))
theorem three_fine {n : Nat} {es : List E2} (g : Good n es) {z : Str} (hz : ∀ c ∈ z.cps.toList, c < 128) (zl : z.length ≤ 30) : FineD (.list [.str z, .str z, .list [.str "told", graphD n es]]) := by
  obtain ⟨h1, h2, h3⟩ := told_fine g
  obtain ⟨k1, k2, k3⟩ := graph_fine g
  have r := StrLaws.reprText_len z fun c hc => Nat.lt_trans (hz c hc) (by decide)
  have c : (reprText "told").length = 6 := by decide +kernel
  have t0 := lst_len [reprText "told", (graphD n es).shown]
  have t := lst_len [reprText z, reprText z, listText [reprText "told", (graphD n es).shown]]
  refine ⟨?_, ?_, ?_⟩
  · simp [PyData.showable, PyData.showableAll, k2]
  · simp only [PyData.depth, PyData.depthAll]
    omega
  · have e : (PyData.list [.str z, .str z, .list [.str "told", graphD n es]]).shown = listText [reprText z, reprText z, listText [reprText "told", (graphD n es).shown]] := by simp [PyData.shown, PyData.shownAll]
    rw [e]
    simp only [List.map_cons, List.map_nil, List.sum_cons, List.sum_nil, List.length_cons, List.length_nil] at t t0
    exact Nat.le_of_lt (Nat.lt_of_le_of_lt t (by
      refine Nat.lt_of_lt_of_le (show _ < 5000 by omega) ?_
      rw [sizeLine_eq]
      decide))
end My

set_option maxHeartbeats 4000000
/-! set(t), t a tuple of ints; what a chromatic number and a clique number say of one another. -/
namespace My
open PySem PySem.Spec PyProof.Rows L2
section
variable {X : Cx}
/-- set(t) -/
def rSetTI (K : PySem.W.Frag) (w : World) : List V → Hp → VK → Prop := fun xs H Q => ∃ (l : Addr) (ns : List Int), xs = [V.ref l] ∧ SqT K H l (ns.map V.int) ∧ ns.length ≤ 1000 ∧
  ∀ (p : Addr) (c : Nat) (H' : Hp), Same H H' → H' p = some (SetO w p (fun j => decide (j ∈ ns)) c) → c ≤ ns.length → Q (.ref p) H'
theorem cr_setTI (hc : X.calm = true) : CallR X (.type "set") (rSetTI X.K X.w) := by
  intro pins s σ H xs us Q I r h
  obtain ⟨l, ns, rfl, hl, hb, q⟩ := h
  rw [Vals.ref1 r]
  obtain ⟨its, rv, pt, hz⟩ := I.tuple hl
  have hi : IntsAre its.toArray.toList ns := ints_of_vals rv
  have hn : H s.heap.objs.size = none := I.hok.fresh (Nat.le_refl _)
  refine call_set_tupI ns (I.ok.hd hc) (show s.heap.IsTuple l its.toArray from pt) hi (by unfold scanBound; omega) fun h' tk c R1 hcn k => ?_
  exact ⟨.ref s.heap.objs.size, upd H s.heap.objs.size (SetO X.w s.heap.objs.size (fun j => decide (j ∈ ns)) c), I.laid (t' := tk) k (Nat.le_refl _) (setO_new R1), rfl, q _ c _ (fun b u e => by rw [upd_ne (ne_of_none e hn)]; exact e) upd_same hcn⟩
end
theorem ch_uniq {es : List E2} {m v w : Nat} (h : ChOk es m v) (h' : ChOk es m w) : v = w := Nat.le_antisymm (h.2 _ h'.1) (h'.2 _ h.1)
theorem cn_col {es : List E2} {n v k : Nat} (n9 : n ≤ 9) (h : CnOk es (2 ^ n - 1) v) (hk : ColB es (2 ^ n - 1) k) : v ≤ k := by
  obtain ⟨⟨c, sub, cl, rfl⟩, _⟩ := h
  obtain ⟨f, hf, hp⟩ := hk
  have nd : ((bitsN 9 c).map f).Nodup := by
    show List.Pairwise _ _
    rw [List.pairwise_map]
    have nd0 : (bitsN 9 c).Nodup := (List.nodup_range).filter _
    refine List.Pairwise.imp_of_mem ?_ nd0
    intro a b ha hb ne
    have ta := (mem_bits.mp ha).2
    have tb := (mem_bits.mp hb).2
    exact hp a b (sub a ta) (sub b tb) (cl a b ta tb ne)
  have z := sub_few nd (m := List.range k) fun x hx => by
    obtain ⟨a, ha, rfl⟩ := List.mem_map.mp hx
    exact List.mem_range.mpr (hf a (sub a (mem_bits.mp ha).2))
  rw [List.length_map, List.length_range] at z
  exact z
/-- ascending numbers that are just those below k -/
theorem up_range {k : Nat} {ns : List Int} (up : ns.Pairwise (· < ·)) (h : ∀ i : Int, i ∈ ns ↔ 0 ≤ i ∧ i < (k : Int)) : ns = (List.range k).map fun i => ((i : Nat) : Int) := by
  have up2 : ((List.range k).map fun i => ((i : Nat) : Int)).Pairwise (· < ·) := by
    rw [List.pairwise_map]
    exact List.pairwise_lt_range.imp fun z => Int.ofNat_lt.mpr z
  have nd1 : ns.Nodup := up.imp fun z e => by omega
  have nd2 : ((List.range k).map fun i => ((i : Nat) : Int)).Nodup := up2.imp fun z e => by omega
  have pm : ns.Perm ((List.range k).map fun i => ((i : Nat) : Int)) := by
    rw [List.perm_ext_iff_of_nodup nd1 nd2]
    intro i
    rw [h, List.mem_map]
    constructor
    · rintro ⟨a, b⟩
      exact ⟨i.toNat, List.mem_range.mpr (by omega), by omega⟩
    · rintro ⟨j, hj, rfl⟩
      have := List.mem_range.mp hj
      omega
  exact pm.eq_of_pairwise (le := (· < ·)) (fun a b _ _ x y => by omega) up up2
theorem rg_nat (k : Nat) : rgV 0 (k : Int) = ((List.range k).map fun i => ((i : Nat) : Int)).map V.int := by
  unfold rgV
  rw [List.map_map]
  have : ((k : Int) - 0).toNat = k := by omega
  rw [this]
  refine List.map_congr_left fun i _ => ?_
  show V.int (0 + (i : Int)) = V.int (i : Int)
  rw [Int.zero_add]
end My

set_option maxHeartbeats 4000000
/-! f(name=e) of a def that may raise; isinstance(e, C) in an except suite, e with an own dict. -/
namespace My
open PySem PySem.Spec PyProof.Rows L2
section
variable {X : Cx} {CX : CXT} {k : Nat} {f : Addr} {fd : FuncData} {sp : Sp} {E : L2.St → XK} {x fld : Str} {p pos : Pos} {tk : TA}
theorem pe_kw1 (F : FnOk X.prog X.w X.K X.mg X.base CX k f fd [fld] sp) (hr : Room k X.A) (hg : Gl X x) (hm : X.mg x = some (.ref f)) (hk : PySem.W.keepIn X.K (.ref f) = true) (hb : ∀ (s : Shared) (u : Value), BindsTo s fd ⟨[], [(fld, u)]⟩ ([fld].zip [u])) (hx : ∀ σ, PassesAt CX X σ (E σ))
    {kws : List Keyword} (hkw : PK X kws tk) (hall : (backToKw pos (keywordEach kws X.env)).all (·.1.isSome) = true := by rfl) (hks : (backToKw pos (keywordEach kws X.env)).filterMap (·.1) = [fld] := by rfl)
    (hdb : (x == ("__debug__" : Str)) = false := by decide) (hpl : ((backTo pos (starEach [] X.env)).any (·.1) || (backToKw pos (keywordEach kws X.env)).any (·.1.isNone)) = false := by rfl) :
    PE X (.Call (.Name x p) [] kws pos) (tCallS sp E tk) := by
  refine ⟨?_⟩
  intro pins s σ H Q I h
  refine wpAny_Call_Name_kw (ld_glob I hg hm ?_ hdb)
  refine PySem.W.callWith_KW0 (h₀ := X.base) I.ok.mod.kin hk hall (thn (hkw.run pos pins s σ H _ I h) ?_) hpl
  rintro us s1 ⟨vs, H1, I1, r, q1⟩
  refine ⟨I1.kIn, ?_⟩
  rw [hks]
  have hl : us.length = 1 := by rw [← r.length]; exact F.len _ _ _ _ q1
  obtain ⟨u, rfl⟩ : ∃ u, us = [u] := by
    match us, hl with
    | [u], _ => exact ⟨u, rfl⟩
  refine wpAny_call (codeAny_mono (F.run X.A X.stack s1 H1 ⟨[], [(fld, u)]⟩ [u] vs Q (E σ) hr I1.env0 (hb _ _) r q1) fun r s' hq => ?_)
  cases r with
  | error e => exact hx σ pins H1 s1 e s' I1 hq
  | ok fl =>
    cases fl with
    | ret u => exact I1.after hq
    | next => exact False.elim hq
    | brk => exact False.elim hq
    | cont => exact False.elim hq
theorem passAt0 {X : Cx} {σ : L2.St} {E : XK} : PassesAt CX0 X σ E := fun _ _ _ _ _ _ h => h.elim
end
def rIsF (K : PySem.W.Frag) (a : Addr) (cls : Value) (d : Option Addr) : List V → Hp → VK → Prop := fun xs H Q => ∃ (C dd : Addr) (c : V) (u : Value) (b : Bool) (fs : List (Str × V)), xs = [.ref a, c] ∧ ClsV c u ∧ cls = .ref C ∧ d = some dd ∧ H dd = some (.xd fs) ∧ XIs K C ∧ PySem.W.kitOne K (.ref C) u = some b ∧ Q (.bl b) H
theorem call_isF {X : Cx} {a : Addr} {oe : Obj} {cls : Value} {d : Option Addr} {pn : List (Addr × Obj)} (hz : Zc cls d oe) (hf : ∃ vs, oe.data = .fields vs) : CallR (X.suite a ((a, oe) :: pn)) (.builtin "isinstance") (rIsF X.K a cls d) := by
  rintro pins s σ H xs us Q I r ⟨C, dd, c, u, b, fs, rfl, cv, rfl, rfl, ea, T, kit, q⟩
  obtain ⟨u1, u2, rfl, r1, r2⟩ := vals2 r
  obtain rfl : u2 = u := cv.eq r2
  obtain rfl : u1 = Value.ref a := r1
  obtain ⟨ha, _⟩ := I.pin (a, oe) (List.mem_append_left _ List.mem_cons_self)
  obtain ⟨vs, hd⟩ := hf
  have hx : ObjOk X.prog X.w H s.heap dd (.xd fs) := I.hok dd _ ea
  obtain ⟨mA, hns, hr⟩ := hx
  obtain ⟨od, ho, hl⟩ := lookIn_ns hns
  have J : PySem.W.InstAt s.heap a oe C (some od) := by
    refine ⟨ha, hz.1, ?_, ?_⟩
    · unfold PySem.W.notCls
      rw [hd]
    · rw [hz.2]
      exact ho
  exact PySem.W.kia_one (PySem.W.kitx_exc T.cl T.xf.ga T.xf.gg T.xf.exC T.ha T.hn T.ht T.hm) I.kIn J kit (fun z => nomatch z) fun tk => ⟨.bl b, H, I.tok tk, rfl, q⟩
end My

set_option maxHeartbeats 4000000
namespace My
open PySem PySem.Spec PyProof.Rows L2
/-- f(a=.., b=..), the other way round than f's parameters -/
def tKw2 (sp : Sp) (E : L2.St → XK) (t : TA) : TE := fun σ H Q => t σ H fun vs H1 => ∃ a b, vs = [a, b] ∧ sp [b, a] H1 Q (E σ)
section
variable {X : Cx} {CX : CXT} {k : Nat} {f : Addr} {fd : FuncData} {sp : Sp} {E : L2.St → XK} {x f1 f2 : Str} {p pos : Pos} {tk : TA}
theorem pe_kw2 (F : FnOk X.prog X.w X.K X.mg X.base CX k f fd [f1, f2] sp) (hr : Room k X.A) (hg : Gl X x) (hm : X.mg x = some (.ref f)) (hk : PySem.W.keepIn X.K (.ref f) = true) (hb : ∀ (s : Shared) (u v : Value), BindsTo s fd ⟨[], [(f2, u), (f1, v)]⟩ ([f1, f2].zip [v, u])) (hx : ∀ σ, PassesAt CX X σ (E σ))
    {kws : List Keyword} (hkw : PK X kws tk) (hall : (backToKw pos (keywordEach kws X.env)).all (·.1.isSome) = true := by rfl) (hks : (backToKw pos (keywordEach kws X.env)).filterMap (·.1) = [f2, f1] := by rfl)
    (hdb : (x == ("__debug__" : Str)) = false := by decide) (hpl : ((backTo pos (starEach [] X.env)).any (·.1) || (backToKw pos (keywordEach kws X.env)).any (·.1.isNone)) = false := by rfl) :
    PE X (.Call (.Name x p) [] kws pos) (tKw2 sp E tk) := by
  refine ⟨?_⟩
  intro pins s σ H Q I h
  refine wpAny_Call_Name_kw (ld_glob I hg hm ?_ hdb)
  refine PySem.W.callWith_KW0 (h₀ := X.base) I.ok.mod.kin hk hall (thn (hkw.run pos pins s σ H _ I h) ?_) hpl
  rintro us s1 ⟨vs, H1, I1, r, a, b, rfl, q1⟩
  refine ⟨I1.kIn, ?_⟩
  rw [hks]
  obtain ⟨u, v, rfl, ru, rv⟩ := vals2 r
  refine wpAny_call (codeAny_mono (F.run X.A X.stack s1 H1 ⟨[], [(f2, u), (f1, v)]⟩ [v, u] [b, a] Q (E σ) hr I1.env0 (hb _ _ _) (.cons rv (.cons ru .nil)) q1) fun r s' hq => ?_)
  cases r with
  | error e => exact hx σ pins H1 s1 e s' I1 hq
  | ok fl =>
    cases fl with
    | ret u => exact I1.after hq
    | next => exact False.elim hq
    | brk => exact False.elim hq
    | cont => exact False.elim hq
end
end My

set_option maxHeartbeats 16000000
namespace My
open PySem PySem.Spec PyProof.Rows L2
abbrev sRight : Stmt := top (38 + 6)
theorem scRight : FnScope ["well", "graph", "lot", "many", "told", "turn", "thing"] ["well"] (defScope sRight) := ⟨rfl, rfl, rfl, by decide +kernel, rfl, by decide +kernel, by decide +kernel⟩
def spRight : Sp := fun vs H Q _ => ∃ p : Addr, vs = [.ref p] ∧ Wl H p ∧ ∀ H', But p H H' → Q (.bl true) H'
def colS (cs : List Nat) : Sh := .tup (cs.map fun k => Sh.int ((k : Nat) : Int))
theorem tells_get {cs : List Nat} {a : Nat} (h : a < cs.length) : intS ((cs.map fun k => Sh.int ((k : Nat) : Int)).getD a (.int 0)) = ((cs.getD a 0 : Nat) : Int) := by
  rw [List.getD_eq_getElem?_getD, List.getElem?_map, List.getElem?_eq_getElem h, List.getD_eq_getElem?_getD, List.getElem?_eq_getElem h]
  rfl
theorem tells_isCol {es : List E2} {n v : Nat} {cs : List Nat} (g : Good n es) (h : TellsCol es n v cs) : isCol n es (colS cs) = true := by
  show (decide ((cs.map fun k => Sh.int ((k : Nat) : Int)).length = n) && ((cs.map fun k => Sh.int ((k : Nat) : Int)).all (wholeF 0) && es.all fun p => !(intS ((cs.map fun k => Sh.int ((k : Nat) : Int)).getD p.1 (.int 0)) == intS ((cs.map fun k => Sh.int ((k : Nat) : Int)).getD p.2 (.int 0))))) = true
  rw [decide_eq_true (by rw [List.length_map]; exact h.len), Bool.true_and, Bool.and_eq_true]
  constructor
  · rw [List.all_eq_true]
    intro s hs
    obtain ⟨k, _, rfl⟩ := List.mem_map.mp hs
    show decide (((k : Nat) : Int) ≥ 0) = true
    exact decide_eq_true (by omega)
  · rw [List.all_eq_true]
    intro p hp
    obtain ⟨l1, l2⟩ := g.lt p hp
    have c1 : p.1 < cs.length := by rw [h.len]; omega
    have c2 : p.2 < cs.length := by rw [h.len]; exact l2
    rw [tells_get c1, tells_get c2]
    have ad : adjB es p.1 p.2 = true := decide_eq_true (by rw [Nat.min_eq_left (by omega), Nat.max_eq_right (by omega)]; exact hp)
    have := h.ok p.1 p.2 (by omega) l2 ad
    rw [Bool.not_eq_true', beq_eq_false_iff_ne]
    exact fun e => this (Int.ofNat.inj e)
theorem tells_mem {es : List E2} {n v : Nat} {cs : List Nat} (h : TellsCol es n v cs) (i : Int) : i ∈ (cs.map fun k => ((k : Nat) : Int)) ↔ 0 ≤ i ∧ i < (v : Int) := by
  rw [List.mem_map]
  constructor
  · rintro ⟨k, hk, rfl⟩
    obtain ⟨u, hu, e⟩ := List.getElem_of_mem hk
    have := h.few u (by rw [← h.len]; exact hu)
    rw [List.getD_eq_getElem?_getD, List.getElem?_eq_getElem hu] at this
    have t2 : cs[u] < v := this
    omega
  · rintro ⟨a, b⟩
    obtain ⟨u, hu, e⟩ := h.all i.toNat (by omega)
    have hu2 : u < cs.length := by rw [h.len]; exact hu
    rw [List.getD_eq_getElem?_getD, List.getElem?_eq_getElem hu2] at e
    have e2 : cs[u] = i.toNat := e
    exact ⟨cs[u], List.getElem_mem hu2, by omega⟩
theorem num_dpa {K : PySem.W.Frag} {H : Hp} : ∀ l : List Nat, DpAll K H ((l.map fun i => ((i : Nat) : Int)).map V.int) (l.map fun k => PyData.int ((k : Nat) : Int))
  | [] => .nil
  | _ :: r => .cons (.int _) (num_dpa r)
theorem num_lay : ∀ l : List Nat, PyData.canLayAll0 (l.map fun k => PyData.int ((k : Nat) : Int)) = true ∧ PyData.depthAll (l.map fun k => PyData.int ((k : Nat) : Int)) ≤ 1
  | [] => ⟨by simp [PyData.canLayAll0], by simp [PyData.depthAll]⟩
  | k :: r => by
    obtain ⟨a, b⟩ := num_lay r
    rw [List.map_cons]
    simp only [PyData.canLayAll0, PyData.depthAll, PyData.canLay0, PyData.depth, a]
    exact ⟨rfl, by omega⟩
theorem num_shaped (l : List Nat) : SeqAt.shaped (.list (l.map fun k => PyData.int ((k : Nat) : Int))) = true := by
  obtain ⟨a, b⟩ := num_lay l
  unfold SeqAt.shaped
  rw [Bool.and_eq_true, decide_eq_true_eq]
  refine ⟨?_, ?_⟩
  · simp only [PyData.canLay0, a]
  · simp only [PyData.depth]
    omega
theorem num_eqv : ∀ l : List Nat, PyData.eqvAll (l.map fun k => PyData.int ((k : Nat) : Int)) (l.map fun k => PyData.int ((k : Nat) : Int)) = true
  | [] => by simp [PyData.eqvAll]
  | k :: r => by
    rw [List.map_cons]
    simp [PyData.eqvAll, PyData.eqv, num_eqv r]
def manyD (v : Nat) : PyData := .list [.int (v : Int), .int (v : Int)]
theorem many_fine : ∀ v : Nat, v ≤ 9 → Fine (manyD v) ∧ (manyD v).hasDict = false := by decide +kernel
theorem many_dd {K : PySem.W.Frag} {H : Hp} {F : Addr} {v : Nat} (hF : H F = some (.lst [.int (v : Int), .int (v : Int)])) (nd : (manyD v).hasDict = false) : Dd K H (.ref F) (manyD v) :=
  .dat (.lst (SqL.of hF) (.cons (.int _) (.cons (.int _) .nil))) nd
theorem bl_fine : ∀ b : Bool, Fine (.bool b) ∧ (PyData.bool b).hasDict = false := by decide +kernel
section
variable {P : Program} {w : World} {K : PySem.W.Frag} {mg : Str → Option Value} {base : Heap} {f fD fGr fH fCo fCh fSa fO fCl fI fB : Addr} {fd dD dGr dH dCo dCh dSa dO dCl dI dB : FuncData}
theorem ok_right (F : L2.Fun K "_law_right" "_law_right" sRight f fd)
    (GD : FnOk P w K mg base CX0 1 fD dD ["well", "many"] spDraw) (bD : L2.Binds K dD ["well", "many"] []) (kD : PySem.W.keepIn K (.ref fD) = true) (mD : mg "_law_draw" = some (.ref fD))
    (GGr : FnOk P w K mg base CX0 4 fGr dGr ["well", "most"] (spGraph K)) (bGr : L2.Binds K dGr ["well", "most"] []) (kGr : PySem.W.keepIn K (.ref fGr) = true) (mGr : mg "_law_graph" = some (.ref fGr))
    (GH : FnOk P w K mg base CX0 13 fH dH ["graph", "lot"] (spChr K)) (bH : L2.Binds K dH ["graph", "lot"] []) (kH : PySem.W.keepIn K (.ref fH) = true) (mH : mg "_law_chromatic" = some (.ref fH))
    (GCo : FnOk P w K mg base CX0 6 fCo dCo ["graph"] (spColg K)) (bCo : L2.Binds K dCo ["graph"] []) (kCo : PySem.W.keepIn K (.ref fCo) = true) (mCo : mg "colouring" = some (.ref fCo))
    (GCh : FnOk P w K mg base CX0 6 fCh dCh ["graph"] (spChNum K)) (bCh : L2.Binds K dCh ["graph"] []) (bChk : ∀ (s : Shared) (u : Value), BindsTo s dCh ⟨[], [(("graph" : Str), u)]⟩ ([("graph" : Str)].zip [u])) (kCh : PySem.W.keepIn K (.ref fCh) = true) (mCh : mg "chromatic_number" = some (.ref fCh))
    (GSa : FnG P w K mg base CX0 1 fSa dSa ["told", "due"] (spSame K)) (bSa : L2.Binds K dSa ["told", "due"] []) (kSa : PySem.W.keepIn K (.ref fSa) = true) (mSa : mg "_law_same" = some (.ref fSa))
    (GO : FnOk P w K mg base CX0 1 fO dO ["graph", "thing"] (spOne K)) (bO : L2.Binds K dO ["graph", "thing"] []) (kO : PySem.W.keepIn K (.ref fO) = true) (mO : mg "_law_is_one" = some (.ref fO))
    (GCl : FnOk P w K mg base CX0 6 fCl dCl ["graph"] (spNumC K)) (bCl : L2.Binds K dCl ["graph"] []) (kCl : PySem.W.keepIn K (.ref fCl) = true) (mCl : mg "clique_number" = some (.ref fCl))
    (GI : FnOk P w K mg base CX0 6 fI dI ["graph", "value"] (spIsCol K)) (bI : L2.Binds K dI ["graph", "value"] []) (bIk : ∀ (s : Shared) (u v : Value), BindsTo s dI ⟨[], [(("value" : Str), u), (("graph" : Str), v)]⟩ ([("graph" : Str), ("value" : Str)].zip [v, u])) (kI : PySem.W.keepIn K (.ref fI) = true) (mI : mg "is_colouring" = some (.ref fI))
    (GB : FnOk P w K mg base CX0 3 fB dB ["well", "told"] (spBentC K)) (bB : L2.Binds K dB ["well", "told"] []) (kB : PySem.W.keepIn K (.ref fB) = true) (mB : mg "_law_bent" = some (.ref fB))
    (mr : mg "range" = none) (mt : mg "tuple" = none) (mso : mg "sorted" = none) (mst : mg "set" = none) (mli : mg "list" = none) :
    FnG P w K mg base CX0 14 f fd ["well"] spRight := by
  refine okG F scRight (fun vs H Q E h => ?_) (fun cdv A outer s H vs Q E gd hr h => ?_)
  · obtain ⟨p, rfl, _⟩ := h
    rfl
  obtain ⟨p, rfl, hW, q⟩ := h
  have gd' : (A.deeper (envOfC "_law_right" (defScope sRight) s.heap.objs.size f cdv)).guards = some [] := gd
  have h1 := hr.mono (show 1 ≤ 13 by decide)
  have h3 := hr.mono (show 3 ≤ 13 by decide)
  have h4 := hr.mono (show 4 ≤ 13 by decide)
  have h6 := hr.mono (show 6 ≤ 13 by decide)
  refine ⟨_, pss_cons (ps_set (i := 1) scRight.nd rfl (.inl rfl) (pe_call GGr h4 (by rfl) mGr kGr bGr .nil pass0 (pa_cons (pv 0) (pa_cons (pe_ifExp (pt_cmpR op_eq (pe_call GD h1 (by rfl) mD kD bD .nil pass0 (pa_cons (pv 0) (pa_cons pe_int pa_nil))) pe_int (nomark _)) pe_int pe_int) pa_nil))))
    (pss_cons (ps_set (i := 2) scRight.nd rfl (.inl rfl) (pe_tupRg rfl rfl mt (prg_1 rfl mr (pe_ix (r := rIxT K) ix_tup (pv 1) pe_int (fun _ _ => rfl)))))
    (pss_cons (ps_set (i := 3) scRight.nd rfl (.inl rfl) (pe_call GH hr (by rfl) mH kH bH .nil pass0 (pa_cons (pv 1) (pa_cons (pv 2) pa_nil))))
    (pss_cons (ps_set (i := 4) scRight.nd rfl (.inl rfl) (pe_call GCo h6 (by rfl) mCo kCo bCo .nil pass0 (pa_cons (pv 1) pa_nil)))
    (pss_cons (ps_if (pt_not (pt_val (pe_callG GSa gd' h1 (by rfl) mSa kSa bSa pass0 (pa_cons (pe_lst (pa_cons (pe_call GCh h6 (by rfl) mCh kCh bCh .nil pass0 (pa_cons (pv 1) pa_nil)) (pa_cons (pe_kw1 (E := fun _ => E0) GCh h6 (by rfl) mCh kCh bChk (fun _ => passAt0) (pk_cons (pv 1) pk_nil)) pa_nil))) (pa_cons (pe_lst (pa_cons (pv 3) (pa_cons (pv 3) pa_nil))) pa_nil))))) (pss_one (ps_ret pe_bl)) pss_nil)
    (pss_cons (ps_if (PW.pt (pw_or (pt_not (pt_val (pe_call GO h1 (by rfl) mO kO bO .nil pass0 (pa_cons (pv 1) (pa_cons (pv 4) pa_nil))))) (pw_or1 (pt_cmpR (op_neD hr.units) (pe_callB (cr_sortedSet rfl) (by rfl) mso (by decide +kernel) (pa_cons (pe_callTy (cr_setTI rfl) (by rfl) mst (by decide +kernel) (pa_cons (pv 4) pa_nil)) pa_nil)) (pe_listRg rfl rfl mli (prg_1 rfl mr (pv 3))) (nomark _))))) (pss_one (ps_ret pe_bl)) pss_nil)
    (pss_cons (ps_if (PW.pt (pw_or (pt_cmpR op_gt (pe_call GCl h6 (by rfl) mCl kCl bCl .nil pass0 (pa_cons (pv 1) pa_nil)) (pv 3) (nomark _)) (pw_or1 (pt_cmpR op_notBl (pe_kw2 (E := fun _ => E0) GI h6 (by rfl) mI kI bIk (fun _ => passAt0) (pk_cons (pv 4) (pk_cons (pv 1) pk_nil))) pe_bl (nomark _))))) (pss_one (ps_ret pe_bl)) pss_nil)
    (pss_cons (ps_for PassesOwn.never rfl (pi_range1 rfl mr (pa_cons pe_int pa_nil)) (pg_name (i := 5) scRight.nd rfl (.inl rfl))
      (pss_cons (ps_set (i := 6) scRight.nd rfl (.inl rfl) (pe_call GB h3 (by rfl) mB kB bB .nil pass0 (pa_cons (pv 0) (pa_cons (pv 4) pa_nil))))
      (pss_one (ps_if (pt_not (pt_val (pe_callG GSa gd' h1 (by rfl) mSa kSa bSa pass0 (pa_cons (pe_call GI h6 (by rfl) mI kI bI .nil pass0 (pa_cons (pv 1) (pa_cons (pv 6) pa_nil))) (pa_cons (pe_call GO h1 (by rfl) mO kO bO .nil pass0 (pa_cons (pv 1) (pa_cons (pv 6) pa_nil))) pa_nil))))) (pss_one (ps_ret pe_bl)) pss_nil))))
    (pss_one (ps_ret pe_bl))))))))), ?_⟩
  have two : (2 : Nat) ≤ sizeLine := small (by decide)
  have yes : ∀ d : PyData, decide (V.str d.shown = V.str d.shown) = true := fun d => decide_eq_true rfl
  refine' joinS (i := 1) (R := fun v H' => ∃ (n : Nat) (es : List E2), n ≤ 9 ∧ But p H H' ∧ Wl H' p ∧ GraphAt K H' v n es ∧ Good n es) (fun go => ?_) ?_
  rotate_left 2
  · refine ⟨_, rfl, _, rfl, p, 3, rfl, hW, by decide, by decide, fun d H1 _ _ b1 w1 => ?_⟩
    refine ⟨rfl, _, rfl, iteB (fun _ => ?_) (fun _ => ?_)⟩
    · exact ⟨p, 9, rfl, w1, by decide, fun x n es H2 n9 b2 w2 hx g => go x H2 ⟨n, es, n9, b1.trans b2, w2, hx, g⟩⟩
    · exact ⟨p, 7, rfl, w1, by decide, fun x n es H2 n9 b2 w2 hx g => go x H2 ⟨n, es, Nat.le_trans n9 (by decide), b1.trans b2, w2, hx, g⟩⟩
  rintro x H1 ⟨n, es, n9, b1, w1, hx, g⟩
  obtain ⟨gt, ge, gys, gx, hgt, hge, hges⟩ := id hx
  subst gx
  have a0 : atI [V.int (n : Int), V.ref ge] 0 = some (.int (n : Int)) := atI_nat (j := 0) rfl
  refine ⟨_, rfl, gt, _, 0, _, rfl, rfl, hgt, a0, n, rfl, RgOk.of_le (by decide) (by omega) (by decide) (by omega), fun t nt => ?_⟩
  have st := same_new nt (.tup (rgV 0 (n : Int)))
  have ht := upd_same (H := H1) (a := t) (o := .tup (rgV 0 (n : Int)))
  generalize upd H1 t (.tup (rgV 0 (n : Int))) = H2 at st ht ⊢
  have lt : LotT H2 (.ref t) (List.range n) := ⟨t, rfl, by rw [ht, rg_nat]; unfold natV; rw [List.map_map]; rfl⟩
  refine ⟨_, rfl, _, rfl, .ref gt, n, es, .ref t, rfl, hx.same st, g, lt, fun v H3 s3 ch => ?_⟩
  have hx3 := hx.same (st.trans s3)
  refine ⟨_, rfl, .ref gt, n, es, rfl, hx3, g, fun u cs v' H4 s4 hu ch' tl => ?_⟩
  obtain rfl := ch_uniq ch' ch
  have hx4 := hx3.same s4
  have v9 : v' ≤ 9 := by
    have z := ch.2 n (col_all fun u => by
      cases e : adjB es u u with
      | false => rfl
      | true => exact absurd rfl (adj_ne g e).1)
    omega
  refine ⟨_, rfl, .ref gt, n, es, rfl, hx4, g, fun w1' H5 s5 ch5 => ?_⟩
  obtain rfl := ch_uniq ch5 ch
  refine ⟨_, rfl, .ref gt, n, es, rfl, hx4.same s5, g, fun w2' H6 s6 ch6 => ?_⟩
  obtain rfl := ch_uniq ch6 ch
  refine ⟨two, fun F nF => ?_⟩
  have sF := same_new nF (.lst [.int (w2' : Int), .int (w2' : Int)])
  refine ⟨_, rfl, _, rfl, two, fun F2 nF2 => ?_⟩
  have sF2 := same_new nF2 (.lst [.int (w2' : Int), .int (w2' : Int)])
  have hF := sF2 _ _ (upd_same (H := H6) (a := F) (o := .lst [.int (w2' : Int), .int (w2' : Int)]))
  have hF2 := upd_same (H := upd H6 F (.lst [.int (w2' : Int), .int (w2' : Int)])) (a := F2) (o := .lst [.int (w2' : Int), .int (w2' : Int)])
  have e7 := sF.trans sF2
  generalize upd (upd H6 F (.lst [.int (w2' : Int), .int (w2' : Int)])) F2 (.lst [.int (w2' : Int), .int (w2' : Int)]) = H7 at hF hF2 e7 ⊢
  obtain ⟨fm, pm⟩ := many_fine w2' v9
  have dd1 := many_dd (K := K) hF pm
  have dd2 := many_dd (K := K) hF2 pm
  refine ⟨.ref F, .ref F2, _, _, rfl, dd1, dd2, fm, fm, _, rfl, ?_⟩
  refine iteB (fun c => ?_) (fun _ => ?_)
  · exfalso
    have c' : (!decide (V.str (manyD w2').shown = V.str (manyD w2').shown)) = true := c
    rw [yes] at c'
    cases c'
  clear dd1 dd2 hF hF2
  have e47 := s5.trans (s6.trans e7)
  have hx7 := hx4.same e47
  have hu7 := e47 _ _ hu
  have tl0 := tells_isCol g tl
  have sh7 : ShAt K H7 (.ref u) (colS cs) := .tup (SqT.of hu7) (ints_sh cs)
  refine ⟨_, rfl, _, rfl, .ref gt, n, es, .ref u, colS cs, rfl, hx7, g, sh7, fun H8 s8 => ⟨_, rfl, ?_⟩⟩
  rw [tl0]
  refine iteB (fun c => by cases c) (fun _ => ?_)
  have hx8 := hx7.same s8
  have hu8 := s8 _ _ hu7
  have en : numsN cs = (cs.map fun k => ((k : Nat) : Int)).map V.int := by
    unfold numsN
    rw [List.map_map]
    rfl
  have cl : cs.length ≤ 9 := by rw [tl.len]; exact n9
  refine ⟨_, rfl, u, cs.map fun k => ((k : Nat) : Int), rfl, by rw [← en]; exact SqT.of hu8, by rw [List.length_map]; omega, fun S c HS sS hS cS => ?_⟩
  refine ⟨S, _, c, rfl, hS, by rw [List.length_map] at cS; omega, fun ns Z up mem ln nZ => ?_⟩
  have ns_eq : ns = (List.range w2').map fun i => ((i : Nat) : Int) := up_range up fun i => by
    rw [mem i]
    show decide (i ∈ cs.map fun k => ((k : Nat) : Int)) = true ↔ _
    rw [decide_eq_true_eq]
    exact tells_mem tl i
  subst ns_eq
  have sZ := same_new nZ (.lst (((List.range w2').map fun i => ((i : Nat) : Int)).map V.int))
  have s8Z := sS.trans sZ
  have hZ := upd_same (H := HS) (a := Z) (o := .lst (((List.range w2').map fun i => ((i : Nat) : Int)).map V.int))
  generalize upd HS Z (.lst (((List.range w2').map fun i => ((i : Nat) : Int)).map V.int)) = H9 at s8Z hZ ⊢
  refine ⟨_, rfl, _, rfl, RgOk.of_le (by decide) (by omega) (by decide) (by omega), fun Z2 nZ2 => ?_⟩
  have sZ2 := same_new nZ2 (.lst (rgV 0 (w2' : Int)))
  have hZ2 := upd_same (H := H9) (a := Z2) (o := .lst (rgV 0 (w2' : Int)))
  generalize upd H9 Z2 (.lst (rgV 0 (w2' : Int))) = H10 at sZ2 hZ2 ⊢
  rw [rg_nat] at hZ2
  refine ⟨.list ((List.range w2').map fun k => PyData.int ((k : Nat) : Int)), .list ((List.range w2').map fun k => PyData.int ((k : Nat) : Int)), .lst (SqL.of (sZ2 _ _ hZ)) (num_dpa _), .lst (SqL.of hZ2) (num_dpa _), num_shaped _, num_shaped _, ?_⟩
  refine ⟨_, rfl, ?_⟩
  have ev : PyData.eqv (.list ((List.range w2').map fun k => PyData.int ((k : Nat) : Int))) (.list ((List.range w2').map fun k => PyData.int ((k : Nat) : Int))) = true := by
    simp only [PyData.eqv]
    exact num_eqv _
  rw [ev]
  refine iteB (fun c => by cases c) (fun _ => ?_)
  have e810 := s8Z.trans sZ2
  have hx10 := hx8.same e810
  refine ⟨_, rfl, .ref gt, n, es, rfl, hx10, g, fun wc H11 s11 cn => ?_⟩
  have wv : wc ≤ w2' := cn_col n9 cn ch.1
  refine ⟨_, rfl, _, _, rfl, rfl, _, rfl, ?_⟩
  refine iteB (fun c => absurd (of_decide_eq_true c) (by omega)) (fun _ => ?_)
  have hx11 := hx10.same s11
  have sh11 : ShAt K H11 (.ref u) (colS cs) := sh7.same (s8.trans (e810.trans s11))
  refine ⟨_, rfl, _, rfl, .ref u, .ref gt, rfl, .ref gt, n, es, .ref u, colS cs, rfl, hx11, g, sh11, fun H12 s12 => ?_⟩
  rw [tl0]
  refine ⟨_, _, rfl, rfl, _, rfl, ?_⟩
  refine iteB (fun c => by cases c) (fun _ => ?_)
  have e112 := st.trans (s3.trans (s4.trans (e47.trans (s8.trans (e810.trans (s11.trans s12))))))
  have w12 := w1.same e112
  have hx12 := hx11.same s12
  have hu12 := (s8.trans (e810.trans (s11.trans s12))) _ _ hu7
  refine ⟨9, rfl, by decide, by decide, for_range (lo := 0) (n := 9) (fun i σ H' => ∃ (s5 s6 : Option V), σ = [some (.ref p), some (.ref gt), some (.ref t), some (.int (w2' : Int)), some (.ref u), s5, s6] ∧ But p H12 H' ∧ Wl H' p) ⟨none, none, rfl, But.refl _ _, w12⟩ ?_ ?_⟩
  · rintro i σ H13 li ⟨s5', s6', rfl, b13, w13⟩
    have up : u ≠ p := fun z => by
      obtain ⟨a, b, c, hw⟩ := w12
      rw [z, hw] at hu12
      cases hu12
    have hu13 := b13 _ _ up hu12
    refine ⟨_, rfl, _, rfl, p, u, cs, rfl, w13, hu13, cl, fun v s H14 b14 w14 hv => ?_⟩
    have hx14 := (hx12.ts (TS.but b13 w12)).ts (TS.but b14 w13)
    refine ⟨_, rfl, _, rfl, .ref gt, n, es, v, s, rfl, hx14, g, hv, fun H15 s15 => ?_⟩
    refine ⟨_, rfl, _, rfl, .ref gt, n, es, v, s, rfl, hx14.same s15, g, hv.same s15, fun H16 s16 => ?_⟩
    obtain ⟨fb, pb⟩ := bl_fine (isCol n es s)
    refine ⟨.bl (isCol n es s), .bl (isCol n es s), .bool (isCol n es s), .bool (isCol n es s), rfl, .dat (.bl _) pb, .dat (.bl _) pb, fb, fb, _, rfl, ?_⟩
    refine iteB (fun c => ?_) (fun _ => ?_)
    · exfalso
      have c' : (!decide (V.str (PyData.bool (isCol n es s)).shown = V.str (PyData.bool (isCol n es s)).shown)) = true := c
      rw [yes] at c'
      cases c'
    · exact ⟨_, _, rfl, b13.trans (b14.trans (But.of (s15.trans s16))), w14.same (s15.trans s16)⟩
  · rintro σ H13 ⟨s5', s6', rfl, b13, w13⟩
    exact q H13 (b1.trans ((But.of e112).trans b13))
end
end My

set_option maxHeartbeats 4000000
namespace My
open PySem PySem.Spec PyProof.Rows L2
abbrev sLaw : Stmt := top 45
theorem scLaw : FnScope ["script", "turn"] ["script"] (defScope sLaw) := ⟨rfl, rfl, rfl, by decide +kernel, rfl, by decide +kernel, by decide +kernel⟩
def spLaw (K : PySem.W.Frag) : Sp := fun vs H Q _ => ∃ (a : Addr) (ns : List Int), vs = [.ref a] ∧ SqL K H a (ns.map V.int) ∧ ns.length ≤ 63 ∧ ∀ H', Q (.bl true) H'
section
variable {P : Program} {w : World} {K : PySem.W.Frag} {mg : Str → Option Value} {base : Heap} {f fW fR : Addr} {fd dW dR : FuncData} {n : Nat}
theorem ok_law (F : L2.Fun K "law" "law" sLaw f fd) (GW : FnOk P w K mg base CX0 1 fW dW ["script", "turn"] (spWell K)) (bW : L2.Binds K dW ["script", "turn"] []) (kW : PySem.W.keepIn K (.ref fW) = true) (mW : mg "_law_well" = some (.ref fW))
    (GR : FnG P w K mg base CX0 (n + 1) fR dR ["well"] spRight) (bR : L2.Binds K dR ["well"] []) (kR : PySem.W.keepIn K (.ref fR) = true) (mR : mg "_law_right" = some (.ref fR))
    (mr : mg "range" = none) (ml : mg "len" = none) (ma : mg "all" = none) (mx : mg "max" = none) (mn : mg "min" = none) : FnG P w K mg base CX0 (n + 2) f fd ["script"] (spLaw K) := by
  refine okG F scLaw (fun vs H Q E h => ?_) (fun cdv A outer s H vs Q E gd hr h => ?_)
  · obtain ⟨a, ns, rfl, _⟩ := h
    rfl
  obtain ⟨a, ns, rfl, hS, h63, q⟩ := h
  have gd' : (A.deeper (envOfC "law" (defScope sLaw) s.heap.objs.size f cdv)).guards = some [] := gd
  refine ⟨_, pss_one (ps_ret (pe_callB (cr_all rfl) (by rfl) ma (by decide +kernel) (pa_cons (pe_lc (own := [("turn", 1)]) (g := gName 1) (tt := tYes) rfl scLaw.nd
      (pi_range1 rfl mr (pa_cons (pe_callB (call_max2 rfl) (by rfl) mx (by decide +kernel) (pa_cons pe_int (pa_cons (pe_callB (call_min2 rfl) (by rfl) mn (by decide +kernel) (pa_cons (pe_callB call_len_seq (by rfl) ml PySem.boot_len (pa_cons (pv 0) pa_nil)) (pa_cons pe_int pa_nil))) pa_nil))) pa_nil))
      (blkOk_by (N := ["script", "turn"]) (sc := defScope sLaw) (by decide +kernel)) (fun _ _ _ _ _ => pg_name (i := 1) scLaw.nd rfl (Or.inl rfl)) (fun _ _ _ _ _ => pts_nil)
      (fun _ _ _ _ _ => pe_callG GR gd' hr (by rfl) mR kR bR pass0 (pa_cons (pe_call GW (hr.mono (Nat.le_add_left 1 n)) (by rfl) mW kW bW .nil pass0 (pa_cons (pv 0) (pa_cons (pv 1) pa_nil))) pa_nil))) pa_nil))), ?_⟩
  have hl : (ns.map V.int).length = ns.length := List.length_map _
  refine ⟨_, rfl, a, _, rfl, .inl hS, _, _, rfl, _, _, rfl, ?_⟩
  rw [hl]
  obtain ⟨j, hj, j0, j3⟩ : ∃ j : Int, (if (if (3 : Int) < ((ns.length : Nat) : Int) then (3 : Int) else ((ns.length : Nat) : Int)) > 2 then (if (3 : Int) < ((ns.length : Nat) : Int) then (3 : Int) else ((ns.length : Nat) : Int)) else 2) = j ∧ 0 ≤ j ∧ j ≤ 3 := by
    refine ⟨_, rfl, ?_, ?_⟩
    · split <;> (try split) <;> omega
    · split <;> (try split) <;> omega
  rw [hj]
  refine ⟨j, rfl, by omega, by omega, fun D nD => lc_range (lo := 0) (n := j.toNat) (fun k H' => Same H H' ∧ H' D = some (.lst ((List.replicate k true).map V.bl))) ⟨same_new nD _, upd_same⟩ ?_ ?_⟩
  · rintro k H1 lk ⟨s1, hD⟩
    rw [Int.zero_add]
    refine ⟨rfl, ?_⟩
    refine ⟨_, rfl, _, rfl, a, ns, k, rfl, L2.Same.seq s1 hS, h63, by omega, fun H2 p s2 np wl => ⟨p, rfl, wl, fun H3 bt => ?_⟩⟩
    have s3 : Same H1 H3 := fun b o e => bt b o (ne_of_none e np) (s2 b o e)
    refine ⟨_, s3 _ _ hD, ?_, same_put (s1.trans s3) nD, ?_⟩
    · rw [List.length_map, List.length_replicate]
      exact small1000 (by omega)
    · rw [upd_same, List.replicate_succ', List.map_append]
      rfl
  · rintro H1 ⟨s1, hD⟩
    refine ⟨D, List.replicate j.toNat true, rfl, SqL.of hD, ?_⟩
    have e : (List.replicate j.toNat true).all id = true := by simp
    rw [e]
    exact q H1
end

/-! ### facts of the written part, by looking -/
def oexB (K : PySem.W.Frag) (C : Addr) : Bool := match K.lookup C with
  | some ⟨.type "type", _, .cls cd, sl⟩ => (match cd.mro, sl.toList with
    | .ref D :: bm, [_, _, _, _, some (.builtin n), _] => decide (D = C) && (decide (n = "ValueError.__new__") && (!cd.hasDel && (cd.hasDict && PySem.HandSPX.refsVE bm)))
    | _, _ => false)
  | _ => false
theorem oexB_ok {K : PySem.W.Frag} {C : Addr} (h : oexB K C = true) : ∃ nm q N bs bm sn sub ab col dd k0 k1 k2 k3 k5, K.lookup C = some (excClassObj nm q C N bs bm true sn sub ab col dd k0 k1 k2 k3 k5 "ValueError.__new__") ∧ PySem.HandSPX.refsVE bm = true := by
  unfold oexB at h
  split at h
  · rename_i dd cd sl ho
    split at h
    · rename_i D bm k0 k1 k2 k3 n k5 hm hs
      simp only [Bool.and_eq_true, decide_eq_true_eq, Bool.not_eq_true'] at h
      obtain ⟨rfl, rfl, hdel, hdict, hv⟩ := h
      obtain ⟨nm, bs, mro, ns, qn, hd, sn, sub, ab, col, del⟩ := cd
      dsimp only at hm hdel hdict
      subst hm hdel hdict
      obtain ⟨ls⟩ := sl
      simp only at hs
      subst hs
      exact ⟨nm, qn, ns, bs, bm, sn, sub, ab, col, dd, k0, k1, k2, k3, k5, ho, hv⟩
    · cases h
  · cases h
def xisB (K : PySem.W.Frag) (C : Addr) : Bool := (PySem.W.clsIn K C).isSome && (xfB K C && (decide (PySem.W.findIn K (.ref C) "__class__" = some (some (.builtin "object.__class__"))) && decide (PySem.W.mroIn K C (.type "object") = some true)))
def descB (K : PySem.W.Frag) : Bool := decide (PySem.W.specialIn K (.builtin "object.__class__") "__get__" = some (some (.builtin "getset_descriptor.__get__"))) && decide (PySem.W.takesIn K (.builtin "object.__class__") = some true)
theorem xisB_ok {K : PySem.W.Frag} {C : Addr} (d : descB K = true) (h : xisB K C = true) : XIs K C := by
  unfold xisB at h
  unfold descB at d
  simp only [Bool.and_eq_true, decide_eq_true_eq] at h d
  obtain ⟨h1, h2, h3, h4⟩ := h
  exact ⟨h1, xfB_ok h2, h3, d.1, d.2, h4⟩
def iniB (K : PySem.W.Frag) (C fI : Addr) (fld : Str) : Bool := oexB K C && (decide (PySem.W.findIn K (.ref C) "__setattr__" = some (some (.builtin "object.__setattr__"))) && (decide (PySem.W.subIn K (.ref C) (.type "BaseException") = some true) &&
  (decide (PySem.W.typeIn K (.ref C) = some (.type "type")) && (PySem.W.keepIn K (.ref C) && (decide (PySem.W.typeIn K (.ref fI) = some (.type "function")) && (xfB K C && decide (PySem.W.findIn K (.ref C) fld = some none)))))))
theorem iniB_ok {K : PySem.W.Frag} {C fI : Addr} {fld : Str} (i : PySem.W.findIn K (.ref C) "__init__" = some (some (.ref fI))) (h : iniB K C fI fld = true) : XCls K C fI fld := by
  unfold iniB at h
  simp only [Bool.and_eq_true, decide_eq_true_eq] at h
  obtain ⟨h1, h2, h3, h4, h5, h6, h7, h8⟩ := h
  exact ⟨⟨oexB_ok h1, h2, h3, h4, h5⟩, i, h6, xfB_ok h7, h8⟩

set_option maxHeartbeats 16000000 in
theorem all_mk {l : PySem.W.OpenLaw} {w : World} {K : PySem.W.Frag} {h : Heap} {mg : Str → Option Value} {fa f_is_whole f_is_whole_from f_is_tuple_of_two f_is_ascending f_is_graph f_is_vertex_pair f_check_graph f_neighbour_masks f_lot_of f_clique_number f_chromatic_number f_is_colouring f_colouring f_clique_numbers f_chromatic_numbers f__stable_masks_by_greatest f__law_well f__law_draw f__law_pick f__law_same f__law_of_pairs f__law_turned f__law_round f__law_called f__law_order f__law_random f__law_sides f__law_beside f__law_folded f__law_grown f__law_graph f__law_is_tied f__law_greatest f__law_is_coloured f__law_chromatic f__law_is_one f__law_bent f__law_right f_law : Addr} {tkM : Tok} (X : K.In h) (GN : h.Ns mainGlobals mg) (hfa : mg "law" = some (.ref fa))
    {fo_is_whole fk_is_whole fe_is_whole fm_is_whole fc_is_whole ft_is_whole : Value} {fD_is_whole fN_is_whole : Option Addr} {fS_is_whole : Array (Option Value)}
    (fa_is_whole : PySem.W.nsIn K mainGlobals "is_whole" = some (some (.ref f_is_whole)))
    (fl_is_whole : K.lookup f_is_whole = some ⟨fo_is_whole, fD_is_whole, .func (PySem.W.fnOf "is_whole" "is_whole" (defArgs (top 5)) (defBody (top 5)) (defScope (top 5)) .none fk_is_whole fe_is_whole fm_is_whole fN_is_whole fc_is_whole ft_is_whole), fS_is_whole⟩)
    (fcc_is_whole : PySem.W.codeIn K fc_is_whole "is_whole" = true)
    (fq_is_whole : PySem.W.keepIn K (.ref f_is_whole) = true)
    {fo_is_whole_from fk_is_whole_from fe_is_whole_from fm_is_whole_from fc_is_whole_from ft_is_whole_from : Value} {fD_is_whole_from fN_is_whole_from : Option Addr} {fS_is_whole_from : Array (Option Value)}
    (fa_is_whole_from : PySem.W.nsIn K mainGlobals "is_whole_from" = some (some (.ref f_is_whole_from)))
    (fl_is_whole_from : K.lookup f_is_whole_from = some ⟨fo_is_whole_from, fD_is_whole_from, .func (PySem.W.fnOf "is_whole_from" "is_whole_from" (defArgs (top 6)) (defBody (top 6)) (defScope (top 6)) .none fk_is_whole_from fe_is_whole_from fm_is_whole_from fN_is_whole_from fc_is_whole_from ft_is_whole_from), fS_is_whole_from⟩)
    (fcc_is_whole_from : PySem.W.codeIn K fc_is_whole_from "is_whole_from" = true)
    (fq_is_whole_from : PySem.W.keepIn K (.ref f_is_whole_from) = true)
    {fo_is_tuple_of_two fk_is_tuple_of_two fe_is_tuple_of_two fm_is_tuple_of_two fc_is_tuple_of_two ft_is_tuple_of_two : Value} {fD_is_tuple_of_two fN_is_tuple_of_two : Option Addr} {fS_is_tuple_of_two : Array (Option Value)}
    (fa_is_tuple_of_two : PySem.W.nsIn K mainGlobals "is_tuple_of_two" = some (some (.ref f_is_tuple_of_two)))
    (fl_is_tuple_of_two : K.lookup f_is_tuple_of_two = some ⟨fo_is_tuple_of_two, fD_is_tuple_of_two, .func (PySem.W.fnOf "is_tuple_of_two" "is_tuple_of_two" (defArgs (top 7)) (defBody (top 7)) (defScope (top 7)) .none fk_is_tuple_of_two fe_is_tuple_of_two fm_is_tuple_of_two fN_is_tuple_of_two fc_is_tuple_of_two ft_is_tuple_of_two), fS_is_tuple_of_two⟩)
    (fcc_is_tuple_of_two : PySem.W.codeIn K fc_is_tuple_of_two "is_tuple_of_two" = true)
    (fq_is_tuple_of_two : PySem.W.keepIn K (.ref f_is_tuple_of_two) = true)
    {fo_is_ascending fk_is_ascending fe_is_ascending fm_is_ascending fc_is_ascending ft_is_ascending : Value} {fD_is_ascending fN_is_ascending : Option Addr} {fS_is_ascending : Array (Option Value)}
    (fa_is_ascending : PySem.W.nsIn K mainGlobals "is_ascending" = some (some (.ref f_is_ascending)))
    (fl_is_ascending : K.lookup f_is_ascending = some ⟨fo_is_ascending, fD_is_ascending, .func (PySem.W.fnOf "is_ascending" "is_ascending" (defArgs (top 8)) (defBody (top 8)) (defScope (top 8)) .none fk_is_ascending fe_is_ascending fm_is_ascending fN_is_ascending fc_is_ascending ft_is_ascending), fS_is_ascending⟩)
    (fcc_is_ascending : PySem.W.codeIn K fc_is_ascending "is_ascending" = true)
    (fq_is_ascending : PySem.W.keepIn K (.ref f_is_ascending) = true)
    {fo_is_graph fk_is_graph fe_is_graph fm_is_graph fc_is_graph ft_is_graph : Value} {fD_is_graph fN_is_graph : Option Addr} {fS_is_graph : Array (Option Value)}
    (fa_is_graph : PySem.W.nsIn K mainGlobals "is_graph" = some (some (.ref f_is_graph)))
    (fl_is_graph : K.lookup f_is_graph = some ⟨fo_is_graph, fD_is_graph, .func (PySem.W.fnOf "is_graph" "is_graph" (defArgs (top 9)) (defBody (top 9)) (defScope (top 9)) .none fk_is_graph fe_is_graph fm_is_graph fN_is_graph fc_is_graph ft_is_graph), fS_is_graph⟩)
    (fcc_is_graph : PySem.W.codeIn K fc_is_graph "is_graph" = true)
    (fq_is_graph : PySem.W.keepIn K (.ref f_is_graph) = true)
    {fo_is_vertex_pair fk_is_vertex_pair fe_is_vertex_pair fm_is_vertex_pair fc_is_vertex_pair ft_is_vertex_pair : Value} {fD_is_vertex_pair fN_is_vertex_pair : Option Addr} {fS_is_vertex_pair : Array (Option Value)}
    (fa_is_vertex_pair : PySem.W.nsIn K mainGlobals "is_vertex_pair" = some (some (.ref f_is_vertex_pair)))
    (fl_is_vertex_pair : K.lookup f_is_vertex_pair = some ⟨fo_is_vertex_pair, fD_is_vertex_pair, .func (PySem.W.fnOf "is_vertex_pair" "is_vertex_pair" (defArgs (top 10)) (defBody (top 10)) (defScope (top 10)) .none fk_is_vertex_pair fe_is_vertex_pair fm_is_vertex_pair fN_is_vertex_pair fc_is_vertex_pair ft_is_vertex_pair), fS_is_vertex_pair⟩)
    (fcc_is_vertex_pair : PySem.W.codeIn K fc_is_vertex_pair "is_vertex_pair" = true)
    (fq_is_vertex_pair : PySem.W.keepIn K (.ref f_is_vertex_pair) = true)
    {fo_check_graph fk_check_graph fe_check_graph fm_check_graph fc_check_graph ft_check_graph : Value} {fD_check_graph fN_check_graph : Option Addr} {fS_check_graph : Array (Option Value)}
    (fa_check_graph : PySem.W.nsIn K mainGlobals "check_graph" = some (some (.ref f_check_graph)))
    (fl_check_graph : K.lookup f_check_graph = some ⟨fo_check_graph, fD_check_graph, .func (PySem.W.fnOf "check_graph" "check_graph" (defArgs (top 11)) (defBody (top 11)) (defScope (top 11)) .none fk_check_graph fe_check_graph fm_check_graph fN_check_graph fc_check_graph ft_check_graph), fS_check_graph⟩)
    (fcc_check_graph : PySem.W.codeIn K fc_check_graph "check_graph" = true)
    (fq_check_graph : PySem.W.keepIn K (.ref f_check_graph) = true)
    {fo_neighbour_masks fk_neighbour_masks fe_neighbour_masks fm_neighbour_masks fc_neighbour_masks ft_neighbour_masks : Value} {fD_neighbour_masks fN_neighbour_masks : Option Addr} {fS_neighbour_masks : Array (Option Value)}
    (fa_neighbour_masks : PySem.W.nsIn K mainGlobals "neighbour_masks" = some (some (.ref f_neighbour_masks)))
    (fl_neighbour_masks : K.lookup f_neighbour_masks = some ⟨fo_neighbour_masks, fD_neighbour_masks, .func (PySem.W.fnOf "neighbour_masks" "neighbour_masks" (defArgs (top 12)) (defBody (top 12)) (defScope (top 12)) .none fk_neighbour_masks fe_neighbour_masks fm_neighbour_masks fN_neighbour_masks fc_neighbour_masks ft_neighbour_masks), fS_neighbour_masks⟩)
    (fcc_neighbour_masks : PySem.W.codeIn K fc_neighbour_masks "neighbour_masks" = true)
    (fq_neighbour_masks : PySem.W.keepIn K (.ref f_neighbour_masks) = true)
    {fo_lot_of fk_lot_of fe_lot_of fm_lot_of fc_lot_of ft_lot_of : Value} {fD_lot_of fN_lot_of : Option Addr} {fS_lot_of : Array (Option Value)}
    (fa_lot_of : PySem.W.nsIn K mainGlobals "lot_of" = some (some (.ref f_lot_of)))
    (fl_lot_of : K.lookup f_lot_of = some ⟨fo_lot_of, fD_lot_of, .func (PySem.W.fnOf "lot_of" "lot_of" (defArgs (top 13)) (defBody (top 13)) (defScope (top 13)) .none fk_lot_of fe_lot_of fm_lot_of fN_lot_of fc_lot_of ft_lot_of), fS_lot_of⟩)
    (fcc_lot_of : PySem.W.codeIn K fc_lot_of "lot_of" = true)
    (fq_lot_of : PySem.W.keepIn K (.ref f_lot_of) = true)
    {fo_clique_number fk_clique_number fe_clique_number fm_clique_number fc_clique_number ft_clique_number : Value} {fD_clique_number fN_clique_number : Option Addr} {fS_clique_number : Array (Option Value)}
    (fa_clique_number : PySem.W.nsIn K mainGlobals "clique_number" = some (some (.ref f_clique_number)))
    (fl_clique_number : K.lookup f_clique_number = some ⟨fo_clique_number, fD_clique_number, .func (PySem.W.fnOf "clique_number" "clique_number" (defArgs (top 15)) (defBody (top 15)) (defScope (top 15)) .none fk_clique_number fe_clique_number fm_clique_number fN_clique_number fc_clique_number ft_clique_number), fS_clique_number⟩)
    (fcc_clique_number : PySem.W.codeIn K fc_clique_number "clique_number" = true)
    (fq_clique_number : PySem.W.keepIn K (.ref f_clique_number) = true)
    {fo_chromatic_number fk_chromatic_number fe_chromatic_number fm_chromatic_number fc_chromatic_number ft_chromatic_number : Value} {fD_chromatic_number fN_chromatic_number : Option Addr} {fS_chromatic_number : Array (Option Value)}
    (fa_chromatic_number : PySem.W.nsIn K mainGlobals "chromatic_number" = some (some (.ref f_chromatic_number)))
    (fl_chromatic_number : K.lookup f_chromatic_number = some ⟨fo_chromatic_number, fD_chromatic_number, .func (PySem.W.fnOf "chromatic_number" "chromatic_number" (defArgs (top 16)) (defBody (top 16)) (defScope (top 16)) .none fk_chromatic_number fe_chromatic_number fm_chromatic_number fN_chromatic_number fc_chromatic_number ft_chromatic_number), fS_chromatic_number⟩)
    (fcc_chromatic_number : PySem.W.codeIn K fc_chromatic_number "chromatic_number" = true)
    (fq_chromatic_number : PySem.W.keepIn K (.ref f_chromatic_number) = true)
    {fo_is_colouring fk_is_colouring fe_is_colouring fm_is_colouring fc_is_colouring ft_is_colouring : Value} {fD_is_colouring fN_is_colouring : Option Addr} {fS_is_colouring : Array (Option Value)}
    (fa_is_colouring : PySem.W.nsIn K mainGlobals "is_colouring" = some (some (.ref f_is_colouring)))
    (fl_is_colouring : K.lookup f_is_colouring = some ⟨fo_is_colouring, fD_is_colouring, .func (PySem.W.fnOf "is_colouring" "is_colouring" (defArgs (top 17)) (defBody (top 17)) (defScope (top 17)) .none fk_is_colouring fe_is_colouring fm_is_colouring fN_is_colouring fc_is_colouring ft_is_colouring), fS_is_colouring⟩)
    (fcc_is_colouring : PySem.W.codeIn K fc_is_colouring "is_colouring" = true)
    (fq_is_colouring : PySem.W.keepIn K (.ref f_is_colouring) = true)
    {fo_colouring fk_colouring fe_colouring fm_colouring fc_colouring ft_colouring : Value} {fD_colouring fN_colouring : Option Addr} {fS_colouring : Array (Option Value)}
    (fa_colouring : PySem.W.nsIn K mainGlobals "colouring" = some (some (.ref f_colouring)))
    (fl_colouring : K.lookup f_colouring = some ⟨fo_colouring, fD_colouring, .func (PySem.W.fnOf "colouring" "colouring" (defArgs (top 18)) (defBody (top 18)) (defScope (top 18)) .none fk_colouring fe_colouring fm_colouring fN_colouring fc_colouring ft_colouring), fS_colouring⟩)
    (fcc_colouring : PySem.W.codeIn K fc_colouring "colouring" = true)
    (fq_colouring : PySem.W.keepIn K (.ref f_colouring) = true)
    {fo_clique_numbers fk_clique_numbers fe_clique_numbers fm_clique_numbers fc_clique_numbers ft_clique_numbers : Value} {fD_clique_numbers fN_clique_numbers : Option Addr} {fS_clique_numbers : Array (Option Value)}
    (fa_clique_numbers : PySem.W.nsIn K mainGlobals "clique_numbers" = some (some (.ref f_clique_numbers)))
    (fl_clique_numbers : K.lookup f_clique_numbers = some ⟨fo_clique_numbers, fD_clique_numbers, .func (PySem.W.fnOf "clique_numbers" "clique_numbers" (defArgs (top 19)) (defBody (top 19)) (defScope (top 19)) .none fk_clique_numbers fe_clique_numbers fm_clique_numbers fN_clique_numbers fc_clique_numbers ft_clique_numbers), fS_clique_numbers⟩)
    (fcc_clique_numbers : PySem.W.codeIn K fc_clique_numbers "clique_numbers" = true)
    (fq_clique_numbers : PySem.W.keepIn K (.ref f_clique_numbers) = true)
    {fo_chromatic_numbers fk_chromatic_numbers fe_chromatic_numbers fm_chromatic_numbers fc_chromatic_numbers ft_chromatic_numbers : Value} {fD_chromatic_numbers fN_chromatic_numbers : Option Addr} {fS_chromatic_numbers : Array (Option Value)}
    (fa_chromatic_numbers : PySem.W.nsIn K mainGlobals "chromatic_numbers" = some (some (.ref f_chromatic_numbers)))
    (fl_chromatic_numbers : K.lookup f_chromatic_numbers = some ⟨fo_chromatic_numbers, fD_chromatic_numbers, .func (PySem.W.fnOf "chromatic_numbers" "chromatic_numbers" (defArgs (top 20)) (defBody (top 20)) (defScope (top 20)) .none fk_chromatic_numbers fe_chromatic_numbers fm_chromatic_numbers fN_chromatic_numbers fc_chromatic_numbers ft_chromatic_numbers), fS_chromatic_numbers⟩)
    (fcc_chromatic_numbers : PySem.W.codeIn K fc_chromatic_numbers "chromatic_numbers" = true)
    (fq_chromatic_numbers : PySem.W.keepIn K (.ref f_chromatic_numbers) = true)
    {fo__stable_masks_by_greatest fk__stable_masks_by_greatest fe__stable_masks_by_greatest fm__stable_masks_by_greatest fc__stable_masks_by_greatest ft__stable_masks_by_greatest : Value} {fD__stable_masks_by_greatest fN__stable_masks_by_greatest : Option Addr} {fS__stable_masks_by_greatest : Array (Option Value)}
    (fa__stable_masks_by_greatest : PySem.W.nsIn K mainGlobals "_stable_masks_by_greatest" = some (some (.ref f__stable_masks_by_greatest)))
    (fl__stable_masks_by_greatest : K.lookup f__stable_masks_by_greatest = some ⟨fo__stable_masks_by_greatest, fD__stable_masks_by_greatest, .func (PySem.W.fnOf "_stable_masks_by_greatest" "_stable_masks_by_greatest" (defArgs (top 21)) (defBody (top 21)) (defScope (top 21)) .none fk__stable_masks_by_greatest fe__stable_masks_by_greatest fm__stable_masks_by_greatest fN__stable_masks_by_greatest fc__stable_masks_by_greatest ft__stable_masks_by_greatest), fS__stable_masks_by_greatest⟩)
    (fcc__stable_masks_by_greatest : PySem.W.codeIn K fc__stable_masks_by_greatest "_stable_masks_by_greatest" = true)
    (fq__stable_masks_by_greatest : PySem.W.keepIn K (.ref f__stable_masks_by_greatest) = true)
    {fo__law_well fk__law_well fe__law_well fm__law_well fc__law_well ft__law_well : Value} {fD__law_well fN__law_well : Option Addr} {fS__law_well : Array (Option Value)}
    (fa__law_well : PySem.W.nsIn K mainGlobals "_law_well" = some (some (.ref f__law_well)))
    (fl__law_well : K.lookup f__law_well = some ⟨fo__law_well, fD__law_well, .func (PySem.W.fnOf "_law_well" "_law_well" (defArgs (top 23)) (defBody (top 23)) (defScope (top 23)) .none fk__law_well fe__law_well fm__law_well fN__law_well fc__law_well ft__law_well), fS__law_well⟩)
    (fcc__law_well : PySem.W.codeIn K fc__law_well "_law_well" = true)
    (fq__law_well : PySem.W.keepIn K (.ref f__law_well) = true)
    {fo__law_draw fk__law_draw fe__law_draw fm__law_draw fc__law_draw ft__law_draw : Value} {fD__law_draw fN__law_draw : Option Addr} {fS__law_draw : Array (Option Value)}
    (fa__law_draw : PySem.W.nsIn K mainGlobals "_law_draw" = some (some (.ref f__law_draw)))
    (fl__law_draw : K.lookup f__law_draw = some ⟨fo__law_draw, fD__law_draw, .func (PySem.W.fnOf "_law_draw" "_law_draw" (defArgs (top 24)) (defBody (top 24)) (defScope (top 24)) .none fk__law_draw fe__law_draw fm__law_draw fN__law_draw fc__law_draw ft__law_draw), fS__law_draw⟩)
    (fcc__law_draw : PySem.W.codeIn K fc__law_draw "_law_draw" = true)
    (fq__law_draw : PySem.W.keepIn K (.ref f__law_draw) = true)
    {fo__law_pick fk__law_pick fe__law_pick fm__law_pick fc__law_pick ft__law_pick : Value} {fD__law_pick fN__law_pick : Option Addr} {fS__law_pick : Array (Option Value)}
    (fa__law_pick : PySem.W.nsIn K mainGlobals "_law_pick" = some (some (.ref f__law_pick)))
    (fl__law_pick : K.lookup f__law_pick = some ⟨fo__law_pick, fD__law_pick, .func (PySem.W.fnOf "_law_pick" "_law_pick" (defArgs (top 25)) (defBody (top 25)) (defScope (top 25)) .none fk__law_pick fe__law_pick fm__law_pick fN__law_pick fc__law_pick ft__law_pick), fS__law_pick⟩)
    (fcc__law_pick : PySem.W.codeIn K fc__law_pick "_law_pick" = true)
    (fq__law_pick : PySem.W.keepIn K (.ref f__law_pick) = true)
    {fo__law_same fk__law_same fe__law_same fm__law_same fc__law_same ft__law_same : Value} {fD__law_same fN__law_same : Option Addr} {fS__law_same : Array (Option Value)}
    (fa__law_same : PySem.W.nsIn K mainGlobals "_law_same" = some (some (.ref f__law_same)))
    (fl__law_same : K.lookup f__law_same = some ⟨fo__law_same, fD__law_same, .func (PySem.W.fnOf "_law_same" "_law_same" (defArgs (top 26)) (defBody (top 26)) (defScope (top 26)) .none fk__law_same fe__law_same fm__law_same fN__law_same fc__law_same ft__law_same), fS__law_same⟩)
    (fcc__law_same : PySem.W.codeIn K fc__law_same "_law_same" = true)
    (fq__law_same : PySem.W.keepIn K (.ref f__law_same) = true)
    {fo__law_of_pairs fk__law_of_pairs fe__law_of_pairs fm__law_of_pairs fc__law_of_pairs ft__law_of_pairs : Value} {fD__law_of_pairs fN__law_of_pairs : Option Addr} {fS__law_of_pairs : Array (Option Value)}
    (fa__law_of_pairs : PySem.W.nsIn K mainGlobals "_law_of_pairs" = some (some (.ref f__law_of_pairs)))
    (fl__law_of_pairs : K.lookup f__law_of_pairs = some ⟨fo__law_of_pairs, fD__law_of_pairs, .func (PySem.W.fnOf "_law_of_pairs" "_law_of_pairs" (defArgs (top 27)) (defBody (top 27)) (defScope (top 27)) .none fk__law_of_pairs fe__law_of_pairs fm__law_of_pairs fN__law_of_pairs fc__law_of_pairs ft__law_of_pairs), fS__law_of_pairs⟩)
    (fcc__law_of_pairs : PySem.W.codeIn K fc__law_of_pairs "_law_of_pairs" = true)
    (fq__law_of_pairs : PySem.W.keepIn K (.ref f__law_of_pairs) = true)
    {fo__law_turned fk__law_turned fe__law_turned fm__law_turned fc__law_turned ft__law_turned : Value} {fD__law_turned fN__law_turned : Option Addr} {fS__law_turned : Array (Option Value)}
    (fa__law_turned : PySem.W.nsIn K mainGlobals "_law_turned" = some (some (.ref f__law_turned)))
    (fl__law_turned : K.lookup f__law_turned = some ⟨fo__law_turned, fD__law_turned, .func (PySem.W.fnOf "_law_turned" "_law_turned" (defArgs (top 28)) (defBody (top 28)) (defScope (top 28)) .none fk__law_turned fe__law_turned fm__law_turned fN__law_turned fc__law_turned ft__law_turned), fS__law_turned⟩)
    (fcc__law_turned : PySem.W.codeIn K fc__law_turned "_law_turned" = true)
    (fq__law_turned : PySem.W.keepIn K (.ref f__law_turned) = true)
    {fo__law_round fk__law_round fe__law_round fm__law_round fc__law_round ft__law_round : Value} {fD__law_round fN__law_round : Option Addr} {fS__law_round : Array (Option Value)}
    (fa__law_round : PySem.W.nsIn K mainGlobals "_law_round" = some (some (.ref f__law_round)))
    (fl__law_round : K.lookup f__law_round = some ⟨fo__law_round, fD__law_round, .func (PySem.W.fnOf "_law_round" "_law_round" (defArgs (top 29)) (defBody (top 29)) (defScope (top 29)) .none fk__law_round fe__law_round fm__law_round fN__law_round fc__law_round ft__law_round), fS__law_round⟩)
    (fcc__law_round : PySem.W.codeIn K fc__law_round "_law_round" = true)
    (fq__law_round : PySem.W.keepIn K (.ref f__law_round) = true)
    {fo__law_called fk__law_called fe__law_called fm__law_called fc__law_called ft__law_called : Value} {fD__law_called fN__law_called : Option Addr} {fS__law_called : Array (Option Value)}
    (fa__law_called : PySem.W.nsIn K mainGlobals "_law_called" = some (some (.ref f__law_called)))
    (fl__law_called : K.lookup f__law_called = some ⟨fo__law_called, fD__law_called, .func (PySem.W.fnOf "_law_called" "_law_called" (defArgs (top 30)) (defBody (top 30)) (defScope (top 30)) .none fk__law_called fe__law_called fm__law_called fN__law_called fc__law_called ft__law_called), fS__law_called⟩)
    (fcc__law_called : PySem.W.codeIn K fc__law_called "_law_called" = true)
    (fq__law_called : PySem.W.keepIn K (.ref f__law_called) = true)
    {fo__law_order fk__law_order fe__law_order fm__law_order fc__law_order ft__law_order : Value} {fD__law_order fN__law_order : Option Addr} {fS__law_order : Array (Option Value)}
    (fa__law_order : PySem.W.nsIn K mainGlobals "_law_order" = some (some (.ref f__law_order)))
    (fl__law_order : K.lookup f__law_order = some ⟨fo__law_order, fD__law_order, .func (PySem.W.fnOf "_law_order" "_law_order" (defArgs (top 31)) (defBody (top 31)) (defScope (top 31)) .none fk__law_order fe__law_order fm__law_order fN__law_order fc__law_order ft__law_order), fS__law_order⟩)
    (fcc__law_order : PySem.W.codeIn K fc__law_order "_law_order" = true)
    (fq__law_order : PySem.W.keepIn K (.ref f__law_order) = true)
    {fo__law_random fk__law_random fe__law_random fm__law_random fc__law_random ft__law_random : Value} {fD__law_random fN__law_random : Option Addr} {fS__law_random : Array (Option Value)}
    (fa__law_random : PySem.W.nsIn K mainGlobals "_law_random" = some (some (.ref f__law_random)))
    (fl__law_random : K.lookup f__law_random = some ⟨fo__law_random, fD__law_random, .func (PySem.W.fnOf "_law_random" "_law_random" (defArgs (top 32)) (defBody (top 32)) (defScope (top 32)) .none fk__law_random fe__law_random fm__law_random fN__law_random fc__law_random ft__law_random), fS__law_random⟩)
    (fcc__law_random : PySem.W.codeIn K fc__law_random "_law_random" = true)
    (fq__law_random : PySem.W.keepIn K (.ref f__law_random) = true)
    {fo__law_sides fk__law_sides fe__law_sides fm__law_sides fc__law_sides ft__law_sides : Value} {fD__law_sides fN__law_sides : Option Addr} {fS__law_sides : Array (Option Value)}
    (fa__law_sides : PySem.W.nsIn K mainGlobals "_law_sides" = some (some (.ref f__law_sides)))
    (fl__law_sides : K.lookup f__law_sides = some ⟨fo__law_sides, fD__law_sides, .func (PySem.W.fnOf "_law_sides" "_law_sides" (defArgs (top 33)) (defBody (top 33)) (defScope (top 33)) .none fk__law_sides fe__law_sides fm__law_sides fN__law_sides fc__law_sides ft__law_sides), fS__law_sides⟩)
    (fcc__law_sides : PySem.W.codeIn K fc__law_sides "_law_sides" = true)
    (fq__law_sides : PySem.W.keepIn K (.ref f__law_sides) = true)
    {fo__law_beside fk__law_beside fe__law_beside fm__law_beside fc__law_beside ft__law_beside : Value} {fD__law_beside fN__law_beside : Option Addr} {fS__law_beside : Array (Option Value)}
    (fa__law_beside : PySem.W.nsIn K mainGlobals "_law_beside" = some (some (.ref f__law_beside)))
    (fl__law_beside : K.lookup f__law_beside = some ⟨fo__law_beside, fD__law_beside, .func (PySem.W.fnOf "_law_beside" "_law_beside" (defArgs (top 34)) (defBody (top 34)) (defScope (top 34)) .none fk__law_beside fe__law_beside fm__law_beside fN__law_beside fc__law_beside ft__law_beside), fS__law_beside⟩)
    (fcc__law_beside : PySem.W.codeIn K fc__law_beside "_law_beside" = true)
    (fq__law_beside : PySem.W.keepIn K (.ref f__law_beside) = true)
    {fo__law_folded fk__law_folded fe__law_folded fm__law_folded fc__law_folded ft__law_folded : Value} {fD__law_folded fN__law_folded : Option Addr} {fS__law_folded : Array (Option Value)}
    (fa__law_folded : PySem.W.nsIn K mainGlobals "_law_folded" = some (some (.ref f__law_folded)))
    (fl__law_folded : K.lookup f__law_folded = some ⟨fo__law_folded, fD__law_folded, .func (PySem.W.fnOf "_law_folded" "_law_folded" (defArgs (top 35)) (defBody (top 35)) (defScope (top 35)) .none fk__law_folded fe__law_folded fm__law_folded fN__law_folded fc__law_folded ft__law_folded), fS__law_folded⟩)
    (fcc__law_folded : PySem.W.codeIn K fc__law_folded "_law_folded" = true)
    (fq__law_folded : PySem.W.keepIn K (.ref f__law_folded) = true)
    {fo__law_grown fk__law_grown fe__law_grown fm__law_grown fc__law_grown ft__law_grown : Value} {fD__law_grown fN__law_grown : Option Addr} {fS__law_grown : Array (Option Value)}
    (fa__law_grown : PySem.W.nsIn K mainGlobals "_law_grown" = some (some (.ref f__law_grown)))
    (fl__law_grown : K.lookup f__law_grown = some ⟨fo__law_grown, fD__law_grown, .func (PySem.W.fnOf "_law_grown" "_law_grown" (defArgs (top 36)) (defBody (top 36)) (defScope (top 36)) .none fk__law_grown fe__law_grown fm__law_grown fN__law_grown fc__law_grown ft__law_grown), fS__law_grown⟩)
    (fcc__law_grown : PySem.W.codeIn K fc__law_grown "_law_grown" = true)
    (fq__law_grown : PySem.W.keepIn K (.ref f__law_grown) = true)
    {fo__law_graph fk__law_graph fe__law_graph fm__law_graph fc__law_graph ft__law_graph : Value} {fD__law_graph fN__law_graph : Option Addr} {fS__law_graph : Array (Option Value)}
    (fa__law_graph : PySem.W.nsIn K mainGlobals "_law_graph" = some (some (.ref f__law_graph)))
    (fl__law_graph : K.lookup f__law_graph = some ⟨fo__law_graph, fD__law_graph, .func (PySem.W.fnOf "_law_graph" "_law_graph" (defArgs (top 37)) (defBody (top 37)) (defScope (top 37)) .none fk__law_graph fe__law_graph fm__law_graph fN__law_graph fc__law_graph ft__law_graph), fS__law_graph⟩)
    (fcc__law_graph : PySem.W.codeIn K fc__law_graph "_law_graph" = true)
    (fq__law_graph : PySem.W.keepIn K (.ref f__law_graph) = true)
    {fo__law_is_tied fk__law_is_tied fe__law_is_tied fm__law_is_tied fc__law_is_tied ft__law_is_tied : Value} {fD__law_is_tied fN__law_is_tied : Option Addr} {fS__law_is_tied : Array (Option Value)}
    (fa__law_is_tied : PySem.W.nsIn K mainGlobals "_law_is_tied" = some (some (.ref f__law_is_tied)))
    (fl__law_is_tied : K.lookup f__law_is_tied = some ⟨fo__law_is_tied, fD__law_is_tied, .func (PySem.W.fnOf "_law_is_tied" "_law_is_tied" (defArgs (top 38)) (defBody (top 38)) (defScope (top 38)) .none fk__law_is_tied fe__law_is_tied fm__law_is_tied fN__law_is_tied fc__law_is_tied ft__law_is_tied), fS__law_is_tied⟩)
    (fcc__law_is_tied : PySem.W.codeIn K fc__law_is_tied "_law_is_tied" = true)
    (fq__law_is_tied : PySem.W.keepIn K (.ref f__law_is_tied) = true)
    {fo__law_greatest fk__law_greatest fe__law_greatest fm__law_greatest fc__law_greatest ft__law_greatest : Value} {fD__law_greatest fN__law_greatest : Option Addr} {fS__law_greatest : Array (Option Value)}
    (fa__law_greatest : PySem.W.nsIn K mainGlobals "_law_greatest" = some (some (.ref f__law_greatest)))
    (fl__law_greatest : K.lookup f__law_greatest = some ⟨fo__law_greatest, fD__law_greatest, .func (PySem.W.fnOf "_law_greatest" "_law_greatest" (defArgs (top 39)) (defBody (top 39)) (defScope (top 39)) .none fk__law_greatest fe__law_greatest fm__law_greatest fN__law_greatest fc__law_greatest ft__law_greatest), fS__law_greatest⟩)
    (fcc__law_greatest : PySem.W.codeIn K fc__law_greatest "_law_greatest" = true)
    (fq__law_greatest : PySem.W.keepIn K (.ref f__law_greatest) = true)
    {fo__law_is_coloured fk__law_is_coloured fe__law_is_coloured fm__law_is_coloured fc__law_is_coloured ft__law_is_coloured : Value} {fD__law_is_coloured fN__law_is_coloured : Option Addr} {fS__law_is_coloured : Array (Option Value)}
    (fa__law_is_coloured : PySem.W.nsIn K mainGlobals "_law_is_coloured" = some (some (.ref f__law_is_coloured)))
    (fl__law_is_coloured : K.lookup f__law_is_coloured = some ⟨fo__law_is_coloured, fD__law_is_coloured, .func (PySem.W.fnOf "_law_is_coloured" "_law_is_coloured" (defArgs (top 40)) (defBody (top 40)) (defScope (top 40)) .none fk__law_is_coloured fe__law_is_coloured fm__law_is_coloured fN__law_is_coloured fc__law_is_coloured ft__law_is_coloured), fS__law_is_coloured⟩)
    (fcc__law_is_coloured : PySem.W.codeIn K fc__law_is_coloured "_law_is_coloured" = true)
    (fq__law_is_coloured : PySem.W.keepIn K (.ref f__law_is_coloured) = true)
    {fo__law_chromatic fk__law_chromatic fe__law_chromatic fm__law_chromatic fc__law_chromatic ft__law_chromatic : Value} {fD__law_chromatic fN__law_chromatic : Option Addr} {fS__law_chromatic : Array (Option Value)}
    (fa__law_chromatic : PySem.W.nsIn K mainGlobals "_law_chromatic" = some (some (.ref f__law_chromatic)))
    (fl__law_chromatic : K.lookup f__law_chromatic = some ⟨fo__law_chromatic, fD__law_chromatic, .func (PySem.W.fnOf "_law_chromatic" "_law_chromatic" (defArgs (top 41)) (defBody (top 41)) (defScope (top 41)) .none fk__law_chromatic fe__law_chromatic fm__law_chromatic fN__law_chromatic fc__law_chromatic ft__law_chromatic), fS__law_chromatic⟩)
    (fcc__law_chromatic : PySem.W.codeIn K fc__law_chromatic "_law_chromatic" = true)
    (fq__law_chromatic : PySem.W.keepIn K (.ref f__law_chromatic) = true)
    {fo__law_is_one fk__law_is_one fe__law_is_one fm__law_is_one fc__law_is_one ft__law_is_one : Value} {fD__law_is_one fN__law_is_one : Option Addr} {fS__law_is_one : Array (Option Value)}
    (fa__law_is_one : PySem.W.nsIn K mainGlobals "_law_is_one" = some (some (.ref f__law_is_one)))
    (fl__law_is_one : K.lookup f__law_is_one = some ⟨fo__law_is_one, fD__law_is_one, .func (PySem.W.fnOf "_law_is_one" "_law_is_one" (defArgs (top 42)) (defBody (top 42)) (defScope (top 42)) .none fk__law_is_one fe__law_is_one fm__law_is_one fN__law_is_one fc__law_is_one ft__law_is_one), fS__law_is_one⟩)
    (fcc__law_is_one : PySem.W.codeIn K fc__law_is_one "_law_is_one" = true)
    (fq__law_is_one : PySem.W.keepIn K (.ref f__law_is_one) = true)
    {fo__law_bent fk__law_bent fe__law_bent fm__law_bent fc__law_bent ft__law_bent : Value} {fD__law_bent fN__law_bent : Option Addr} {fS__law_bent : Array (Option Value)}
    (fa__law_bent : PySem.W.nsIn K mainGlobals "_law_bent" = some (some (.ref f__law_bent)))
    (fl__law_bent : K.lookup f__law_bent = some ⟨fo__law_bent, fD__law_bent, .func (PySem.W.fnOf "_law_bent" "_law_bent" (defArgs (top 43)) (defBody (top 43)) (defScope (top 43)) .none fk__law_bent fe__law_bent fm__law_bent fN__law_bent fc__law_bent ft__law_bent), fS__law_bent⟩)
    (fcc__law_bent : PySem.W.codeIn K fc__law_bent "_law_bent" = true)
    (fq__law_bent : PySem.W.keepIn K (.ref f__law_bent) = true)
    {fo__law_right fk__law_right fe__law_right fm__law_right fc__law_right ft__law_right : Value} {fD__law_right fN__law_right : Option Addr} {fS__law_right : Array (Option Value)}
    (fa__law_right : PySem.W.nsIn K mainGlobals "_law_right" = some (some (.ref f__law_right)))
    (fl__law_right : K.lookup f__law_right = some ⟨fo__law_right, fD__law_right, .func (PySem.W.fnOf "_law_right" "_law_right" (defArgs (top 44)) (defBody (top 44)) (defScope (top 44)) .none fk__law_right fe__law_right fm__law_right fN__law_right fc__law_right ft__law_right), fS__law_right⟩)
    (fcc__law_right : PySem.W.codeIn K fc__law_right "_law_right" = true)
    (fq__law_right : PySem.W.keepIn K (.ref f__law_right) = true)
    {fo_law fk_law fe_law fm_law fc_law ft_law : Value} {fD_law fN_law : Option Addr} {fS_law : Array (Option Value)}
    (fa_law : PySem.W.nsIn K mainGlobals "law" = some (some (.ref f_law)))
    (fl_law : K.lookup f_law = some ⟨fo_law, fD_law, .func (PySem.W.fnOf "law" "law" (defArgs (top 45)) (defBody (top 45)) (defScope (top 45)) .none fk_law fe_law fm_law fN_law fc_law ft_law), fS_law⟩)
    (fcc_law : PySem.W.codeIn K fc_law "law" = true)
    (fq_law : PySem.W.keepIn K (.ref f_law) = true)
    (gM : PySem.W.nsIn K mainGlobals "MOST_VERTICES" = some (some (.int 9 tkM)))
    (z_len : PySem.W.nsIn K mainGlobals "len" = some none)
    (z_int : PySem.W.nsIn K mainGlobals "int" = some none)
    (z_abs : PySem.W.nsIn K mainGlobals "abs" = some none)
    (z_divmod : PySem.W.nsIn K mainGlobals "divmod" = some none)
    (z_repr : PySem.W.nsIn K mainGlobals "repr" = some none)
    (z_isinstance : PySem.W.nsIn K mainGlobals "isinstance" = some none)
    (z_bool : PySem.W.nsIn K mainGlobals "bool" = some none)
    (z_range : PySem.W.nsIn K mainGlobals "range" = some none)
    (z_all : PySem.W.nsIn K mainGlobals "all" = some none)
    (z_max : PySem.W.nsIn K mainGlobals "max" = some none)
    (z_min : PySem.W.nsIn K mainGlobals "min" = some none)
    (z_list : PySem.W.nsIn K mainGlobals "list" = some none)
    (z_tuple : PySem.W.nsIn K mainGlobals "tuple" = some none)
    (z_sorted : PySem.W.nsIn K mainGlobals "sorted" = some none)
    (z_set : PySem.W.nsIn K mainGlobals "set" = some none)
    (z_type : PySem.W.nsIn K mainGlobals "type" = some none)
    (z_enumerate : PySem.W.nsIn K mainGlobals "enumerate" = some none)
    (z_zip : PySem.W.nsIn K mainGlobals "zip" = some none)
    : ∃ fd : FuncData, (∀ (s : Shared) (v : Value), BindsTo s fd ⟨[v], []⟩ [("script", v)]) ∧ ∀ base : Heap, K.In base → base.Ns mainGlobals mg → FnG l.prog w K mg base CX0 15 fa fd ["script"] (spLaw K) := by
  have e := hfa.symm.trans (PySem.W.mg_of X GN fa_law)
  cases e
  have F_is_whole := fun_mk (st := top 5) fl_is_whole fcc_is_whole fq_is_whole
  have B_is_whole := F_is_whole.binds (ps := ["value", "low", "high"]) fun _ _ _ _ _ _ us hl => match us, hl with | [_, _, _], _ => rfl
  have F_is_whole_from := fun_mk (st := top 6) fl_is_whole_from fcc_is_whole_from fq_is_whole_from
  have B_is_whole_from := F_is_whole_from.binds (ps := ["value", "low"]) fun _ _ _ _ _ _ us hl => match us, hl with | [_, _], _ => rfl
  have F_is_tuple_of_two := fun_mk (st := top 7) fl_is_tuple_of_two fcc_is_tuple_of_two fq_is_tuple_of_two
  have B_is_tuple_of_two := F_is_tuple_of_two.binds (ps := ["value"]) fun _ _ _ _ _ _ us hl => match us, hl with | [_], _ => rfl
  have F_is_ascending := fun_mk (st := top 8) fl_is_ascending fcc_is_ascending fq_is_ascending
  have B_is_ascending := F_is_ascending.binds (ps := ["row"]) fun _ _ _ _ _ _ us hl => match us, hl with | [_], _ => rfl
  have F_is_graph := fun_mk (st := top 9) fl_is_graph fcc_is_graph fq_is_graph
  have B_is_graph := F_is_graph.binds (ps := ["value"]) fun _ _ _ _ _ _ us hl => match us, hl with | [_], _ => rfl
  have F_is_vertex_pair := fun_mk (st := top 10) fl_is_vertex_pair fcc_is_vertex_pair fq_is_vertex_pair
  have B_is_vertex_pair := F_is_vertex_pair.binds (ps := ["value", "many"]) fun _ _ _ _ _ _ us hl => match us, hl with | [_, _], _ => rfl
  have F_check_graph := fun_mk (st := top 11) fl_check_graph fcc_check_graph fq_check_graph
  have B_check_graph := F_check_graph.binds (ps := ["graph"]) fun _ _ _ _ _ _ us hl => match us, hl with | [_], _ => rfl
  have F_neighbour_masks := fun_mk (st := top 12) fl_neighbour_masks fcc_neighbour_masks fq_neighbour_masks
  have B_neighbour_masks := F_neighbour_masks.binds (ps := ["graph"]) fun _ _ _ _ _ _ us hl => match us, hl with | [_], _ => rfl
  have F_lot_of := fun_mk (st := top 13) fl_lot_of fcc_lot_of fq_lot_of
  have B_lot_of := F_lot_of.binds (ps := ["mask"]) fun _ _ _ _ _ _ us hl => match us, hl with | [_], _ => rfl
  have F_clique_number := fun_mk (st := top 15) fl_clique_number fcc_clique_number fq_clique_number
  have B_clique_number := F_clique_number.binds (ps := ["graph"]) fun _ _ _ _ _ _ us hl => match us, hl with | [_], _ => rfl
  have F_chromatic_number := fun_mk (st := top 16) fl_chromatic_number fcc_chromatic_number fq_chromatic_number
  have B_chromatic_number := F_chromatic_number.binds (ps := ["graph"]) fun _ _ _ _ _ _ us hl => match us, hl with | [_], _ => rfl
  have F_is_colouring := fun_mk (st := top 17) fl_is_colouring fcc_is_colouring fq_is_colouring
  have B_is_colouring := F_is_colouring.binds (ps := ["graph", "value"]) fun _ _ _ _ _ _ us hl => match us, hl with | [_, _], _ => rfl
  have F_colouring := fun_mk (st := top 18) fl_colouring fcc_colouring fq_colouring
  have B_colouring := F_colouring.binds (ps := ["graph"]) fun _ _ _ _ _ _ us hl => match us, hl with | [_], _ => rfl
  have F_clique_numbers := fun_mk (st := top 19) fl_clique_numbers fcc_clique_numbers fq_clique_numbers
  have B_clique_numbers := F_clique_numbers.binds (ps := ["neighbours"]) fun _ _ _ _ _ _ us hl => match us, hl with | [_], _ => rfl
  have F_chromatic_numbers := fun_mk (st := top 20) fl_chromatic_numbers fcc_chromatic_numbers fq_chromatic_numbers
  have B_chromatic_numbers := F_chromatic_numbers.binds (ps := ["neighbours"]) fun _ _ _ _ _ _ us hl => match us, hl with | [_], _ => rfl
  have F__stable_masks_by_greatest := fun_mk (st := top 21) fl__stable_masks_by_greatest fcc__stable_masks_by_greatest fq__stable_masks_by_greatest
  have B__stable_masks_by_greatest := F__stable_masks_by_greatest.binds (ps := ["neighbours"]) fun _ _ _ _ _ _ us hl => match us, hl with | [_], _ => rfl
  have F__law_well := fun_mk (st := top 23) fl__law_well fcc__law_well fq__law_well
  have B__law_well := F__law_well.binds (ps := ["script", "turn"]) fun _ _ _ _ _ _ us hl => match us, hl with | [_, _], _ => rfl
  have F__law_draw := fun_mk (st := top 24) fl__law_draw fcc__law_draw fq__law_draw
  have B__law_draw := F__law_draw.binds (ps := ["well", "many"]) fun _ _ _ _ _ _ us hl => match us, hl with | [_, _], _ => rfl
  have F__law_pick := fun_mk (st := top 25) fl__law_pick fcc__law_pick fq__law_pick
  have B__law_pick := F__law_pick.binds (ps := ["well", "some"]) fun _ _ _ _ _ _ us hl => match us, hl with | [_, _], _ => rfl
  have F__law_same := fun_mk (st := top 26) fl__law_same fcc__law_same fq__law_same
  have B__law_same := F__law_same.binds (ps := ["told", "due"]) fun _ _ _ _ _ _ us hl => match us, hl with | [_, _], _ => rfl
  have F__law_of_pairs := fun_mk (st := top 27) fl__law_of_pairs fcc__law_of_pairs fq__law_of_pairs
  have B__law_of_pairs := F__law_of_pairs.binds (ps := ["n", "pairs"]) fun _ _ _ _ _ _ us hl => match us, hl with | [_, _], _ => rfl
  have F__law_turned := fun_mk (st := top 28) fl__law_turned fcc__law_turned fq__law_turned
  have B__law_turned := F__law_turned.binds (ps := ["graph"]) fun _ _ _ _ _ _ us hl => match us, hl with | [_], _ => rfl
  have F__law_round := fun_mk (st := top 29) fl__law_round fcc__law_round fq__law_round
  have B__law_round := F__law_round.binds (ps := ["many"]) fun _ _ _ _ _ _ us hl => match us, hl with | [_], _ => rfl
  have F__law_called := fun_mk (st := top 30) fl__law_called fcc__law_called fq__law_called
  have B__law_called := F__law_called.binds (ps := ["graph", "names"]) fun _ _ _ _ _ _ us hl => match us, hl with | [_, _], _ => rfl
  have F__law_order := fun_mk (st := top 31) fl__law_order fcc__law_order fq__law_order
  have B__law_order := F__law_order.binds (ps := ["well", "many"]) fun _ _ _ _ _ _ us hl => match us, hl with | [_, _], _ => rfl
  have F__law_random := fun_mk (st := top 32) fl__law_random fcc__law_random fq__law_random
  have B__law_random := F__law_random.binds (ps := ["well", "n"]) fun _ _ _ _ _ _ us hl => match us, hl with | [_, _], _ => rfl
  have F__law_sides := fun_mk (st := top 33) fl__law_sides fcc__law_sides fq__law_sides
  have B__law_sides := F__law_sides.binds (ps := ["well", "n"]) fun _ _ _ _ _ _ us hl => match us, hl with | [_, _], _ => rfl
  have F__law_beside := fun_mk (st := top 34) fl__law_beside fcc__law_beside fq__law_beside
  have B__law_beside := F__law_beside.binds (ps := ["one", "two", "is_joined"]) fun _ _ _ _ _ _ us hl => match us, hl with | [_, _, _], _ => rfl
  have F__law_folded := fun_mk (st := top 35) fl__law_folded fcc__law_folded fq__law_folded
  have B__law_folded := F__law_folded.binds (ps := ["well", "n"]) fun _ _ _ _ _ _ us hl => match us, hl with | [_, _], _ => rfl
  have F__law_grown := fun_mk (st := top 36) fl__law_grown fcc__law_grown fq__law_grown
  have B__law_grown := F__law_grown.binds (ps := ["well", "graph", "n"]) fun _ _ _ _ _ _ us hl => match us, hl with | [_, _, _], _ => rfl
  have F__law_graph := fun_mk (st := top 37) fl__law_graph fcc__law_graph fq__law_graph
  have B__law_graph := F__law_graph.binds (ps := ["well", "most"]) fun _ _ _ _ _ _ us hl => match us, hl with | [_, _], _ => rfl
  have F__law_is_tied := fun_mk (st := top 38) fl__law_is_tied fcc__law_is_tied fq__law_is_tied
  have B__law_is_tied := F__law_is_tied.binds (ps := ["graph", "u", "v"]) fun _ _ _ _ _ _ us hl => match us, hl with | [_, _, _], _ => rfl
  have F__law_greatest := fun_mk (st := top 39) fl__law_greatest fcc__law_greatest fq__law_greatest
  have B__law_greatest := F__law_greatest.binds (ps := ["graph", "lot", "is_tied"]) fun _ _ _ _ _ _ us hl => match us, hl with | [_, _, _], _ => rfl
  have F__law_is_coloured := fun_mk (st := top 40) fl__law_is_coloured fcc__law_is_coloured fq__law_is_coloured
  have B__law_is_coloured := F__law_is_coloured.binds (ps := ["graph", "lot", "told", "many"]) fun _ _ _ _ _ _ us hl => match us, hl with | [_, _, _, _], _ => rfl
  have F__law_chromatic := fun_mk (st := top 41) fl__law_chromatic fcc__law_chromatic fq__law_chromatic
  have B__law_chromatic := F__law_chromatic.binds (ps := ["graph", "lot"]) fun _ _ _ _ _ _ us hl => match us, hl with | [_, _], _ => rfl
  have F__law_is_one := fun_mk (st := top 42) fl__law_is_one fcc__law_is_one fq__law_is_one
  have B__law_is_one := F__law_is_one.binds (ps := ["graph", "thing"]) fun _ _ _ _ _ _ us hl => match us, hl with | [_, _], _ => rfl
  have F__law_bent := fun_mk (st := top 43) fl__law_bent fcc__law_bent fq__law_bent
  have B__law_bent := F__law_bent.binds (ps := ["well", "told"]) fun _ _ _ _ _ _ us hl => match us, hl with | [_, _], _ => rfl
  have F__law_right := fun_mk (st := top 44) fl__law_right fcc__law_right fq__law_right
  have B__law_right := F__law_right.binds (ps := ["well"]) fun _ _ _ _ _ _ us hl => match us, hl with | [_], _ => rfl
  have F_law := fun_mk (st := top 45) fl_law fcc_law fq_law
  have B_law := F_law.binds (ps := ["script"]) fun _ _ _ _ _ _ us hl => match us, hl with | [_], _ => rfl
  have m_len := PySem.W.mg_none_of X GN z_len
  have m_int := PySem.W.mg_none_of X GN z_int
  have m_abs := PySem.W.mg_none_of X GN z_abs
  have m_divmod := PySem.W.mg_none_of X GN z_divmod
  have m_repr := PySem.W.mg_none_of X GN z_repr
  have m_isinstance := PySem.W.mg_none_of X GN z_isinstance
  have m_bool := PySem.W.mg_none_of X GN z_bool
  have m_range := PySem.W.mg_none_of X GN z_range
  have m_all := PySem.W.mg_none_of X GN z_all
  have m_max := PySem.W.mg_none_of X GN z_max
  have m_min := PySem.W.mg_none_of X GN z_min
  have m_list := PySem.W.mg_none_of X GN z_list
  have m_tuple := PySem.W.mg_none_of X GN z_tuple
  have m_sorted := PySem.W.mg_none_of X GN z_sorted
  have m_set := PySem.W.mg_none_of X GN z_set
  have m_type := PySem.W.mg_none_of X GN z_type
  have m_enumerate := PySem.W.mg_none_of X GN z_enumerate
  have m_zip := PySem.W.mg_none_of X GN z_zip
  have mM := PySem.W.mg_of X GN gM
  refine ⟨PySem.W.fnOf "law" "law" (defArgs (top 45)) (defBody (top 45)) (defScope (top 45)) .none fk_law fe_law fm_law fN_law fc_law ft_law, fun s v => .of_eq rfl, fun base _ _ => ?_⟩
  have O__law_well := ok_well (P := l.prog) (w := w) (K := K) (mg := mg) (base := base) F__law_well m_len m_int m_abs
  have O__law_draw := ok_draw (P := l.prog) (w := w) (K := K) (mg := mg) (base := base) F__law_draw m_divmod m_int
  have O__law_pick := ok_pick (P := l.prog) (w := w) (K := K) (mg := mg) (base := base) F__law_pick O__law_draw B__law_draw fq__law_draw (PySem.W.mg_of X GN fa__law_draw) m_len
  have O__law_same := ok_same (P := l.prog) (w := w) (K := K) (mg := mg) (base := base) F__law_same m_repr
  have O__law_of_pairs := ok_of_pairs (P := l.prog) (w := w) (K := K) (mg := mg) (base := base) F__law_of_pairs m_tuple m_sorted m_set m_min m_max
  have O__law_turned := ok_turned (P := l.prog) (w := w) (K := K) (mg := mg) (base := base) F__law_turned m_range m_tuple
  have O__law_round := ok_round (P := l.prog) (w := w) (K := K) (mg := mg) (base := base) F__law_round O__law_of_pairs B__law_of_pairs fq__law_of_pairs (PySem.W.mg_of X GN fa__law_of_pairs) m_range m_int
  have O__law_called := ok_called (P := l.prog) (w := w) (K := K) (mg := mg) (base := base) F__law_called O__law_of_pairs B__law_of_pairs fq__law_of_pairs (PySem.W.mg_of X GN fa__law_of_pairs)
  have O__law_order := ok_order (P := l.prog) (w := w) (K := K) (mg := mg) (base := base) F__law_order O__law_draw B__law_draw fq__law_draw (PySem.W.mg_of X GN fa__law_draw) m_len m_range m_list m_tuple
  have O__law_random := ok_random (P := l.prog) (w := w) (K := K) (mg := mg) (base := base) F__law_random O__law_draw B__law_draw fq__law_draw (PySem.W.mg_of X GN fa__law_draw) O__law_of_pairs B__law_of_pairs fq__law_of_pairs (PySem.W.mg_of X GN fa__law_of_pairs) O__law_pick B__law_pick fq__law_pick (PySem.W.mg_of X GN fa__law_pick) m_range
  have O__law_sides := ok_sides (P := l.prog) (w := w) (K := K) (mg := mg) (base := base) F__law_sides O__law_draw B__law_draw fq__law_draw (PySem.W.mg_of X GN fa__law_draw) O__law_of_pairs B__law_of_pairs fq__law_of_pairs (PySem.W.mg_of X GN fa__law_of_pairs) m_range
  have O__law_beside := ok_beside (P := l.prog) (w := w) (K := K) (mg := mg) (base := base) F__law_beside O__law_of_pairs B__law_of_pairs fq__law_of_pairs (PySem.W.mg_of X GN fa__law_of_pairs) m_range m_list
  have O__law_folded := ok_folded (P := l.prog) (w := w) (K := K) (mg := mg) (base := base) F__law_folded O__law_draw B__law_draw fq__law_draw (PySem.W.mg_of X GN fa__law_draw) O__law_beside B__law_beside fq__law_beside (PySem.W.mg_of X GN fa__law_beside) O__law_turned B__law_turned fq__law_turned (PySem.W.mg_of X GN fa__law_turned) m_range
  have O__law_grown := ok_grown (P := l.prog) (w := w) (K := K) (mg := mg) (base := base) F__law_grown O__law_draw B__law_draw fq__law_draw (PySem.W.mg_of X GN fa__law_draw) O__law_of_pairs B__law_of_pairs fq__law_of_pairs (PySem.W.mg_of X GN fa__law_of_pairs) m_range m_list m_min m_max
  have O__law_graph := ok_graph (P := l.prog) (w := w) (K := K) (mg := mg) (base := base) F__law_graph O__law_draw B__law_draw fq__law_draw (PySem.W.mg_of X GN fa__law_draw) O__law_random B__law_random fq__law_random (PySem.W.mg_of X GN fa__law_random) O__law_sides B__law_sides fq__law_sides (PySem.W.mg_of X GN fa__law_sides) O__law_folded B__law_folded fq__law_folded (PySem.W.mg_of X GN fa__law_folded) O__law_grown B__law_grown fq__law_grown (PySem.W.mg_of X GN fa__law_grown) O__law_round B__law_round fq__law_round (PySem.W.mg_of X GN fa__law_round) O__law_pick B__law_pick fq__law_pick (PySem.W.mg_of X GN fa__law_pick) O__law_turned B__law_turned fq__law_turned (PySem.W.mg_of X GN fa__law_turned) O__law_called B__law_called fq__law_called (PySem.W.mg_of X GN fa__law_called) O__law_order B__law_order fq__law_order (PySem.W.mg_of X GN fa__law_order) m_max
  have O_is_whole_from := ok_whole_from (P := l.prog) (w := w) (K := K) (mg := mg) (base := base) F_is_whole_from m_type m_int
  have O_is_whole := ok_is_whole (P := l.prog) (w := w) (K := K) (mg := mg) (base := base) F_is_whole O_is_whole_from B_is_whole_from fq_is_whole_from (PySem.W.mg_of X GN fa_is_whole_from)
  have O_is_tuple_of_two := ok_is_two (P := l.prog) (w := w) (K := K) (mg := mg) (base := base) F_is_tuple_of_two m_type m_tuple m_len
  have O_is_vertex_pair := ok_vp (P := l.prog) (w := w) (K := K) (mg := mg) (base := base) F_is_vertex_pair O_is_tuple_of_two B_is_tuple_of_two fq_is_tuple_of_two (PySem.W.mg_of X GN fa_is_tuple_of_two) O_is_whole B_is_whole fq_is_whole (PySem.W.mg_of X GN fa_is_whole) m_all
  have O_is_ascending := ok_asc (P := l.prog) (w := w) (K := K) (mg := mg) (base := base) F_is_ascending m_all m_zip
  have O_is_graph := ok_is_graph (P := l.prog) (w := w) (K := K) (mg := mg) (base := base) F_is_graph O_is_tuple_of_two B_is_tuple_of_two fq_is_tuple_of_two (PySem.W.mg_of X GN fa_is_tuple_of_two) O_is_whole B_is_whole fq_is_whole (PySem.W.mg_of X GN fa_is_whole) O_is_vertex_pair B_is_vertex_pair fq_is_vertex_pair (PySem.W.mg_of X GN fa_is_vertex_pair) O_is_ascending B_is_ascending fq_is_ascending (PySem.W.mg_of X GN fa_is_ascending) tkM mM m_type m_tuple m_all
  have O_check_graph := ok_check_graph (P := l.prog) (w := w) (K := K) (mg := mg) (base := base) F_check_graph O_is_graph B_is_graph fq_is_graph (PySem.W.mg_of X GN fa_is_graph)
  have O_neighbour_masks := ok_masks (P := l.prog) (w := w) (K := K) (mg := mg) (base := base) F_neighbour_masks 
  have O_lot_of := ok_lot_of (P := l.prog) (w := w) (K := K) (mg := mg) (base := base) F_lot_of m_range m_tuple
  have O__stable_masks_by_greatest := ok_stb_rows (P := l.prog) (w := w) (K := K) (mg := mg) (base := base) F__stable_masks_by_greatest m_enumerate
  have O_chromatic_numbers := ok_chrom_numbers (P := l.prog) (w := w) (K := K) (mg := mg) (base := base) F_chromatic_numbers O__stable_masks_by_greatest B__stable_masks_by_greatest fq__stable_masks_by_greatest (PySem.W.mg_of X GN fa__stable_masks_by_greatest) m_range m_len m_min
  have O_chromatic_number := ok_chrom_number (P := l.prog) (w := w) (K := K) (mg := mg) (base := base) F_chromatic_number O_check_graph B_check_graph fq_check_graph (PySem.W.mg_of X GN fa_check_graph) O_neighbour_masks B_neighbour_masks fq_neighbour_masks (PySem.W.mg_of X GN fa_neighbour_masks) O_chromatic_numbers B_chromatic_numbers fq_chromatic_numbers (PySem.W.mg_of X GN fa_chromatic_numbers)
  have O_clique_numbers := ok_clique_numbers (P := l.prog) (w := w) (K := K) (mg := mg) (base := base) F_clique_numbers m_range m_len m_max
  have O_clique_number := ok_clique_number (P := l.prog) (w := w) (K := K) (mg := mg) (base := base) F_clique_number O_check_graph B_check_graph fq_check_graph (PySem.W.mg_of X GN fa_check_graph) O_neighbour_masks B_neighbour_masks fq_neighbour_masks (PySem.W.mg_of X GN fa_neighbour_masks) O_clique_numbers B_clique_numbers fq_clique_numbers (PySem.W.mg_of X GN fa_clique_numbers)
  have O_colouring := ok_colouring (P := l.prog) (w := w) (K := K) (mg := mg) (base := base) F_colouring O_check_graph B_check_graph fq_check_graph (PySem.W.mg_of X GN fa_check_graph) O_neighbour_masks B_neighbour_masks fq_neighbour_masks (PySem.W.mg_of X GN fa_neighbour_masks) O_chromatic_numbers B_chromatic_numbers fq_chromatic_numbers (PySem.W.mg_of X GN fa_chromatic_numbers) O__stable_masks_by_greatest B__stable_masks_by_greatest fq__stable_masks_by_greatest (PySem.W.mg_of X GN fa__stable_masks_by_greatest) O_lot_of B_lot_of fq_lot_of (PySem.W.mg_of X GN fa_lot_of) m_len m_tuple
  have O_is_colouring := ok_is_col (P := l.prog) (w := w) (K := K) (mg := mg) (base := base) F_is_colouring O_check_graph B_check_graph fq_check_graph (PySem.W.mg_of X GN fa_check_graph) O_is_whole_from B_is_whole_from fq_is_whole_from (PySem.W.mg_of X GN fa_is_whole_from) m_type m_tuple m_all m_len
  have O__law_is_tied := ok_tied (P := l.prog) (w := w) (K := K) (mg := mg) (base := base) F__law_is_tied m_min m_max
  have O__law_greatest := ok_great (P := l.prog) (w := w) (K := K) (mg := mg) (base := base) F__law_greatest B__law_greatest fq__law_greatest (PySem.W.mg_of X GN fa__law_greatest) O__law_is_tied B__law_is_tied fq__law_is_tied (PySem.W.mg_of X GN fa__law_is_tied) m_len m_tuple m_max 10
  have O__law_is_coloured := ok_cold (P := l.prog) (w := w) (K := K) (mg := mg) (base := base) F__law_is_coloured B__law_is_coloured fq__law_is_coloured (PySem.W.mg_of X GN fa__law_is_coloured) O__law_is_tied B__law_is_tied fq__law_is_tied (PySem.W.mg_of X GN fa__law_is_tied) m_range m_len m_min m_max 10
  have O__law_chromatic := ok_chr (P := l.prog) (w := w) (K := K) (mg := mg) (base := base) F__law_chromatic O__law_greatest B__law_greatest fq__law_greatest (PySem.W.mg_of X GN fa__law_greatest) O__law_is_coloured B__law_is_coloured fq__law_is_coloured (PySem.W.mg_of X GN fa__law_is_coloured) m_range m_len
  have O__law_is_one := ok_one (P := l.prog) (w := w) (K := K) (mg := mg) (base := base) F__law_is_one m_isinstance m_tuple m_len m_int m_bool
  have O__law_bent := ok_bentC (P := l.prog) (w := w) (K := K) (mg := mg) (base := base) F__law_bent O__law_draw B__law_draw fq__law_draw (PySem.W.mg_of X GN fa__law_draw) O__law_pick B__law_pick fq__law_pick (PySem.W.mg_of X GN fa__law_pick) m_len m_list m_tuple
  have O__law_right := ok_right (P := l.prog) (w := w) (K := K) (mg := mg) (base := base) F__law_right O__law_draw B__law_draw fq__law_draw (PySem.W.mg_of X GN fa__law_draw) O__law_graph B__law_graph fq__law_graph (PySem.W.mg_of X GN fa__law_graph) O__law_chromatic B__law_chromatic fq__law_chromatic (PySem.W.mg_of X GN fa__law_chromatic) O_colouring B_colouring fq_colouring (PySem.W.mg_of X GN fa_colouring) O_chromatic_number B_chromatic_number (fun s u => .of_eq rfl) fq_chromatic_number (PySem.W.mg_of X GN fa_chromatic_number) O__law_same B__law_same fq__law_same (PySem.W.mg_of X GN fa__law_same) O__law_is_one B__law_is_one fq__law_is_one (PySem.W.mg_of X GN fa__law_is_one) O_clique_number B_clique_number fq_clique_number (PySem.W.mg_of X GN fa_clique_number) O_is_colouring B_is_colouring (fun s u v => .of_eq rfl) fq_is_colouring (PySem.W.mg_of X GN fa_is_colouring) O__law_bent B__law_bent fq__law_bent (PySem.W.mg_of X GN fa__law_bent) m_range m_tuple m_sorted m_set m_list
  exact ok_law (n := 13) F_law O__law_well B__law_well fq__law_well (PySem.W.mg_of X GN fa__law_well) O__law_right B__law_right fq__law_right (PySem.W.mg_of X GN fa__law_right) m_range m_len m_all m_max m_min
end My

open PySem PySem.W PyProof.Rows
set_option maxRecDepth 100000 in
set_option maxHeartbeats 0 in
theorem PySem.Challenge.cw_perfectgraphs_k07_whole_chromatic_number_holds : PySem.Challenge.rw_perfectgraphs_k07_whole_chromatic_number.Holds := by
  w_on; o_law; k_head; (case hw => w_witness2)
  k_fill
  refine My.walkG (l := PySem.Challenge.rw_perfectgraphs_k07_whole_chromatic_number) (m := 63) (n := 15) (x := "script") (sp := fun K => My.spLaw K) rfl (by decide) rfl ⟨rfl, by decide, by decide⟩ (fun w h Y => PySem.W.kIn_of Y) ?F (fun K H a ns hl _ hS => ⟨a, ns, rfl, hS, hl, fun _ => rfl⟩)
  case F =>
    intro w mg fa h KX G hmg
    refine' My.all_mk KX G hmg ?fa_is_whole ?fl_is_whole ?fcc_is_whole ?fq_is_whole ?fa_is_whole_from ?fl_is_whole_from ?fcc_is_whole_from ?fq_is_whole_from ?fa_is_tuple_of_two ?fl_is_tuple_of_two ?fcc_is_tuple_of_two ?fq_is_tuple_of_two ?fa_is_ascending ?fl_is_ascending ?fcc_is_ascending ?fq_is_ascending ?fa_is_graph ?fl_is_graph ?fcc_is_graph ?fq_is_graph ?fa_is_vertex_pair ?fl_is_vertex_pair ?fcc_is_vertex_pair ?fq_is_vertex_pair ?fa_check_graph ?fl_check_graph ?fcc_check_graph ?fq_check_graph ?fa_neighbour_masks ?fl_neighbour_masks ?fcc_neighbour_masks ?fq_neighbour_masks ?fa_lot_of ?fl_lot_of ?fcc_lot_of ?fq_lot_of ?fa_clique_number ?fl_clique_number ?fcc_clique_number ?fq_clique_number ?fa_chromatic_number ?fl_chromatic_number ?fcc_chromatic_number ?fq_chromatic_number ?fa_is_colouring ?fl_is_colouring ?fcc_is_colouring ?fq_is_colouring ?fa_colouring ?fl_colouring ?fcc_colouring ?fq_colouring ?fa_clique_numbers ?fl_clique_numbers ?fcc_clique_numbers ?fq_clique_numbers ?fa_chromatic_numbers ?fl_chromatic_numbers ?fcc_chromatic_numbers ?fq_chromatic_numbers ?fa__stable_masks_by_greatest ?fl__stable_masks_by_greatest ?fcc__stable_masks_by_greatest ?fq__stable_masks_by_greatest ?fa__law_well ?fl__law_well ?fcc__law_well ?fq__law_well ?fa__law_draw ?fl__law_draw ?fcc__law_draw ?fq__law_draw ?fa__law_pick ?fl__law_pick ?fcc__law_pick ?fq__law_pick ?fa__law_same ?fl__law_same ?fcc__law_same ?fq__law_same ?fa__law_of_pairs ?fl__law_of_pairs ?fcc__law_of_pairs ?fq__law_of_pairs ?fa__law_turned ?fl__law_turned ?fcc__law_turned ?fq__law_turned ?fa__law_round ?fl__law_round ?fcc__law_round ?fq__law_round ?fa__law_called ?fl__law_called ?fcc__law_called ?fq__law_called ?fa__law_order ?fl__law_order ?fcc__law_order ?fq__law_order ?fa__law_random ?fl__law_random ?fcc__law_random ?fq__law_random ?fa__law_sides ?fl__law_sides ?fcc__law_sides ?fq__law_sides ?fa__law_beside ?fl__law_beside ?fcc__law_beside ?fq__law_beside ?fa__law_folded ?fl__law_folded ?fcc__law_folded ?fq__law_folded ?fa__law_grown ?fl__law_grown ?fcc__law_grown ?fq__law_grown ?fa__law_graph ?fl__law_graph ?fcc__law_graph ?fq__law_graph ?fa__law_is_tied ?fl__law_is_tied ?fcc__law_is_tied ?fq__law_is_tied ?fa__law_greatest ?fl__law_greatest ?fcc__law_greatest ?fq__law_greatest ?fa__law_is_coloured ?fl__law_is_coloured ?fcc__law_is_coloured ?fq__law_is_coloured ?fa__law_chromatic ?fl__law_chromatic ?fcc__law_chromatic ?fq__law_chromatic ?fa__law_is_one ?fl__law_is_one ?fcc__law_is_one ?fq__law_is_one ?fa__law_bent ?fl__law_bent ?fcc__law_bent ?fq__law_bent ?fa__law_right ?fl__law_right ?fcc__law_right ?fq__law_right ?fa_law ?fl_law ?fcc_law ?fq_law ?gM ?z_len ?z_int ?z_abs ?z_divmod ?z_repr ?z_isinstance ?z_bool ?z_range ?z_all ?z_max ?z_min ?z_list ?z_tuple ?z_sorted ?z_set ?z_type ?z_enumerate ?z_zip
    (case fa_is_whole => k_is)
    (case fl_is_whole => k_is)
    (case fcc_is_whole => k_is)
    (case fq_is_whole => k_is)
    (case fa_is_whole_from => k_is)
    (case fl_is_whole_from => k_is)
    (case fcc_is_whole_from => k_is)
    (case fq_is_whole_from => k_is)
    (case fa_is_tuple_of_two => k_is)
    (case fl_is_tuple_of_two => k_is)
    (case fcc_is_tuple_of_two => k_is)
    (case fq_is_tuple_of_two => k_is)
    (case fa_is_ascending => k_is)
    (case fl_is_ascending => k_is)
    (case fcc_is_ascending => k_is)
    (case fq_is_ascending => k_is)
    (case fa_is_graph => k_is)
    (case fl_is_graph => k_is)
    (case fcc_is_graph => k_is)
    (case fq_is_graph => k_is)
    (case fa_is_vertex_pair => k_is)
    (case fl_is_vertex_pair => k_is)
    (case fcc_is_vertex_pair => k_is)
    (case fq_is_vertex_pair => k_is)
    (case fa_check_graph => k_is)
    (case fl_check_graph => k_is)
    (case fcc_check_graph => k_is)
    (case fq_check_graph => k_is)
    (case fa_neighbour_masks => k_is)
    (case fl_neighbour_masks => k_is)
    (case fcc_neighbour_masks => k_is)
    (case fq_neighbour_masks => k_is)
    (case fa_lot_of => k_is)
    (case fl_lot_of => k_is)
    (case fcc_lot_of => k_is)
    (case fq_lot_of => k_is)
    (case fa_clique_number => k_is)
    (case fl_clique_number => k_is)
    (case fcc_clique_number => k_is)
    (case fq_clique_number => k_is)
    (case fa_chromatic_number => k_is)
    (case fl_chromatic_number => k_is)
    (case fcc_chromatic_number => k_is)
    (case fq_chromatic_number => k_is)
    (case fa_is_colouring => k_is)
    (case fl_is_colouring => k_is)
    (case fcc_is_colouring => k_is)
    (case fq_is_colouring => k_is)
    (case fa_colouring => k_is)
    (case fl_colouring => k_is)
    (case fcc_colouring => k_is)
    (case fq_colouring => k_is)
    (case fa_clique_numbers => k_is)
    (case fl_clique_numbers => k_is)
    (case fcc_clique_numbers => k_is)
    (case fq_clique_numbers => k_is)
    (case fa_chromatic_numbers => k_is)
    (case fl_chromatic_numbers => k_is)
    (case fcc_chromatic_numbers => k_is)
    (case fq_chromatic_numbers => k_is)
    (case fa__stable_masks_by_greatest => k_is)
    (case fl__stable_masks_by_greatest => k_is)
    (case fcc__stable_masks_by_greatest => k_is)
    (case fq__stable_masks_by_greatest => k_is)
    (case fa__law_well => k_is)
    (case fl__law_well => k_is)
    (case fcc__law_well => k_is)
    (case fq__law_well => k_is)
    (case fa__law_draw => k_is)
    (case fl__law_draw => k_is)
    (case fcc__law_draw => k_is)
    (case fq__law_draw => k_is)
    (case fa__law_pick => k_is)
    (case fl__law_pick => k_is)
    (case fcc__law_pick => k_is)
    (case fq__law_pick => k_is)
    (case fa__law_same => k_is)
    (case fl__law_same => k_is)
    (case fcc__law_same => k_is)
    (case fq__law_same => k_is)
    (case fa__law_of_pairs => k_is)
    (case fl__law_of_pairs => k_is)
    (case fcc__law_of_pairs => k_is)
    (case fq__law_of_pairs => k_is)
    (case fa__law_turned => k_is)
    (case fl__law_turned => k_is)
    (case fcc__law_turned => k_is)
    (case fq__law_turned => k_is)
    (case fa__law_round => k_is)
    (case fl__law_round => k_is)
    (case fcc__law_round => k_is)
    (case fq__law_round => k_is)
    (case fa__law_called => k_is)
    (case fl__law_called => k_is)
    (case fcc__law_called => k_is)
    (case fq__law_called => k_is)
    (case fa__law_order => k_is)
    (case fl__law_order => k_is)
    (case fcc__law_order => k_is)
    (case fq__law_order => k_is)
    (case fa__law_random => k_is)
    (case fl__law_random => k_is)
    (case fcc__law_random => k_is)
    (case fq__law_random => k_is)
    (case fa__law_sides => k_is)
    (case fl__law_sides => k_is)
    (case fcc__law_sides => k_is)
    (case fq__law_sides => k_is)
    (case fa__law_beside => k_is)
    (case fl__law_beside => k_is)
    (case fcc__law_beside => k_is)
    (case fq__law_beside => k_is)
    (case fa__law_folded => k_is)
    (case fl__law_folded => k_is)
    (case fcc__law_folded => k_is)
    (case fq__law_folded => k_is)
    (case fa__law_grown => k_is)
    (case fl__law_grown => k_is)
    (case fcc__law_grown => k_is)
    (case fq__law_grown => k_is)
    (case fa__law_graph => k_is)
    (case fl__law_graph => k_is)
    (case fcc__law_graph => k_is)
    (case fq__law_graph => k_is)
    (case fa__law_is_tied => k_is)
    (case fl__law_is_tied => k_is)
    (case fcc__law_is_tied => k_is)
    (case fq__law_is_tied => k_is)
    (case fa__law_greatest => k_is)
    (case fl__law_greatest => k_is)
    (case fcc__law_greatest => k_is)
    (case fq__law_greatest => k_is)
    (case fa__law_is_coloured => k_is)
    (case fl__law_is_coloured => k_is)
    (case fcc__law_is_coloured => k_is)
    (case fq__law_is_coloured => k_is)
    (case fa__law_chromatic => k_is)
    (case fl__law_chromatic => k_is)
    (case fcc__law_chromatic => k_is)
    (case fq__law_chromatic => k_is)
    (case fa__law_is_one => k_is)
    (case fl__law_is_one => k_is)
    (case fcc__law_is_one => k_is)
    (case fq__law_is_one => k_is)
    (case fa__law_bent => k_is)
    (case fl__law_bent => k_is)
    (case fcc__law_bent => k_is)
    (case fq__law_bent => k_is)
    (case fa__law_right => k_is)
    (case fl__law_right => k_is)
    (case fcc__law_right => k_is)
    (case fq__law_right => k_is)
    (case fa_law => k_is)
    (case fl_law => k_is)
    (case fcc_law => k_is)
    (case fq_law => k_is)
    (case gM => k_is)
    (case z_len => k_is)
    (case z_int => k_is)
    (case z_abs => k_is)
    (case z_divmod => k_is)
    (case z_repr => k_is)
    (case z_isinstance => k_is)
    (case z_bool => k_is)
    (case z_range => k_is)
    (case z_all => k_is)
    (case z_max => k_is)
    (case z_min => k_is)
    (case z_list => k_is)
    (case z_tuple => k_is)
    (case z_sorted => k_is)
    (case z_set => k_is)
    (case z_type => k_is)
    (case z_enumerate => k_is)
    (case z_zip => k_is)
#print axioms PySem.Challenge.cw_perfectgraphs_k07_whole_chromatic_number_holds

