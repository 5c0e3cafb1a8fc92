import PyProof.Rows.All
import Wide.All
import OpenK.AllK
import Wide.FinOn
import HandS.ForMost
import HandS.ForExc
import HandS.ExcInit
import HandS.ExcValue
import HandS.IsInst
import KE.KExcIs
import HandS.ExcField
import PySem.Challenge.RW_perfectgraphs_k01_errors_each_of_its_own
set_option Elab.async false
set_option linter.all false
set_option maxRecDepth 100000
set_option maxHeartbeats 2000000
/-! Defs that are asked where nothing is being displayed: repr of data, whatever it holds. -/
namespace My
open PySem PySem.Spec PyProof.Rows L2

/-- like FnOk, for calls outside of any display -/
structure FnG (P : Program) (w : World) (K : PySem.W.Frag) (mg : Str → Option Value) (base : Heap) (C : CXT) (n : Nat) (f : Addr) (fd : FuncData) (ps : List Str) (sp : Sp) : Prop where
  arity : ∀ xs H Q E, sp xs H Q E → xs.length = ps.length
  goes : ∀ (A : Around) (out : List Env) (s : Shared) (H : Hp) (args : Args) (us : List Value) (xs : List V) (Q : VK) (E : XK), A.guards = some [] → Room n A → Env0 P w K mg base A out s H →
    BindsTo s fd args (ps.zip us) → Vals xs us → sp xs H Q E → codeAny (model P w) A (.call (.ref f) args) (CR C out P w H s Q E) s
section
variable {P : Program} {w : World} {K : PySem.W.Frag} {mg : Str → Option Value} {base : Heap} {C : CXT} {n : Nat} {f : Addr} {fd : FuncData} {ps : List Str} {sp : Sp}
theorem FnG.of (F : FnOk P w K mg base C n f fd ps sp) : FnG P w K mg base C n f fd ps sp :=
  { arity := F.len, goes := fun A out s H args us xs Q E _ r e b v h => F.run A out s H args us xs Q E r e b v h }
end

section
variable {X : Cx} {C : CXT} {n : Nat} {f : Addr} {fd : FuncData} {ps : List Str} {sp : Sp} {E : XK} {nm : Str} {p pos : Pos} {a : Expr} {as : List Expr} {t : TA}
theorem FnG.call_at {pins : List (Addr × Obj)} {σ : L2.St} {H : Hp} {s : Shared} {Q : VK} {us : List Value} {xs : List V} (F : FnG X.prog X.w X.K X.mg X.base C n f fd ps sp) (gd : X.A.guards = some []) (r : Room n X.A) (b : Binds X.K fd ps []) (x : Passes C X E)
    (I : Inv X pins σ H s) (v : Vals xs us) (h : sp xs H Q E) : wpAny (model X.prog X.w) X.A (call (.ref f) us) (EP X pins σ Q) X.xe s := by
  have len : (us ++ []).length = ps.length := by
    rw [List.append_nil, ← v.length]
    exact F.arity _ _ _ _ h
  have bd := b s us I.kIn len
  rw [List.append_nil] at bd
  refine wpAny_call (codeAny_mono (F.goes X.A X.stack s H ⟨us, []⟩ us xs Q E gd r I.env0 bd v h) ?_)
  rintro (er | fl) s' hq
  · exact x pins σ H s er s' I hq
  · cases fl <;> first | exact hq.elim | exact I.after hq
/-- f(a, ..), f such a def -/
theorem pe_callG (F : FnG X.prog X.w X.K X.mg X.base C n f fd ps sp) (gd : X.A.guards = some []) (r : Room n X.A) (g : Gl X nm) (m : X.mg nm = some (.ref f)) (kp : PySem.W.keepIn X.K (.ref f) = true) (b : Binds X.K fd ps []) (x : Passes C X E)
    (ha : PA X (a :: as) t) (nd : (nm == ("__debug__" : Str)) = false := by decide) (st : starEach (a :: as) X.env = (false, eval a X.env) :: starEach as X.env := by rfl) (pl : (backTo pos (starEach as X.env)).any (·.1) = false := by rfl) :
    PE X (.Call (.Name nm p) (a :: as) [] pos) (tCall sp [] E t) := by
  constructor
  intro pins s σ H Q I h
  refine wpAny_Call_Name_kw (ld_glob I g m ?_ nd)
  refine PySem.W.callWith_K (h₀ := X.base) I.ok.mod.kin kp (thn (ha.run pos pins s σ H _ I h) ?_) st pl
  rintro us s1 ⟨xs, H1, I1, v, q⟩
  rw [List.append_nil] at q
  exact ⟨I1.kIn, F.call_at gd r b x I1 v q⟩
end

section
variable {P : Program} {w : World} {K : PySem.W.Frag} {mg : Str → Option Value} {base : Heap} {C : CXT} {n : Nat} {f : Addr} {ps N : List Str} {sp : Sp}
/-- such a def by its body -/
theorem fnG_of {name qual : Str} {pm : Arguments} {body : List Stmt} {sc : Scope} {dV kV doc md cdv ct oc : Value} {an od : Option Addr} {sl : Array (Option Value)}
    (lk : K.lookup f = some ⟨oc, od, .func (PySem.W.fnOf name qual pm body sc dV kV doc md an cdv ct), sl⟩) (cd : PySem.W.codeIn K cdv qual = true) (S : FnScope N ps sc) (ar : ∀ xs H Q E, sp xs H Q E → xs.length = ps.length)
    (hb : ∀ (A : Around) (out : List Env) (s : Shared) (H : Hp) (xs : List V) (Q : VK) (E : XK), A.guards = some [] → Room n (A.deeper (envOfC qual sc s.heap.objs.size f cdv)) → sp xs H Q E →
      ∃ t, PSs (cxOf C P w K mg base N qual sc f cdv A out s H E) body t ∧ t { nx := fun _ H' => Q .non H', rt := Q } (start N xs) H) :
    FnG P w K mg base C (n + 1) f (PySem.W.fnOf name qual pm body sc dV kV doc md an cdv ct) ps sp := by
  refine { arity := ar, goes := ?_ }
  intro A out s H args us xs Q E gd r e bd v h
  have all : K.In s.heap := e.mod.kin.keeps fun b o z => (e.bs b o z).1
  have nolim : s.heap.NoLimit := e.mod.nolimit.keeps fun b o z => (e.bs b o z).1
  have kinds : ∀ y ∈ ps.zip us, sc.names.lookup y.1 = some .local ∨ (sc.names.lookup y.1 = some .cell ∧ ((cellsFrom (s.heap.objs.size + 1) sc.names []).lookup y.1).isSome = true) := by
    rintro ⟨y, u⟩ hy
    exact (S.par y (List.of_mem_zip hy).1).imp id fun z => ⟨z, PySem.W.cellsFrom_some _ _ _ (.inl z)⟩
  refine codeAny_call_function r.depth (all _ _ lk) rfl S.co S.gen rfl (PySem.W.codeRec_of all cd) (bd _ _ _ _ (wpAny_newFunctionEnv_cells S.kind kinds ?_))
  intro env he s1 x
  cases he
  obtain ⟨t, ht, hq⟩ := hb A out s H xs Q E gd (r.deeper _) h
  refine ⟨nolim.keeps x.toInCall.keep, codeAny_func (wpAny_mono (ht.run [] s1 (start N xs) H _ (inv_start S r.hd e (ar _ _ _ _ h) v x) hq) ?_ fun _ _ z => z)⟩
  rintro fl s' hs
  cases fl with
  | ret u =>
    obtain ⟨y, σ', H', J, ry, q⟩ := hs
    exact ⟨y, H', J.os, J.bare, J.base, J.hok, ry, q⟩
  | next =>
    obtain ⟨σ', H', J, q⟩ := hs
    exact ⟨.non, H', J.os, J.bare, J.base, J.hok, rfl, q⟩
  | brk => exact hs.choose_spec.choose_spec.2.elim
  | cont => exact hs.choose_spec.choose_spec.2.elim
theorem okG {name qual : Str} {st : Stmt} {fd : FuncData} (F : L2.Fun K name qual st f fd) (S : FnScope N ps (defScope st)) (ar : ∀ xs H Q E, sp xs H Q E → xs.length = ps.length)
    (hb : ∀ (cdv : Value) (A : Around) (out : List Env) (s : Shared) (H : Hp) (xs : List V) (Q : VK) (E : XK), A.guards = some [] → Room n (A.deeper (envOfC qual (defScope st) s.heap.objs.size f cdv)) → sp xs H Q E →
      ∃ t, PSs (cxOf CX0 P w K mg base N qual (defScope st) f cdv A out s H E).nox (defBody st) t ∧ t { nx := fun _ H' => Q .non H', rt := Q } (start N xs) H) : FnG P w K mg base CX0 (n + 1) f fd ps sp := by
  obtain ⟨_, _, _, _, _, _, cdv, _, _, rfl, lk, cd⟩ := F.ex
  refine fnG_of lk cd S ar ?_
  intro A out s H xs Q E gd r h
  obtain ⟨t, ht, q⟩ := hb cdv A out s H xs Q E gd r h
  exact ⟨t, ht.nox, q⟩
end

/-! ### the end of a law's row -/
/-- the call of the law itself, over one abstract heap -/
theorem law_at {P : Program} {w : World} {K : PySem.W.Frag} {mg mb : Str → Option Value} {n : Nat} {fa a : Addr} {fd : FuncData} {x : Str} {sp : Sp} {s : Shared} {vs : List Value} {H : Hp}
    (KX : K.In s.heap) (hns : s.heap.Ns mainGlobals mg) (hb : s.heap.Ns builtinsNs mb) (hbb : ∀ x : Str, x ≠ "__name__" → mb x = bootBuiltins x) (lim : s.heap.NoLimit) (ng : s.gens = #[])
    (ha : s.heap.get? a = some { cls := .type "list", data := .seq vs.toArray }) (hr : Room n callerA)
    (F : ∀ base : Heap, K.In base → base.Ns mainGlobals mg → FnG P w K mg base CX0 n fa fd [x] sp) (bd : BindsTo s fd ⟨[.ref a], []⟩ [(x, .ref a)])
    (hsp : sp [.ref a] H (fun v _ => v = .bl true) E0) (hO : Only H) (hok : HOk P w H s.heap) (one : ∀ b, H b ≠ none → b = a) (apart : H a ≠ none → K.lookup a = none) :
    codeAny (model P w) callerA (.call (.ref fa) ⟨[.ref a], []⟩) (fun r s' => r = .ok (.ret (.bool true)) ∧ OldK s.heap s'.heap ∧ s'.os = s.os ∧ AllBare s'.gens) s := by
  have no : ∀ {b : Addr} {o : Obj}, s.heap.get? b = some o → (∀ its m, o.data ≠ .seq its m) → H b = none := by
    intro b o e d
    refine Classical.byContradiction fun z => ?_
    cases one b z
    rw [ha] at e
    cases e
    exact d _ _ rfl
  have keep : ∀ {b : Addr} {m : Str → Option Value}, s.heap.Ns b m → (hidT s.heap H).Ns b m := by
    rintro b m ⟨o, es, ep, e, d, r⟩
    exact ⟨o, es, ep, hidT_get e (no e fun its m z => by rw [d] at z; cases z), d, r⟩
  have inb : K.In (hidT s.heap H) := by
    intro b o e
    refine hidT_get (KX b o e) (Classical.byContradiction fun z => ?_)
    have eb := one b z
    rw [eb] at z e
    rw [apart z] at e
    cases e
  obtain ⟨mc, l1, l2⟩ := lim
  have M : Mod K mg (hidT s.heap H) := ⟨inb, keep hns, ⟨mb, keep hb, hbb⟩, ⟨mc, keep l1, l2⟩⟩
  have e0 : Env0 P w K mg (hidT s.heap H) callerA [] s H :=
    { frames := rfl, mod := M, bs := fun b o e => of_hidT e, bsz := Nat.le_of_eq (hidT_size _ _), funs := trivial, frf := fun b z => absurd (show b ∈ ([] : List Addr) from z) List.not_mem_nil, hok := hok, bare := .of_eq ng }
  refine codeAny_mono ((F _ inb (keep hns)).goes callerA [] s H ⟨[.ref a], []⟩ [.ref a] [.ref a] _ _ rfl hr e0 bd (.cons rfl .nil) hsp) ?_
  rintro (er | fl) s' h
  · exact False.elim h
  · cases fl with
    | ret u =>
      obtain ⟨v, H', os, bare, un, hok', rv, q⟩ := h
      cases (show v = .bl true from q)
      cases (show u = Value.bool true from rv)
      refine ⟨rfl, OldK.of_keep ?_, os, bare⟩
      intro b o e
      rcases hO b with z | ⟨ob, xs, z⟩
      · exact un.keep b o e z (fun y => absurd (show b ∈ ([] : List Addr) from y) List.not_mem_nil) List.not_mem_nil
      · have i1 := (hok b _ z).1
        rw [e] at i1
        rw [i1]
        exact (hok' b _ (un.frzs b ob _ z)).1
    | next => exact False.elim h
    | brk => exact False.elim h
    | cont => exact False.elim h
theorem walkG {l : PySem.W.OpenLaw} {m n : Nat} {q : Program} {loose : List Str} {XP : (Str → Option Value) → Heap → Prop} {YP : World → Heap → Prop} {d : DefRec} {K : Params → PySem.W.Frag} {sp : PySem.W.Frag → Sp} {x : Str}
    (hm : l.most = some m) (hm2 : m ≤ sizeLine) (hdf : d.params.defaults = []) (hr : Room n callerA) (hY : ∀ (w : World) (h : Heap), YP w h → (K w.params).In h)
    (F : ∀ (w : World) (mg : Str → Option Value) (fa : Addr) (h : Heap), (K w.params).In h → h.Ns mainGlobals mg → mg d.name = some (.ref fa) →
      ∃ fd : FuncData, (∀ (s : Shared) (u : Value), BindsTo s fd ⟨[u], []⟩ [(x, u)]) ∧
        ∀ base : Heap, (K w.params).In base → base.Ns mainGlobals mg → FnG l.prog w (K w.params) mg base CX0 n fa fd [x] (sp (K w.params)))
    (hsp : ∀ (K : PySem.W.Frag) (H : Hp) (a : Addr) (ns : List Int), ns.length ≤ m → Only H → SqL K H a (ns.map V.int) → sp K [.ref a] H (fun v _ => v = .bl true) E0) :
    PySem.W.WalkO q loose XP YP l.row.toRowW d [] (fun f vs => PySem.call f vs) := by
  refine Att.attach_call hm hdf ?_
  intro w s₀ s mg mb fa o pm cd doc a vs ns G Y ho hd hcd hmg hobj hints hlen hg
  have KX := hY w _ Y
  obtain ⟨fd, hb, hF⟩ := F w mg fa _ KX G.T.g hmg
  have rv := vals_ints hints
  have hl : (ns.map V.int).length ≤ sizeLine := by
    rw [List.length_map]
    exact Nat.le_trans hlen hm2
  cases hk : (K w.params).lookup a with
  | some ob =>
    have e := KX a ob hk
    rw [hobj] at e
    cases e
    refine law_at KX G.T.g G.T.b G.T.builtins G.T.nolimit hg hobj hr hF (hb s _) (H := fun _ => none) (hsp _ _ a ns hlen (fun _ => .inl rfl) (.inr ?_)) (fun _ => .inl rfl) (fun b u z => nomatch (show (none : Option HO) = some u from z)) (fun b z => absurd rfl z) fun z => absurd rfl z
    exact ⟨_, vs.toArray, _, hk, rfl, rfl, rfl, by rw [List.size_toArray, ← rv.length]; exact hl, by simpa using rv⟩
  | none =>
    let T : HO := .frz { cls := .type "list", data := .seq vs.toArray } (.lst (ns.map V.int))
    let H0 : Hp := fun _ => none
    have at_a : upd H0 a T a = some T := upd_same
    have off : ∀ b, b ≠ a → upd H0 a T b = none := fun b z => upd_ne z
    refine law_at KX G.T.g G.T.b G.T.builtins G.T.nolimit hg hobj hr hF (hb s _) (H := upd H0 a T) (hsp _ _ a ns hlen ?_ (.inl (.inr ⟨_, at_a⟩))) ?_ ?_ ?_ fun _ => hk
    · intro b
      by_cases z : b = a
      · cases z
        exact .inr ⟨_, _, at_a⟩
      · exact .inl (off b z)
    · intro b
      by_cases z : b = a
      · cases z
        exact .inr ⟨_, _, at_a⟩
      · exact .inl (off b z)
    · intro b u e
      by_cases z : b = a
      · cases z
        cases at_a.symm.trans e
        exact ⟨hobj, hl, vs, _, rv, hobj⟩
      · rw [off b z] at e
        cases e
    · intro b z
      exact Classical.byContradiction fun y => z (off b y)
end My

set_option maxHeartbeats 2000000
/-! repr of data: flat things, lists, tuples at any depth, and dicts of flat things. -/
namespace My
open PySem PySem.Spec PyProof.Rows L2

def flatD : V → Option PyData
  | .non => some .none
  | .bl b => some (.bool b)
  | .int i => some (.int i)
  | .str x => some (.str x)
  | _ => none
def keyD : Key → PyData
  | .inl i => .int i
  | .inr x => .str x
/-- the value v is the datum d -/
inductive Dd (K : PySem.W.Frag) (H : Hp) : V → PyData → Prop
  | dat {v : V} {d : PyData} : Dp K H v d → d.hasDict = false → Dd K H v d
  | dct {a : Addr} {kvs : List (Key × V)} {ds : List PyData} : H a = some (.dK kvs) → kvs.map (fun p => flatD p.2) = ds.map some → Dd K H (.ref a) (.dict ((kvs.map fun p => keyD p.1).zip ds))
theorem flat_reads {h : Heap} {v : V} {u : Value} {d : PyData} (e : flatD v = some d) (r : RelV v u) : Reads h u d [] := by
  cases v with
  | non => cases e; cases (show u = Value.none from r); exact .none
  | bl b => cases e; cases (show u = Value.bool b from r); exact .bool b
  | int i => cases e; obtain ⟨t, rfl⟩ := (show ∃ t, u = Value.int i t from r); exact .int i t
  | str x => cases e; obtain ⟨t, rfl⟩ := (show ∃ t, u = Value.str x t from r); exact .str x t
  | byt b => cases e
  | flt b => cases e
  | ref a => cases e
  | ty n => cases e
theorem key_reads {h : Heap} {k : Key} {u : Value} (e : keyIs k u = true) : Reads h u (keyD k) [] := by
  rcases keyIs_shape e with ⟨i, t, rfl, rfl⟩ | ⟨x, t, rfl, rfl⟩
  · exact .int i t
  · exact .str x t
theorem pairs_reads {P : Program} {w : World} {h : Heap} : ∀ {kvs : List (Key × V)} {vs : List (Key × Value)} {es : List DictEntry} {ds : List PyData}, KV kvs vs → Pairs (mixKind P w) es vs → kvs.map (fun p => flatD p.2) = ds.map some →
    ReadsAll h (es.map (·.key)) (((kvs.map fun p => keyD p.1).zip ds).map (·.1)) [] ∧ ReadsAll h (es.map (·.val)) (((kvs.map fun p => keyD p.1).zip ds).map (·.2)) []
  | [], _, _, [], .nil, .nil, _ => ⟨.nil, .nil⟩
  | [], _, _, _ :: _, _, _, e => by cases e
  | _ :: _, _, _, [], _, _, e => by cases e
  | p :: kvs, _, _, d :: ds, .cons r rs, .cons k v ps, e => by
    obtain ⟨e1, e2⟩ := List.cons.inj e
    obtain ⟨i1, i2⟩ := pairs_reads (h := h) rs ps e2
    rw [← r.1] at k
    rw [← v] at r
    exact ⟨ReadsAll.cons (as := []) (bs := []) (key_reads k) i1, ReadsAll.cons (as := []) (bs := []) (flat_reads e1 r.2) i2⟩
section
variable {X : Cx} {pins : List (Addr × Obj)} {σ : L2.St} {H : Hp} {s : Shared}
theorem Dd.reads (I : Inv X pins σ H s) {v : V} {u : Value} {d : PyData} (h : Dd X.K H v d) (r : RelV v u) : ∃ as, Reads s.heap u d as ∧ (d.hasDict = true → sysModules ∉ as) := by
  cases h with
  | dat hd n =>
    obtain ⟨as, q⟩ := Dp.reads I d v u hd r
    exact ⟨as, q, fun z => by rw [n] at z; cases z⟩
  | @dct a kvs ds ha e =>
    cases (show u = Value.ref a from r)
    obtain ⟨_, ns, vs, kv, o, es, ep, ho, ex, hd, _, ps, _⟩ := (show ObjOk X.prog X.w H s.heap a (.dK kvs) from I.hok a _ ha)
    obtain ⟨q1, q2⟩ := pairs_reads (h := s.heap) kv ps e
    refine ⟨_, Reads.dict (as := []) (bs := []) ho ex.1 hd q1 q2, fun _ z => ?_⟩
    have z' : sysModules = a := by simpa using z
    rw [z'] at ns
    simp at ns
/-- repr(v), v a datum -/
def rRepr (K : PySem.W.Frag) : List V → Hp → VK → Prop := fun xs H Q => ∃ v d, xs = [v] ∧ Dd K H v d ∧ d.showable = true ∧ d.depth ≤ 60 ∧ d.shown.length ≤ sizeLine ∧ Q (.str d.shown) H
theorem call_repr (gd : X.A.guards = some []) (hu : X.A.units + 64 < cLine) : CallR X (.builtin "repr") (rRepr X.K) := by
  rintro pins s σ H xs us Q I r ⟨v, d, rfl, hd, sh, dp, sz, q⟩
  obtain ⟨u, rfl, ru⟩ := vals1 r
  obtain ⟨as, rd, ns⟩ := hd.reads I ru
  cases rd with
  | none =>
    refine PySem.P.repr_of_none ⟨.str "None", H, I.tok _, ⟨_, rfl⟩, ?_⟩
    simpa only [PyData.shown] using q
  | bool b =>
    refine PySem.P.repr_of_bool ⟨.str (if b then "True" else "False"), H, I.tok _, ⟨_, rfl⟩, ?_⟩
    simpa only [PyData.shown] using q
  | int i t =>
    refine PySem.P.repr_of_int (by simpa [PyData.showable] using sh) ⟨.str (toString i), H, I.tok _, ⟨_, rfl⟩, ?_⟩
    simpa only [PyData.shown] using q
  | str x t =>
    refine PySem.P.repr_of_str ⟨.str (reprText x), H, I.tok _, ⟨_, rfl⟩, ?_⟩ (by simpa only [PyData.shown] using sz)
    simpa only [PyData.shown] using q
  | list h1 h2 h3 h4 => exact repr_of_reads' (.list h1 h2 h3 h4) sh ns gd (by omega) (fun _ _ e => e) (fun h1 u tk hk => ⟨.str _, H, I.kept hk, ⟨u, rfl⟩, q⟩) sz
  | tuple h1 h2 h3 h4 => exact repr_of_reads' (.tuple h1 h2 h3 h4) sh ns gd (by omega) (fun _ _ e => e) (fun h1 u tk hk => ⟨.str _, H, I.kept hk, ⟨u, rfl⟩, q⟩) sz
  | dict h1 h2 h3 h4 h5 => exact repr_of_reads' (.dict h1 h2 h3 h4 h5) sh ns gd (by omega) (fun _ _ e => e) (fun h1 u tk hk => ⟨.str _, H, I.kept hk, ⟨u, rfl⟩, q⟩) sz
end
theorem Same.tup {K : PySem.W.Frag} {H H' : Hp} {a : Addr} {xs : List V} (e : Same H H') (h : SqT K H a xs) : SqT K H' a xs := by
  rcases h with (h | ⟨o, h⟩) | h
  · exact .inl (.inl (e _ _ h))
  · exact .inl (.inr ⟨o, e _ _ h⟩)
  · exact .inr h
mutual
theorem Dp.same {K : PySem.W.Frag} {H H' : Hp} (e : Same H H') : ∀ (d : PyData) (v : V), Dp K H v d → Dp K H' v d
  | .none, _, h => by cases h; exact .non
  | .bool _, _, h => by cases h; exact .bl _
  | .int _, _, h => by cases h; exact .int _
  | .str _, _, h => by cases h; exact .str _
  | .list ds, _, h => by
    cases h with
    | lst s a => exact .lst (L2.Same.seq e s) (DpAll.same e ds _ a)
  | .tuple ds, _, h => by
    cases h with
    | tup s a => exact .tup (Same.tup e s) (DpAll.same e ds _ a)
  | .dict _, _, h => by cases h
theorem DpAll.same {K : PySem.W.Frag} {H H' : Hp} (e : Same H H') : ∀ (ds : List PyData) (vs : List V), DpAll K H vs ds → DpAll K H' vs ds
  | [], _, h => by cases h; exact .nil
  | d :: ds, _, h => by
    cases h with
    | cons a b => exact .cons (Dp.same e d _ a) (DpAll.same e ds _ b)
end
theorem Dd.same {K : PySem.W.Frag} {H H' : Hp} (e : Same H H') {v : V} {d : PyData} (h : Dd K H v d) : Dd K H' v d := by
  cases h with
  | dat a n => exact .dat (Dp.same e _ _ a) n
  | dct a n => exact .dct (e _ _ a) n
end My

set_option maxHeartbeats 4000000
/-! Exceptions of own classes over ValueError as values: made by position and by name, their fields, isinstance. -/
namespace MyX
open PySem PySem.W PySem.Calls PyProof.Rows PySem.HandSPX
open Builtin Builtin.ObjectAttr
section
variable {M : Model} {prog : Program} {w : World} {A : Around} {E : Value → Shared → Prop} {R : Result → Shared → Prop} {h : Heap} {g : Array GenState} {d : Drawn} {t : Nat} {os : OsState}
variable {nm q : Str} {C N : Addr} {bs bm bmB : List Value} {hdct : Bool} {sn : List Str} {sub : List Value} {ab : Bool} {col : Option Bool} {dd : Option Addr} {k0 k1 k2 k3 k5 : Option Value} {B newId initId : String} {key : Str} {val : Value}
theorem check_type_kw {Q : Unit → Shared → Prop} (hC : h.get? C = some (excClassObj nm q C N bs bm hdct sn sub ab col dd k0 k1 k2 k3 k5 newId)) (z : Q () ⟨h, g, d, t, os⟩) :
    wpAny M A (checkBuiltinCall "type.__call__" ⟨[.ref C], [(key, val)]⟩) Q E ⟨h, g, d, t, os⟩ := by
  have e3 := tc_sub
  have ty : (⟨h, g, d, t, os⟩ : Shared).TypeIs (.ref C) "type" := ⟨_, hC, rfl⟩
  simp only [checkBuiltinCall, tc_kind, tc_split]
  repeat (any_goals (first
    | assumption
    | with_reducible refine wpAny_loadPart_at hC ?_
    | with_reducible refine wpAny_onRaise ?_
    | with_reducible refine wpAny_map ?_
    | wp_step))
theorem check_new_kw (F : ExcBaseFacts B newId initId bmB) (hT : ∀ X : String, bm.contains (.type X) = bmB.contains (.type X)) {Q : Unit → Shared → Prop}
    (hC : h.get? C = some (excClassObj nm q C N bs bm hdct sn sub ab col dd k0 k1 k2 k3 k5 newId)) (z : Q () ⟨h, g, d, t, os⟩) : wpAny M A (checkBuiltinCall newId ⟨[.ref C], [(key, val)]⟩) Q E ⟨h, g, d, t, os⟩ := by
  have hc : (Value.ref C :: bm).contains (.type B) = true := by rw [List.contains_cons, hT, F.hasB, Bool.or_true]
  have ns := F.noStar
  simp only [checkBuiltinCall, F.newKind, F.newSplit, F.newRow]
  repeat (first
    | refine wpAny_loadPart_at hC ?_
    | (refine wpAny_isSubtype_exc hC ?_; rw [hc])
    | refine wpAny_staticBase_exc hC ?_
    | refine wpAny_madeBy_exc hC ?_
    | simp only [bne_self_eq_false, Bool.false_eq_true, if_false]
    | wp_step)
  exact z
theorem new_kw (F : ExcBaseFacts B newId initId bmB) (hT : ∀ X : String, bm.contains (.type X) = bmB.contains (.type X))
    (hC : h.get? C = some (excClassObj nm q C N bs bm hdct sn sub ab col dd k0 k1 k2 k3 k5 newId))
    (z : R (.ok (.ret (.ref (h.objs.size + 1)))) ⟨(h.push (kdv_tup [])).push (excO C h.objs.size), g, d, t, os⟩) :
    codeAny (model prog w) A (.builtin newId ⟨[.ref C], [(key, val)]⟩) R ⟨h, g, d, t, os⟩ := by
  have he := F.ends
  have c1 : (Value.ref C :: bm).contains (.type B) = true := by rw [List.contains_cons, hT, F.hasB, Bool.or_true]
  have c2 : (Value.ref C :: bm).contains (.type "AttributeError") = false := by
    rw [List.contains_cons, hT, F.noAttr]
    rfl
  have c3 : (Value.ref C :: bm).contains (.type "NameError") = false := by
    rw [List.contains_cons, hT, F.noName]
    rfl
  refine codeAny_builtinAt F.entry ?_
  unfold Builtin.«BaseException.__new__»
  refine PySem.wpAt_bind ?_
  show PySem.wpAt _ _ _ (stack >>= _) _ _ _
  refine PySem.wpAt_bind (PySem.wpAt_stack fun p below => PySem.wpAt_of_wpAny ?_)
  wp_walk
  refine PySem.wpAt_of_wpAny ?_
  rw [F.owner]
  repeat (first
    | with_reducible refine wpAny_madeHere_exc F.canon hC ?_
    | with_reducible refine wpAny_loadPart_at hC ?_
    | (with_reducible refine wpAny_isSubtype_exc hC ?_; first | rw [c1] | rw [c2] | rw [c3])
    | wp_step)
  show R _ _
  rw [Heap.size_push]
  exact z
theorem type_call_kw (F : ExcBaseFacts B newId initId bmB) (hT : ∀ X : String, bm.contains (.type X) = bmB.contains (.type X)) {fI : Addr} {Q : Fin → Shared → Prop}
    (hC : h.get? C = some (excClassObj nm q C N bs bm hdct sn sub ab col dd k0 k1 k2 k3 k5 newId))
    (hi : Looks (model prog w) h (typeLookup (.ref C) "__init__") (some (.ref fI))) (hb : ∀ self, Looks (model prog w) h (bindSpecial (.ref fI) self) (.ref fI, [self]))
    (z : codeAny (model prog w) A (.call (.ref fI) ⟨[.ref (h.objs.size + 1)], [(key, val)]⟩)
      (fun r s' => match r with | .ok (.ret v) => v = .none ∧ Q (.done (.ret (.ref (h.objs.size + 1)))) s' | .ok _ => False | .error e => E e s')
      ⟨(h.push (kdv_tup [])).push (excO C h.objs.size), g, d, t, os⟩) :
    wpAny (model prog w) A (Builtin.«type.__call__» ⟨[.ref C], [(key, val)]⟩) Q E ⟨h, g, d, t, os⟩ := by
  repeat (first
    | with_reducible refine wpAny_loadPart_at hC ?_
    | with_reducible refine wpAny_madeBy_exc hC ?_
    | wp_step)
  refine codeAny_call_builtin_code (Code.quiet_builtin _ F.quiet) (check_new_kw F hT hC ?_)
  refine new_kw F hT hC ?_
  show wpAny _ _ _ _ _ _
  have k : ∀ b o, h.get? b = some o → ((h.push (kdv_tup [])).push (excO C h.objs.size)).get? b = some o := fun b o e => Heap.get?_push_of_some _ (Heap.get?_push_of_some _ e)
  have hC2 := k _ _ hC
  have at1 : ((h.push (kdv_tup [])).push (excO C h.objs.size)).get? (h.objs.size + 1) = some (excO C h.objs.size) := by heap_get
  have cc : (Value.ref C :: bm).contains (.ref C) = true := by simp
  have i1 := hi.keeps k
  have b1 := (hb (.ref (h.objs.size + 1))).keeps k
  unfold isInstance
  repeat (first
    | with_reducible refine wpAny_loadPart_at at1 ?_
    | (with_reducible refine wpAny_isSubtype_exc hC2 ?_; rw [cc])
    | wp_step)
  show wpAny _ _ (typeLookup (.ref C) _) _ _ _
  refine i1.at ?_
  refine wpAny_holding (wpAny_bind (b1.at ?_))
  refine wpAny_bind (wpAny_call (codeAny_mono z ?_))
  rintro (e | (v | _ | _ | _)) s' y <;> first | exact y | exact y.elim | skip
  all_goals first
    | (obtain ⟨rfl, y⟩ := y; first | exact wpAny_pure (wpAny_pure y) | (wp_walk; exact y))
    | exact y
theorem call_kw (F : ExcBaseFacts B newId initId bmB) (hT : ∀ X : String, bm.contains (.type X) = bmB.contains (.type X)) {fI : Addr}
    (hC : h.get? C = some (excClassObj nm q C N bs bm hdct sn sub ab col dd k0 k1 k2 k3 k5 newId))
    (hi : Looks (model prog w) h (typeLookup (.ref C) "__init__") (some (.ref fI))) (hb : ∀ self, Looks (model prog w) h (bindSpecial (.ref fI) self) (.ref fI, [self]))
    (z : codeAny (model prog w) (A.under (.builtin "type.__call__" ⟨[.ref C], [(key, val)]⟩)) (.call (.ref fI) ⟨[.ref (h.objs.size + 1)], [(key, val)]⟩) (InitBack (h.objs.size + 1) R)
      ⟨(h.push (kdv_tup [])).push (excO C h.objs.size), g, d, t, os⟩) :
    codeAny (model prog w) A (.call (.ref C) ⟨[], [(key, val)]⟩) R ⟨h, g, d, t, os⟩ := by
  have e1 := tc_lookup
  have e2 := tc_bind (.ref C)
  have ty : (⟨h, g, d, t, os⟩ : Shared).TypeIs (.ref C) "type" := ⟨_, hC, rfl⟩
  refine codeAny_of_tree ?_
  show wpAny _ _ (callAny (.ref C) _) _ _ _
  repeat (any_goals (first
    | assumption
    | with_reducible refine wpAny_loadPart_at hC ?_
    | wp_step))
  refine ⟨rfl, ?_⟩
  refine codeAny_call_builtin_at (Code.quiet_builtin _ (by decide +kernel)) entry_typeCall (check_type_kw hC (type_call_kw F hT hC hi hb ?_))
  refine codeAny_mono z ?_
  rintro (e | (v | _ | _ | _)) s' y <;> exact y
end
end MyX

set_option maxHeartbeats 4000000
/-! The layer's rules for exceptions as values. -/
namespace My
open PySem PySem.Spec PyProof.Rows L2

/-- an exception's own __init__: one field -/
def spInit (C : Addr) (fld : Str) : Sp := fun xs H Q _ => ∃ (a : Addr) (v : V), xs = [.ref a, v] ∧ H a = some (exo a C none) ∧
  ∀ d, H d = none → d ≠ a → Q .non (upd (upd H d (exd d [(fld, v)])) a (exo a C (some d)))
/-- what the class at C, its __init__ at fI must be -/
structure XCls (K : PySem.W.Frag) (C fI : Addr) (fld : Str) : Prop where
  ox : OexC K C
  iC : PySem.W.findIn K (.ref C) "__init__" = some (some (.ref fI))
  tI : PySem.W.typeIn K (.ref fI) = some (.type "function")
  xf : XfC K C
  no : PySem.W.findIn K (.ref C) fld = some none
/-- a new exception of the class at C, its dict with the one field -/
def NewX (C : Addr) (fld : Str) (v : V) (H : Hp) (Q : VK) : Prop := ∀ a d, H a = none → H d = none → d ≠ a → Q (.ref a) (upd (upd (upd H a (exo a C none)) d (exd d [(fld, v)])) a (exo a C (some d)))
def tMkX (C : Addr) (fld : Str) (ta : TA) : TE := fun σ H Q => ta σ H fun vs H1 => ∃ v, vs = [v] ∧ NewX C fld v H1 Q
section
variable {X : Cx} {nm : Str} {C fI : Addr} {k : Nat} {fd : FuncData} {fld : Str} {e : Expr} {te : TE} {ta : TA} {p pos kpos : Pos} {pins : List (Addr × Obj)} {σ : L2.St} {H : Hp}
theorem mkx_start {hp : Heap} {g : Array GenState} {dr : Drawn} {tk : Nat} {os : OsState} {us : List Value} {v : V} {Q : VK} (I : Inv X pins σ H ⟨hp, g, dr, tk, os⟩) (q : NewX C fld v H Q) :
    Inv X pins σ (upd H (hp.objs.size + 1) (exo (hp.objs.size + 1) C none)) ⟨(hp.push (PySem.W.kdv_tup us)).push (PySem.HandSPX.excO C hp.objs.size), g, dr, tk, os⟩ ∧
    spInit C fld [.ref (hp.objs.size + 1), v] (upd H (hp.objs.size + 1) (exo (hp.objs.size + 1) C none)) (fun r H2 => r = .non ∧ Q (.ref (hp.objs.size + 1)) H2) E0 := by
  have big : hp.objs.size ≤ hp.objs.size + 1 := Nat.le_succ _
  have none1 : H (hp.objs.size + 1) = none := I.hok.fresh big
  have here : ((hp.push (PySem.W.kdv_tup us)).push (PySem.HandSPX.excO C hp.objs.size)).get? (hp.objs.size + 1) = some (PySem.HandSPX.excO C hp.objs.size) := by heap_get
  refine ⟨I.laid (fun b o e => Heap.get?_push_of_some _ (Heap.get?_push_of_some _ e)) big (exo_ok here), _, v, rfl, upd_same, ?_⟩
  intro d hd hne
  rw [upd_ne hne] at hd
  exact ⟨rfl, q _ d none1 hd hne⟩
/-- behind __init__ -/
theorem mkx_end {s : Shared} {n : Addr} {Q : VK} (I : Inv X pins σ H s) {r : Result} {s' : Shared} (h : CR CX0 X.stack X.prog X.w H s (fun r H2 => r = .non ∧ Q (.ref n) H2) E0 r s') :
    PySem.W.InitBack n (fun r s' => match r with | .ok (.ret v) => EP X pins σ Q v s' | .ok _ => False | .error e => X.xe e s') r s' := by
  rcases r with er | fl
  · exact False.elim h
  · cases fl with
    | ret u =>
      obtain ⟨v, H', J, rv, ev, q⟩ := I.after h
      subst ev
      exact ⟨rv, .ref n, H', J, rfl, q⟩
    | next => exact False.elim h
    | brk => exact False.elim h
    | cont => exact False.elim h
theorem pe_mkX (T : XCls X.K C fI fld) (G : FnOk X.prog X.w X.K X.mg X.base CX0 k fI fd ["self", fld] (spInit C fld)) (hr : Room (k + 1) X.A) (hb : Binds X.K fd ["self", fld] []) (hg : Gl X nm) (hm : X.mg nm = some (.ref C)) (ha : PA X [e] ta)
    (hdb : (nm == ("__debug__" : Str)) = false := by decide) (hs : starEach [e] X.env = (false, eval e X.env) :: starEach [] X.env := by rfl) (hpl : (backTo pos (starEach [] X.env)).any (·.1) = false := by rfl) :
    PE X (.Call (.Name nm p) [e] [] pos) (tMkX C fld ta) := by
  refine ⟨?_⟩
  intro pins s σ H Q I h
  obtain ⟨cn, q, N, bs, bm, sn, sub, ab, col, dd, k0, k1, k2, k3, k5, hC, hbm⟩ := T.ox.cls
  refine wpAny_Call_Name_kw (ld_glob I hg hm ?_ hdb)
  refine PySem.W.callWith_K (h₀ := X.base) I.ok.mod.kin T.ox.kC (thn (ha.run pos pins s σ H _ I h) ?_) hs hpl
  rintro us s1 ⟨vs, H1, I1, r, v, rfl, q1⟩
  refine ⟨I1.kIn, ?_⟩
  obtain ⟨u, rfl, ru⟩ := vals1 r
  obtain ⟨hp, g, dr, tk, os⟩ := s1
  obtain ⟨I2, h2⟩ := mkx_start (us := [u]) I1 q1
  show wpAny _ _ (call (.ref C) [u]) _ _ _
  have bd := hb _ [.ref (hp.objs.size + 1), u] I2.kIn rfl
  refine wpAny_call (PySem.HandSPX.call_own PySem.F.excBase_ValueError (fun Y => PySem.HandSPX.refsVE_contains Y bm hbm) (I1.kIn _ _ hC) (PySem.W.looks_findIn I1.kIn T.iC) (fun self => PySem.W.bind_fn I1.kIn self T.tI) (by show 1 ≤ sizeLine; decide) ?_)
  refine codeAny_mono (G.run _ X.stack _ _ ⟨[.ref (hp.objs.size + 1), u], []⟩ [.ref (hp.objs.size + 1), u] [.ref (hp.objs.size + 1), v] _ E0 (hr.make C [u] []) (I2.env0.make C [u] []) bd (.cons rfl (.cons ru .nil)) h2) ?_
  intro r s' hq
  exact mkx_end I2 hq
/-- the same by the field's name -/
theorem pe_mkXK {tk : TA} (T : XCls X.K C fI fld) (G : FnOk X.prog X.w X.K X.mg X.base CX0 k fI fd ["self", fld] (spInit C fld)) (hr : Room (k + 1) X.A) (hb : ∀ (s : Shared) (a u : Value), BindsTo s fd ⟨[a], [(fld, u)]⟩ ([("self" : Str), fld].zip [a, u])) (hg : Gl X nm) (hm : X.mg nm = some (.ref C))
    {kws : List Keyword} (hk : PK X kws tk) (hall : (backToKw pos (keywordEach kws X.env)).all (·.1.isSome) = true := by rfl) (hks : (backToKw pos (keywordEach kws X.env)).filterMap (·.1) = [fld] := by rfl)
    (hdb : (nm == ("__debug__" : Str)) = false := by decide) (hpl : ((backTo pos (starEach [] X.env)).any (·.1) || (backToKw pos (keywordEach kws X.env)).any (·.1.isNone)) = false := by rfl) :
    PE X (.Call (.Name nm p) [] kws pos) (tMkX C fld tk) := by
  refine ⟨?_⟩
  intro pins s σ H Q I h
  obtain ⟨cn, q, N, bs, bm, sn, sub, ab, col, dd, k0, k1, k2, k3, k5, hC, hbm⟩ := T.ox.cls
  refine wpAny_Call_Name_kw (ld_glob I hg hm ?_ hdb)
  refine PySem.W.callWith_KW0 (h₀ := X.base) I.ok.mod.kin T.ox.kC hall (thn (hk.run pos pins s σ H _ I h) ?_) hpl
  rintro us s1 ⟨vs, H1, I1, r, v, rfl, q1⟩
  refine ⟨I1.kIn, ?_⟩
  obtain ⟨u, rfl, ru⟩ := vals1 r
  rw [hks]
  obtain ⟨hp, g, dr, tk, os⟩ := s1
  obtain ⟨I2, h2⟩ := mkx_start (us := []) I1 q1
  show wpAny _ _ (call (.ref C) [] [(fld, u)]) _ _ _
  refine wpAny_call (MyX.call_kw PySem.F.excBase_ValueError (fun Y => PySem.HandSPX.refsVE_contains Y bm hbm) (I1.kIn _ _ hC) (PySem.W.looks_findIn I1.kIn T.iC) (fun self => PySem.W.bind_fn I1.kIn self T.tI) ?_)
  refine codeAny_mono (G.run _ X.stack _ _ ⟨[.ref (hp.objs.size + 1)], [(fld, u)]⟩ [.ref (hp.objs.size + 1), u] [.ref (hp.objs.size + 1), v] _ E0 (hr.make C [] [(fld, u)]) (I2.env0.make C [] [(fld, u)]) (hb _ _ _) (.cons rfl (.cons ru .nil)) h2) ?_
  intro r s' hq
  exact mkx_end I2 hq
/-- C(), an own exception class without an __init__ -/
theorem pe_mkX0 {bmB : List Value} {B newId initId : String} (F : ExcBaseFacts B newId initId bmB) (q : PySem.W.excIn X.K C bmB newId = true) (gC : X.mg nm = some (.ref C)) (kC : PySem.W.keepIn X.K (.ref C) = true) (hg : Gl X nm) (hdb : (nm == ("__debug__" : Str)) = false := by decide) :
    PE X (.Call (.Name nm p) [] [] pos) (fun _ H Q => ∀ a, H a = none → Q (.ref a) (upd H a (ExO (.ref C) a))) := by
  refine ⟨?_⟩
  intro pins s σ H Q I h
  refine wpAny_Call_Name_kw (ld_glob I hg gC ?_ hdb)
  refine PySem.W.callWith_K0 I.kIn kC ?_
  show wpAny _ _ (call (.ref C) []) _ _ _
  obtain ⟨bm, N, nm, qn, bs, hdct, sn, sub, ab, col, dd, k0, k1, k2, k3, k5, mN, hC, hN, hni, T⟩ := exc_obj I.kIn q
  refine wpAny_call_exc_subT F T hC hN hni ?_ (by show 0 ≤ sizeLine; decide)
  intro h' a hm
  have hn : H a = none := I.hok.gone hm.new
  obtain ⟨t, ht, _, _⟩ := hm.there
  exact ⟨.ref a, _, I.laidN hm.keeps hm.new hn (exO_ok ht ⟨rfl, rfl⟩ rfl rfl rfl (show 4 < 6 by decide)), rfl, h a hn⟩

/-- e.f, e such an exception -/
def tXget (K : PySem.W.Frag) (f : Str) (te : TE) : TE := fun σ H Q => te σ H fun x H1 => ∃ (a C d : Addr) (fs : List (Str × V)) (v : V), x = .ref a ∧ H1 a = some (exo a C (some d)) ∧ H1 d = some (exd d fs) ∧ XfC K C ∧
  PySem.W.findIn K (.ref C) f = some none ∧ fs.lookup f = some v ∧ Q v H1
theorem pe_xget {f : Str} (he : PE X e te) (hb : attributeBase e f X.env (eval e X.env) = eval e X.env := by rfl) : PE X (.Attribute e f pos) (tXget X.K f te) := by
  refine ⟨?_⟩
  intro pins s σ H Q I h
  refine attr_of hb (thn (he.run pins s σ H _ I h) ?_)
  rintro u s1 ⟨x, H1, I1, rx, a, C, d, fs, v, rfl, ha, hd, T, no, l, q⟩
  obtain rfl : u = Value.ref a := rx
  obtain ⟨t1, oa⟩ := exo_at I1.hok ha
  obtain ⟨mA, ns, rel⟩ := exd_at I1.hok hd
  obtain ⟨od, hod, hl⟩ := lookIn_ns ns
  obtain ⟨u, hu, ru⟩ := RelO.some_of (v := v) (o := mA f) (by rw [← l]; exact rel f)
  have J : PySem.W.InstAt s1.heap a { cls := .ref C, dict := some d, data := .fields #[.ref t1, .none, .none, .none, .bool false, .none] } C (some od) := ⟨oa, rfl, rfl, hod⟩
  exact HandSPX.exc_get I1.kIn J T.ga T.gg T.exC (PySem.W.findObj_own T.hdC no rfl (by rw [hl, hu])) (handed_of ru) ⟨v, H1, I1.tok _, ru, q⟩

/-- at a: an exception of the class at C -/
def IsX (H : Hp) (a C : Addr) : Prop := (∃ d fs, H a = some (exo a C (some d)) ∧ H d = some (exd d fs)) ∨ H a = some (ExO (.ref C) a)
/-- what isinstance asks of such a class -/
structure XIs (K : PySem.W.Frag) (C : Addr) : Prop where
  cl : (PySem.W.clsIn K C).isSome = true
  xf : XfC K C
  ha : PySem.W.findIn K (.ref C) "__class__" = some (some (.builtin "object.__class__"))
  hn : PySem.W.specialIn K (.builtin "object.__class__") "__get__" = some (some (.builtin "getset_descriptor.__get__"))
  ht : PySem.W.takesIn K (.builtin "object.__class__") = some true
  hm : PySem.W.mroIn K C (.type "object") = some true
def rIsX (K : PySem.W.Frag) : List V → Hp → VK → Prop := fun xs H Q => ∃ (a C : Addr) (c : V) (u : Value) (b : Bool), xs = [.ref a, c] ∧ ClsV c u ∧ IsX H a C ∧ XIs K C ∧ PySem.W.kitOne K (.ref C) u = some b ∧ Q (.bl b) H
theorem call_isX : CallR X (.builtin "isinstance") (rIsX X.K) := by
  rintro pins s σ H xs us Q I r ⟨a, C, c, u, b, rfl, cv, hx, T, kit, q⟩
  obtain ⟨u1, u2, rfl, r1, r2⟩ := vals2 r
  obtain rfl : u2 = u := cv.eq r2
  obtain rfl : u1 = Value.ref a := r1
  have go : ∀ (ox : Obj) (od : Option Obj), PySem.W.InstAt s.heap a ox C od → wpAny (model X.prog X.w) X.A (call (.builtin "isinstance") [.ref a, u2]) (EP X pins σ Q) X.xe s := fun ox od J =>
    PySem.W.kia_one (PySem.W.kitx_exc T.cl T.xf.ga T.xf.gg T.xf.exC T.ha T.hn T.ht T.hm) I.kIn J kit (fun z => nomatch z) fun tk => ⟨.bl b, H, I.tok tk, rfl, q⟩
  rcases hx with ⟨d, fs, ha, hd⟩ | ha
  · obtain ⟨t1, oa⟩ := exo_at I.hok ha
    obtain ⟨mA, ⟨od, es, ep, hod, _⟩, _⟩ := exd_at I.hok hd
    exact go _ (some od) ⟨oa, rfl, rfl, hod⟩
  · have z : ObjOk X.prog X.w H s.heap a (ExO (.ref C) a) := I.hok a _ ha
    obtain ⟨⟨oe, vs, ho, ⟨z1, z2⟩, hd, _⟩, _⟩ := z
    refine go oe none ⟨ho, z1, ?_, ?_⟩
    · unfold PySem.W.notCls
      rw [hd]
    · rw [z2]
      trivial
end
end My

set_option maxHeartbeats 4000000
/-! The law's draws: the well, a draw, a pick, sameness of what is shown. -/
namespace My
open PySem PySem.Spec PyProof.Rows L2
def top (i : Nat) : Stmt := PySem.Challenge.pw_perfectgraphs_k01_errors_each_of_its_own.main.body.getD i (.Pass ⟨0, 0, 0, 0⟩)
abbrev sWell : Stmt := top 27
abbrev sDraw : Stmt := top (27 + 1)
abbrev sPick : Stmt := top (27 + 2)
abbrev sSame : Stmt := top (27 + 3)
theorem scWell : FnScope ["script", "turn", "cell", "mixed", "each"] ["script", "turn"] (defScope sWell) := ⟨rfl, rfl, rfl, by decide +kernel, rfl, by decide +kernel, by decide +kernel⟩
theorem scDraw : FnScope ["well", "many", "figure", "mixed"] ["well", "many"] (defScope sDraw) := ⟨rfl, rfl, rfl, by decide +kernel, rfl, by decide +kernel, by decide +kernel⟩
theorem scPick : FnScope ["well", "some"] ["well", "some"] (defScope sPick) := ⟨rfl, rfl, rfl, by decide +kernel, rfl, by decide +kernel, by decide +kernel⟩
theorem scSame : FnScope ["told", "due"] ["told", "due"] (defScope sSame) := ⟨rfl, rfl, rfl, by decide +kernel, rfl, by decide +kernel, by decide +kernel⟩

theorem same_new {H : Hp} {p : Addr} (h : H p = none) (o : HO) : Same H (upd H p o) := fun b u q => by rw [upd_ne (ne_of_none q h)]; exact q
theorem small {n : Nat} (h : n ≤ 1000) : n ≤ sizeLine := Nat.le_of_lt (small1000 h)
theorem iteB {c : Bool} {A B : Prop} (h1 : c = true → A) (h2 : c = false → B) : if c = true then A else B := by
  cases c with
  | true => exact iteT (h1 rfl)
  | false => exact iteF (h2 rfl)
/-- what follows one of two ways, once: the value goes on with K -/
theorem join {i : Nat} {σ : L2.St} {N : L2.St → Hp → Prop} {H : Hp} {G : Prop} {R : V → Prop} (h : (∀ v, R v → gName i v σ H N) → G) (g : ∀ v, R v → gName i v σ H N) : G := h g
/-- a well at p -/
def Wl (H : Hp) (p : Addr) : Prop := ∃ a b c : Int, H p = some (.lst [.int a, .int b, .int c])
/-- all but p is as it was -/
def But (p : Addr) (H H' : Hp) : Prop := ∀ q o, q ≠ p → H q = some o → H' q = some o
theorem But.refl (p : Addr) (H : Hp) : But p H H := fun _ _ _ e => e
theorem But.trans {p : Addr} {H1 H2 H3 : Hp} (x : But p H1 H2) (y : But p H2 H3) : But p H1 H3 := fun q o n e => y q o n (x q o n e)
theorem But.new {p q : Addr} {H : Hp} {o : HO} (n : H q = none) : But p H (upd H q o) := fun b u _ e => by rw [upd_ne (ne_of_none e n)]; exact e
theorem But.put {p : Addr} {H : Hp} {o : HO} : But p H (upd H p o) := fun b u n e => by rw [upd_ne n]; exact e
theorem But.of {p : Addr} {H H' : Hp} (s : Same H H') : But p H H' := fun b u _ e => s b u e
/-- the heap without p -/
def hide (p : Addr) (H : Hp) : Hp := fun q => if q = p then none else H q
theorem hide_ne {p q : Addr} {H : Hp} (h : q ≠ p) : hide p H q = H q := if_neg h
theorem hide_at {p : Addr} {H : Hp} : hide p H p = none := if_pos rfl
theorem hide_some {p q : Addr} {H : Hp} {o : HO} (h : hide p H q = some o) : q ≠ p ∧ H q = some o := by
  by_cases e : q = p
  · rw [e, hide_at] at h
    cases h
  · rw [hide_ne e] at h
    exact ⟨e, h⟩
theorem hide_sub (p : Addr) (H : Hp) : Same (hide p H) H := fun q o h => (hide_some h).2
theorem But.hide {p : Addr} {H H' : Hp} (h : But p H H') : Same (hide p H) (hide p H') := fun q o e => by
  obtain ⟨n, e⟩ := hide_some e
  rw [hide_ne n]
  exact h q o n e
/-- fit to be shown -/
def Fine (d : PyData) : Prop := d.showable = true ∧ d.depth ≤ 60 ∧ d.shown.length ≤ sizeLine
instance (d : PyData) : Decidable (Fine d) := inferInstanceAs (Decidable (_ ∧ _ ∧ _))

def spWell (K : PySem.W.Frag) : Sp := fun vs H Q _ => ∃ (a : Addr) (ns : List Int) (t : Nat), vs = [.ref a, .int (t : Int)] ∧ SqL K H a (ns.map V.int) ∧ ns.length ≤ 63 ∧ t ≤ 2 ∧
  ∀ (H' : Hp) (p : Addr), Same H H' → H p = none → Wl H' p → Q (.ref p) H'
def spDraw : Sp := fun vs H Q _ => ∃ (p : Addr) (m : Int), vs = [.ref p, .int m] ∧ Wl H p ∧ 0 < m ∧ m < 1000000 ∧
  ∀ (r : Int) (H' : Hp), 0 ≤ r → r < m → But p H H' → Wl H' p → Q (.int r) H'
/-- from a tuple that stands beside the well -/
def spPick (K : PySem.W.Frag) : Sp := fun vs H Q _ => ∃ (p t : Addr) (xs : List V), vs = [.ref p, .ref t] ∧ Wl H p ∧ SqT K (hide p H) t xs ∧ 0 < xs.length ∧ xs.length < 1000 ∧
  ∀ (i : Nat) (v : V) (H' : Hp), xs[i]? = some v → But p H H' → Wl H' p → Q v H'
def spSame (K : PySem.W.Frag) : Sp := fun vs H Q _ => ∃ (x y : V) (d e : PyData), vs = [x, y] ∧ Dd K H x d ∧ Dd K H y e ∧ Fine d ∧ Fine e ∧ Q (.bl (decide (V.str d.shown = V.str e.shown))) H
section
variable {P : Program} {w : World} {K : PySem.W.Frag} {mg : Str → Option Value} {base : Heap} {f fD : Addr} {fd dD : FuncData}
theorem ok_well (F : L2.Fun K "_law_well" "_law_well" sWell f fd) (ml : mg "len" = none) (mi : mg "int" = none) (ma : mg "abs" = none) : FnOk P w K mg base CX0 1 f fd ["script", "turn"] (spWell K) := by
  refine F.ok scWell (fun vs H Q E h => ?_) (fun cdv A outer s H vs Q E hr h => ?_)
  · obtain ⟨a, ns, t, rfl, _⟩ := h
    rfl
  obtain ⟨a, ns, t, rfl, hS, h63, h2, q⟩ := h
  refine ⟨_, pss_cons (ps_set (i := 2) scWell.nd rfl (.inl rfl) (pe_ifExp (pt_cmpR op_lt (pv 1) (pe_callB call_len_seq (by rfl) ml PySem.boot_len (pa_cons (pv 0) pa_nil)) (nomark _))
        (pe_callTy call_int1 (by rfl) mi (by decide +kernel) (pa_cons (pe_ix ix_list (pv 0) (pv 1) (fun _ _ => rfl)) pa_nil))
        (pe_op op_add (pe_op op_mul pe_int (pv 1)) pe_int)))
    (pss_cons (ps_set (i := 3) scWell.nd rfl (.inl rfl) (pe_op op_add pe_int (pe_op op_mul pe_int (pv 1))))
    (pss_cons (ps_for PassesOwn.never rfl (pi_list (pe_slice sl_list (pv 0) po_none (po_some pe_int))) (pg_name (i := 4) scWell.nd rfl (.inl rfl))
      (pss_one (ps_set (i := 3) scWell.nd rfl (.inl rfl) (pe_op op_mod (pe_callTy call_int1 (by rfl) mi (by decide +kernel) (pa_cons (pe_op op_add (pe_op op_add (pe_op op_mul (pv 3) pe_int)
        (pe_op op_mod (pe_callTy call_int1 (by rfl) mi (by decide +kernel) (pa_cons (pv 4) pa_nil)) pe_int)) pe_int) pa_nil)) pe_int))))
    (pss_cons (ps_set (i := 3) scWell.nd rfl (.inl rfl) (pe_op op_mod (pe_callTy call_int1 (by rfl) mi (by decide +kernel) (pa_cons (pe_op op_add (pe_op op_add (pe_op op_mul (pv 3) pe_int)
        (pe_op op_mul (pe_op op_mod (pe_callTy call_int1 (by rfl) mi (by decide +kernel) (pa_cons (pv 2) pa_nil)) pe_int) pe_int)) pe_int) pa_nil)) pe_int))
    (pss_one (ps_ret (pe_lst (pa_cons (pe_ifExp (PW.pt (pw_or (pt_cmpR op_lt (pv 2) pe_int (nomark _)) (pw_or1 (pt_cmpR op_ge (pv 2) (pe_op op_pow pe_int pe_int) (nomark _)))))
      (pe_callB call_abs (by rfl) ma (by decide +kernel) (pa_cons (pv 2) pa_nil)) pe_int) (pa_cons (pv 3) (pa_cons pe_int pa_nil))))))))), ?_⟩
  have hl : (ns.map V.int).length = ns.length := List.length_map _
  refine ⟨_, rfl, _, rfl, a, _, rfl, .inl hS, _, _, rfl, rfl, _, rfl, ?_⟩
  refine' join (i := 2) (R := fun v => ∃ n : Int, v = V.int n) (fun go => ?_) ?_
  rotate_left 3
  · refine iteB (fun c => ?_) (fun c => ?_)
    · have c1 : ((t : Nat) : Int) < (((ns.map V.int).length : Nat) : Int) := of_decide_eq_true c
      have c2 : t < ns.length := by rw [hl] at c1; omega
      have at1 : atI (ns.map V.int) ((t : Nat) : Int) = some (.int ns[t]) := atI_nat (by rw [List.getElem?_map, List.getElem?_eq_getElem c2] <;> rfl)
      exact ⟨_, rfl, _, rfl, a, _, _, _, rfl, rfl, hS, at1, .inl ⟨_, rfl, go _ ⟨_, rfl⟩⟩⟩
    · exact ⟨_, rfl, _, _, rfl, rfl, .inl ⟨by decide, by decide⟩, _, _, rfl, rfl, go _ ⟨_, rfl⟩⟩
  rintro _ ⟨cell, rfl⟩
  refine ⟨_, rfl, _, _, rfl, rfl, .inl ⟨by decide, by decide⟩, _, _, rfl, rfl, ?_⟩
  refine ⟨_, rfl, 9, rfl, a, _, rfl, hS, fun p np => ?_⟩
  refine ⟨p, rfl, ⟨_, SqL.of upd_same⟩, for_list (K := K) (a := p) (xs := cutV (ns.map V.int) none (some 9)) (fun i σ H' => ∃ (m : Int) (e : Option V), σ = [some (.ref a), some (.int (t : Int)), some (.int cell), some (.int m), e] ∧ H' = upd H p (.lst (cutV (ns.map V.int) none (some 9)))) ⟨_, none, rfl, rfl⟩ ?_ ?_ ?_⟩
  · rintro i σ H' _ ⟨m, e, rfl, rfl⟩
    exact SqL.of upd_same
  · rintro i x σ H' hi ⟨m, e, rfl, rfl⟩
    obtain ⟨z, rfl⟩ : ∃ z, x = V.int z := by
      have mem := List.mem_of_getElem? hi
      unfold cutV at mem
      have mem2 := List.mem_of_mem_drop (List.mem_of_mem_take mem)
      obtain ⟨z, _, e⟩ := List.mem_map.mp mem2
      exact ⟨z, e.symm⟩
    refine ⟨_, rfl, _, _, rfl, rfl, .inr ⟨by decide, by decide⟩, _, rfl, .inl ⟨_, rfl, _, _, rfl, rfl, (show (0 : Int) < 2147483543 by decide), _, _, rfl, rfl, _, _, rfl, rfl, .inl ⟨_, rfl, _, _, rfl, rfl, (show (0 : Int) < 2147483629 by decide), ?_⟩⟩⟩
    exact ⟨_, _, rfl, rfl⟩
  rintro σ H' ⟨m, e, rfl, rfl⟩
  refine ⟨_, rfl, _, _, rfl, rfl, .inr ⟨by decide, by decide⟩, _, rfl, .inl ⟨_, rfl, _, _, rfl, rfl, (show (0 : Int) < 2147483543 by decide), _, _, rfl, rfl, .inr ⟨by decide, by decide⟩, _, _, rfl, rfl, _, _, rfl, rfl, .inl ⟨_, rfl, _, _, rfl, rfl, (show (0 : Int) < 2147483629 by decide), ?_⟩⟩⟩
  have fin : ∀ (x y : Int) (r : Addr), upd H p (.lst (cutV (ns.map V.int) none (some 9))) r = none → Q (.ref r) (upd (upd H p (.lst (cutV (ns.map V.int) none (some 9)))) r (.lst [.int x, .int y, .int 0])) := fun x y r nr =>
    q _ r ((same_new np _).trans (same_new nr _)) ((same_new np _).free nr) ⟨x, y, 0, upd_same⟩
  refine ⟨_, rfl, _, _, rfl, rfl, _, rfl, iteB (fun _ => iteT ?_) (fun _ => ⟨_, rfl, _, _, rfl, rfl, (by show (0 : Int) ≤ 15 ∧ (15 : Int) ≤ 1000000 ∧ (10 : Int).natAbs < 2 ^ 64; decide), _, _, rfl, rfl, _, rfl, iteB (fun _ => ?_) (fun _ => ?_)⟩)⟩
  · exact ⟨_, rfl, _, rfl, _, rfl, (by show 3 ≤ sizeLine; decide), fun r nr => fin _ _ r nr⟩
  · exact ⟨_, rfl, _, rfl, _, rfl, (by show 3 ≤ sizeLine; decide), fun r nr => fin _ _ r nr⟩
  · exact ⟨_, rfl, (by show 3 ≤ sizeLine; decide), fun r nr => fin _ _ r nr⟩
theorem ok_draw (F : L2.Fun K "_law_draw" "_law_draw" sDraw f fd) (md : mg "divmod" = none) (mi : mg "int" = none) : FnOk P w K mg base CX0 1 f fd ["well", "many"] spDraw := by
  refine F.ok scDraw (fun vs H Q E h => ?_) (fun cdv A outer s H vs Q E hr h => ?_)
  · obtain ⟨p, m, rfl, _⟩ := h
    rfl
  obtain ⟨p, m, rfl, ⟨a, b, c, hp⟩, m0, m1, q⟩ := h
  refine ⟨_, pss_cons (ps_if (pt_cmpR op_gt (pe_ix ix_list (pv 0) pe_int (fun _ _ => rfl)) pe_int (nomark _))
      (pss_cons (ps_asg (pe_callB call_divmod (by rfl) md (by decide +kernel) (pa_cons (pe_ix ix_list (pv 0) pe_int (fun _ _ => rfl)) (pa_cons (pv 1) pa_nil))) (pg_tup (by rfl) (pgs_cons (pg_sub (pv 0) pe_int set_list) (pgs_cons (pg_name (i := 2) scDraw.nd rfl (.inl rfl)) pgs_nil))))
        (pss_one (ps_ret (pv 2)))) pss_nil)
    (pss_cons (ps_asg (pe_op op_add (pe_ix ix_list (pv 0) pe_int (fun _ _ => rfl)) pe_int) (pg_sub (pv 0) pe_int set_list))
    (pss_cons (ps_set (i := 3) scDraw.nd rfl (.inl rfl) (pe_op op_mod (pe_callTy call_int1 (by rfl) mi (by decide +kernel) (pa_cons (pe_op op_add (pe_op op_add (pe_op op_mul (pe_ix ix_list (pv 0) pe_int (fun _ _ => rfl)) pe_int)
        (pe_op op_mul pe_int (pe_ix ix_list (pv 0) pe_int (fun _ _ => rfl)))) pe_int) pa_nil)) pe_int))
    (pss_cons (ps_asg (pe_op op_mod (pe_callTy call_int1 (by rfl) mi (by decide +kernel) (pa_cons (pe_op op_add (pe_op op_mul (pv 3) (pe_op op_add (pe_op op_mod (pe_callTy call_int1 (by rfl) mi (by decide +kernel) (pa_cons (pv 3) pa_nil)) pe_int) pe_int))
        (pe_ix ix_list (pv 0) pe_int (fun _ _ => rfl))) pa_nil)) pe_int) (pg_sub (pv 0) pe_int set_list))
    (pss_one (ps_ret (pe_op op_mod (pe_callTy call_int1 (by rfl) mi (by decide +kernel) (pa_cons (pe_op op_fdiv (pe_ix ix_list (pv 0) pe_int (fun _ _ => rfl)) pe_int) pa_nil)) (pv 1))))))), ?_⟩
  refine ⟨_, rfl, p, _, _, _, rfl, rfl, SqL.of hp, rfl, _, _, rfl, rfl, _, rfl, iteB (fun c1 => ?_) (fun _ => ?_)⟩
  · have a0 : a > 0 := of_decide_eq_true c1
    refine ⟨_, rfl, p, _, _, _, rfl, rfl, SqL.of hp, rfl, _, rfl, a, m, rfl, ⟨m0, by omega⟩, fun t nt => ?_⟩
    refine ⟨t, _, rfl, SqT.of upd_same, rfl, _, _, rfl, _, rfl, p, [.int a, .int b, .int c], _, 0, rfl, rfl, ?_, rfl, ?_⟩
    · rw [upd_ne (ne_of_none hp nt)]
      exact hp
    refine ⟨_, _, rfl, ⟨rfl, _, rfl, ?_⟩⟩
    exact q (a % m) _ (Int.emod_nonneg _ (by omega)) (Int.emod_lt_of_pos _ m0) ((But.new nt).trans But.put) ⟨_, _, _, upd_same⟩
  · refine ⟨_, rfl, p, _, _, _, rfl, rfl, SqL.of hp, rfl, _, _, rfl, rfl, _, rfl, p, [.int a, .int b, .int c], _, 2, rfl, rfl, hp, rfl, ?_⟩
    have h1 : upd H p (.lst [.int a, .int b, .int (c + 1)]) p = some (.lst [.int a, .int b, .int (c + 1)]) := upd_same
    refine ⟨_, rfl, p, _, _, _, rfl, rfl, SqL.of h1, rfl, _, _, rfl, rfl, .inr ⟨by decide, by decide⟩, _, rfl, p, _, _, _, rfl, rfl, SqL.of h1, rfl, _, _, rfl, rfl, .inl ⟨by decide, by decide⟩, _, _, rfl, rfl, _, _, rfl, rfl,
      .inl ⟨_, rfl, _, _, rfl, rfl, (show (0 : Int) < 2147483399 by decide), ?_⟩⟩
    generalize (b * 40692 + 3301 * (c + 1) + 83) % 2147483399 = z
    have y1 := Int.emod_nonneg z (show (4001 : Int) ≠ 0 by decide)
    have y2 := Int.emod_lt_of_pos z (show (0 : Int) < 4001 by decide)
    refine ⟨_, rfl, _, rfl, .inl ⟨_, rfl, _, _, rfl, rfl, (show (0 : Int) < 4001 by decide), _, _, rfl, rfl, _, _, rfl, rfl, .inr ⟨by omega, by omega⟩, _, rfl, p, _, _, _, rfl, rfl, SqL.of h1, rfl, _, _, rfl, rfl,
      .inl ⟨_, rfl, _, _, rfl, rfl, (show (0 : Int) < 2147483399 by decide), _, rfl, p, [.int a, .int b, .int (c + 1)], _, 1, rfl, rfl, h1, rfl, ?_⟩⟩⟩
    refine ⟨_, rfl, p, _, _, _, rfl, rfl, SqL.of upd_same, rfl, _, _, rfl, rfl, ⟨by decide, by decide⟩, .inl ⟨_, rfl, _, rfl, _, _, rfl, rfl, m0, ?_⟩⟩
    exact q _ _ (Int.emod_nonneg _ (by omega)) (Int.emod_lt_of_pos _ m0) (But.put.trans But.put) ⟨_, _, _, upd_same⟩
theorem ok_pick (F : L2.Fun K "_law_pick" "_law_pick" sPick f fd) (GD : FnOk P w K mg base CX0 1 fD dD ["well", "many"] spDraw) (bD : L2.Binds K dD ["well", "many"] []) (kD : PySem.W.keepIn K (.ref fD) = true) (mD : mg "_law_draw" = some (.ref fD)) (ml : mg "len" = none) :
    FnOk P w K mg base CX0 2 f fd ["well", "some"] (spPick K) := by
  refine F.ok scPick (fun vs H Q E h => ?_) (fun cdv A outer s H vs Q E hr h => ?_)
  · obtain ⟨p, t, xs, rfl, _⟩ := h
    rfl
  obtain ⟨p, t, xs, rfl, hW, hT, l0, l1, q⟩ := h
  refine ⟨_, pss_one (ps_ret (pe_ix ix_tup (pv 1) (pe_call GD hr (by rfl) mD kD bD .nil pass0 (pa_cons (pv 0) (pa_cons (pe_callB call_len_seq (by rfl) ml PySem.boot_len (pa_cons (pv 1) pa_nil)) pa_nil))) (fun _ _ => rfl))), ?_⟩
  have hT0 : SqT K H t xs := Same.tup (hide_sub p H) hT
  refine ⟨_, rfl, _, rfl, _, rfl, t, xs, rfl, .inr hT0, p, _, rfl, hW, by omega, by omega, fun r H' r0 r1 bt hW' => ?_⟩
  obtain ⟨i, rfl⟩ : ∃ i : Nat, r = (i : Int) := ⟨r.toNat, by omega⟩
  have hi : i < xs.length := by omega
  exact ⟨t, xs, _, xs[i], rfl, rfl, Same.tup (hide_sub p H') (Same.tup bt.hide hT), atI_nat (List.getElem?_eq_getElem hi), q i _ H' (List.getElem?_eq_getElem hi) bt hW'⟩
theorem ok_same (F : L2.Fun K "_law_same" "_law_same" sSame f fd) (mr : mg "repr" = none) : FnG P w K mg base CX0 1 f fd ["told", "due"] (spSame K) := by
  refine okG F scSame (fun vs H Q E h => ?_) (fun cdv A outer s H vs Q E gd hr h => ?_)
  · obtain ⟨x, y, d, e, rfl, _⟩ := h
    rfl
  obtain ⟨x, y, d, e, rfl, h1, h2, ⟨f1, f2, f3⟩, ⟨g1, g2, g3⟩, q⟩ := h
  have gd' : (A.deeper (envOfC "_law_same" (defScope sSame) s.heap.objs.size f cdv)).guards = some [] := gd
  refine ⟨_, pss_one (ps_ret (pe_cmpR op_eq (pe_callB (call_repr gd' hr.units) (by rfl) mr (by decide +kernel) (pa_cons (pv 0) pa_nil)) (pe_callB (call_repr gd' hr.units) (by rfl) mr (by decide +kernel) (pa_cons (pv 1) pa_nil)) (nomark _))), ?_⟩
  exact ⟨_, rfl, _, d, rfl, h1, f1, f2, f3, _, rfl, _, e, rfl, h2, g1, g2, g3, rfl, q⟩
end
end My

set_option maxHeartbeats 4000000
namespace My
open PySem PySem.Spec PyProof.Rows L2
abbrev sValue : Stmt := top 31
theorem scValue : FnScope ["well", "some"] ["well"] (defScope sValue) := ⟨rfl, rfl, rfl, by decide +kernel, rfl, by decide +kernel, by decide +kernel⟩
theorem paired_get {α β : Type} {R : α → β → Prop} : ∀ {xs : List α} {ys : List β} {i : Nat} {x : α}, Paired R xs ys → xs[i]? = some x → ∃ y, ys[i]? = some y ∧ R x y
  | _, _, _, _, .nil, e => by simp at e
  | _, _, 0, _, .cons r _, e => by
    simp at e
    subst e
    exact ⟨_, rfl, r⟩
  | _, _, i + 1, x, .cons _ t, e => by
    obtain ⟨u, h1, h2⟩ := paired_get (i := i) (x := x) t (by simpa using e)
    exact ⟨u, by simpa using h1, h2⟩
theorem Wl.new {p q : Addr} {H : Hp} {o : HO} (w : Wl H p) (n : H q = none) : Wl (upd H q o) p := by
  obtain ⟨a, b, c, e⟩ := w
  exact ⟨a, b, c, by rw [upd_ne (ne_of_none e n)]; exact e⟩
theorem hide_new {p q : Addr} {H : Hp} {o : HO} (w : Wl H p) (n : H q = none) : hide p (upd H q o) q = some o := by
  obtain ⟨a, b, c, e⟩ := w
  rw [hide_ne (ne_of_none e n).symm]
  exact upd_same
theorem hide_step {p q : Addr} {H : Hp} {o : HO} (n : H q = none) : Same (hide p H) (hide p (upd H q o)) := (But.new n).hide
def valuesD : List PyData := [.none, .bool true, .int 0, .int (-7), .int (10 ^ 39), .str "", .str "vertices", .tuple [], .list [], .dict [], .tuple [.int 0, .tuple []], .list [.int 1], .tuple [.none],
  .tuple [.tuple [.int 0, .int 1], .tuple [.int 2]], .dict [(.str "a", .int 1)], .bool false, .str "\n", .tuple [.bool true, .list [.none]], .tuple [.str "vertex", .tuple [.int 0]]]
theorem values_fine : ∀ d ∈ valuesD, Fine d := by decide +kernel
def spValue (K : PySem.W.Frag) : Sp := fun vs H Q _ => ∃ p : Addr, vs = [.ref p] ∧ Wl H p ∧ ∀ (v : V) (d : PyData) (H' : Hp), Dd K (hide p H') v d → Fine d → But p H H' → Wl H' p → Q v H'
section
variable {P : Program} {w : World} {K : PySem.W.Frag} {mg : Str → Option Value} {base : Heap} {f fP : Addr} {fd dP : FuncData}
theorem ok_value (F : L2.Fun K "_law_value" "_law_value" sValue f fd) (GP : FnOk P w K mg base CX0 2 fP dP ["well", "some"] (spPick K)) (bP : L2.Binds K dP ["well", "some"] []) (kP : PySem.W.keepIn K (.ref fP) = true) (mP : mg "_law_pick" = some (.ref fP)) :
    FnOk P w K mg base CX0 3 f fd ["well"] (spValue K) := by
  refine F.ok scValue (fun vs H Q E h => ?_) (fun cdv A outer s H vs Q E hr h => ?_)
  · obtain ⟨p, rfl, _⟩ := h
    rfl
  obtain ⟨p, rfl, w0, q⟩ := h
  refine ⟨_, pss_cons (ps_set (i := 1) scValue.nd rfl (.inl rfl) (pe_tup (pa_cons pe_non (pa_cons pe_bl (pa_cons pe_int (pa_cons (pe_un un_neg pe_int) (pa_cons (pe_op op_pow pe_int pe_int) (pa_cons pe_str (pa_cons pe_str (pa_cons (pe_tup pa_nil) (pa_cons (pe_lst pa_nil) (pa_cons pe_dnewK
      (pa_cons (pe_tup (pa_cons pe_int (pa_cons (pe_tup pa_nil) pa_nil))) (pa_cons (pe_lst (pa_cons pe_int pa_nil)) (pa_cons (pe_tup (pa_cons pe_non pa_nil)) (pa_cons (pe_tup (pa_cons (pe_tup (pa_cons pe_int (pa_cons pe_int pa_nil))) (pa_cons (pe_tup (pa_cons pe_int pa_nil)) pa_nil)))
      (pa_cons (pe_disp (pps_cons pe_str pe_int pps_nil) (by rfl) (by rfl) (fun z => by cases z) (by decide)) pa_nil)))))))))))))))))
    (pss_one (ps_ret (pe_call GP hr (by rfl) mP kP bP .nil pass0 (pa_cons (pv 0) (pa_cons (pe_op op_catT (pv 1) (pe_tup (pa_cons pe_bl (pa_cons pe_str (pa_cons (pe_tup (pa_cons pe_bl (pa_cons (pe_lst (pa_cons pe_non pa_nil)) pa_nil))) (pa_cons (pe_tup (pa_cons pe_str (pa_cons (pe_tup (pa_cons pe_int pa_nil)) pa_nil))) pa_nil)))))) pa_nil))))), ?_⟩
  refine ⟨_, rfl, _, _, rfl, rfl, (by show (0 : Int) ≤ 39 ∧ (39 : Int) ≤ 1000000 ∧ (10 : Int).natAbs < 2 ^ 64; decide), ?_⟩
  refine ⟨(by show 0 ≤ sizeLine; decide), fun q1 n1 => ?_⟩
  have w1 := Wl.new (o := HO.tup []) w0 n1
  have f1 := hide_new (o := HO.tup []) w0 n1
  have t1 := hide_step (p := p) (o := HO.tup []) n1
  refine ⟨(by show 0 ≤ sizeLine; decide), fun q2 n2 => ?_⟩
  have w2 := Wl.new (o := HO.lst []) w1 n2
  have f2 := hide_new (o := HO.lst []) w1 n2
  have t2 := hide_step (p := p) (o := HO.lst []) n2
  intro q3 n3
  have w3 := Wl.new (o := HO.dK []) w2 n3
  have f3 := hide_new (o := HO.dK []) w2 n3
  have t3 := hide_step (p := p) (o := HO.dK []) n3
  refine ⟨(by show 0 ≤ sizeLine; decide), fun q4 n4 => ?_⟩
  have w4 := Wl.new (o := HO.tup []) w3 n4
  have f4 := hide_new (o := HO.tup []) w3 n4
  have t4 := hide_step (p := p) (o := HO.tup []) n4
  refine ⟨(by show 2 ≤ sizeLine; decide), fun q5 n5 => ?_⟩
  have w5 := Wl.new (o := HO.tup [.int 0, .ref q4]) w4 n5
  have f5 := hide_new (o := HO.tup [.int 0, .ref q4]) w4 n5
  have t5 := hide_step (p := p) (o := HO.tup [.int 0, .ref q4]) n5
  refine ⟨(by show 1 ≤ sizeLine; decide), fun q6 n6 => ?_⟩
  have w6 := Wl.new (o := HO.lst [.int 1]) w5 n6
  have f6 := hide_new (o := HO.lst [.int 1]) w5 n6
  have t6 := hide_step (p := p) (o := HO.lst [.int 1]) n6
  refine ⟨(by show 1 ≤ sizeLine; decide), fun q7 n7 => ?_⟩
  have w7 := Wl.new (o := HO.tup [.non]) w6 n7
  have f7 := hide_new (o := HO.tup [.non]) w6 n7
  have t7 := hide_step (p := p) (o := HO.tup [.non]) n7
  refine ⟨(by show 2 ≤ sizeLine; decide), fun q8 n8 => ?_⟩
  have w8 := Wl.new (o := HO.tup [.int 0, .int 1]) w7 n8
  have f8 := hide_new (o := HO.tup [.int 0, .int 1]) w7 n8
  have t8 := hide_step (p := p) (o := HO.tup [.int 0, .int 1]) n8
  refine ⟨(by show 1 ≤ sizeLine; decide), fun q9 n9 => ?_⟩
  have w9 := Wl.new (o := HO.tup [.int 2]) w8 n9
  have f9 := hide_new (o := HO.tup [.int 2]) w8 n9
  have t9 := hide_step (p := p) (o := HO.tup [.int 2]) n9
  refine ⟨(by show 2 ≤ sizeLine; decide), fun q10 n10 => ?_⟩
  have w10 := Wl.new (o := HO.tup [.ref q8, .ref q9]) w9 n10
  have f10 := hide_new (o := HO.tup [.ref q8, .ref q9]) w9 n10
  have t10 := hide_step (p := p) (o := HO.tup [.ref q8, .ref q9]) n10
  intro q11 n11
  refine ⟨upd_same, [(.inr "a", .int 1)], rfl, by decide, ?_⟩
  rw [upd_upd]
  have w11 := Wl.new (o := HO.dK (mergeK [] [(.inr "a", .int 1)])) w10 n11
  have f11 := hide_new (o := HO.dK (mergeK [] [(.inr "a", .int 1)])) w10 n11
  have t11 := hide_step (p := p) (o := HO.dK (mergeK [] [(.inr "a", .int 1)])) n11
  refine ⟨(by show 15 ≤ sizeLine; decide), fun q12 n12 => ?_⟩
  have w12 := Wl.new (o := HO.tup [.non, .bl true, .int 0, .int (-7), .int (10 ^ 39), .str "", .str "vertices", .ref q1, .ref q2, .ref q3, .ref q5, .ref q6, .ref q7, .ref q10, .ref q11]) w11 n12
  have f12 := hide_new (o := HO.tup [.non, .bl true, .int 0, .int (-7), .int (10 ^ 39), .str "", .str "vertices", .ref q1, .ref q2, .ref q3, .ref q5, .ref q6, .ref q7, .ref q10, .ref q11]) w11 n12
  have t12 := hide_step (p := p) (o := HO.tup [.non, .bl true, .int 0, .int (-7), .int (10 ^ 39), .str "", .str "vertices", .ref q1, .ref q2, .ref q3, .ref q5, .ref q6, .ref q7, .ref q10, .ref q11]) n12
  refine ⟨_, rfl, _, rfl, ?_⟩
  refine ⟨(by show 1 ≤ sizeLine; decide), fun q13 n13 => ?_⟩
  have w13 := Wl.new (o := HO.lst [.non]) w12 n13
  have f13 := hide_new (o := HO.lst [.non]) w12 n13
  have t13 := hide_step (p := p) (o := HO.lst [.non]) n13
  refine ⟨(by show 2 ≤ sizeLine; decide), fun q14 n14 => ?_⟩
  have w14 := Wl.new (o := HO.tup [.bl true, .ref q13]) w13 n14
  have f14 := hide_new (o := HO.tup [.bl true, .ref q13]) w13 n14
  have t14 := hide_step (p := p) (o := HO.tup [.bl true, .ref q13]) n14
  refine ⟨(by show 1 ≤ sizeLine; decide), fun q15 n15 => ?_⟩
  have w15 := Wl.new (o := HO.tup [.int 0]) w14 n15
  have f15 := hide_new (o := HO.tup [.int 0]) w14 n15
  have t15 := hide_step (p := p) (o := HO.tup [.int 0]) n15
  refine ⟨(by show 2 ≤ sizeLine; decide), fun q16 n16 => ?_⟩
  have w16 := Wl.new (o := HO.tup [.str "vertex", .ref q15]) w15 n16
  have f16 := hide_new (o := HO.tup [.str "vertex", .ref q15]) w15 n16
  have t16 := hide_step (p := p) (o := HO.tup [.str "vertex", .ref q15]) n16
  refine ⟨(by show 4 ≤ sizeLine; decide), fun q17 n17 => ?_⟩
  have w17 := Wl.new (o := HO.tup [.bl false, .str "\n", .ref q14, .ref q16]) w16 n17
  have f17 := hide_new (o := HO.tup [.bl false, .str "\n", .ref q14, .ref q16]) w16 n17
  have t17 := hide_step (p := p) (o := HO.tup [.bl false, .str "\n", .ref q14, .ref q16]) n17
  have s12 := hide_sub p _ _ _ (t17 _ _ (t16 _ _ (t15 _ _ (t14 _ _ (t13 _ _ f12)))))
  refine ⟨q12, q17, _, _, rfl, rfl, SqT.of s12, SqT.of (hide_sub p _ _ _ f17), (fun z => nomatch z), (by show 19 ≤ sizeLine; decide), (fun z => nomatch z), fun _ q18 n18 => ?_⟩
  have w18 := Wl.new (o := HO.tup ([.non, .bl true, .int 0, .int (-7), .int (10 ^ 39), .str "", .str "vertices", .ref q1, .ref q2, .ref q3, .ref q5, .ref q6, .ref q7, .ref q10, .ref q11, .bl false, .str "\n", .ref q14, .ref q16] : List V)) w17 n18
  have f18 := hide_new (o := HO.tup ([.non, .bl true, .int 0, .int (-7), .int (10 ^ 39), .str "", .str "vertices", .ref q1, .ref q2, .ref q3, .ref q5, .ref q6, .ref q7, .ref q10, .ref q11, .bl false, .str "\n", .ref q14, .ref q16] : List V)) w17 n18
  have t18 := hide_step (p := p) (o := HO.tup ([.non, .bl true, .int 0, .int (-7), .int (10 ^ 39), .str "", .str "vertices", .ref q1, .ref q2, .ref q3, .ref q5, .ref q6, .ref q7, .ref q10, .ref q11, .bl false, .str "\n", .ref q14, .ref q16] : List V)) n18
  refine ⟨p, q18, _, rfl, w18, SqT.of f18, (by show 0 < 19; decide), (by show 19 < 1000; decide), fun i v H' hv bt wl => ?_⟩
  have r18 := bt.hide
  have r17 := t18.trans r18
  have r16 := t17.trans r17
  have r15 := t16.trans r16
  have r14 := t15.trans r15
  have r13 := t14.trans r14
  have r12 := t13.trans r13
  have r11 := t12.trans r12
  have r10 := t11.trans r11
  have r9 := t10.trans r10
  have r8 := t9.trans r9
  have r7 := t8.trans r8
  have r6 := t7.trans r7
  have r5 := t6.trans r6
  have r4 := t5.trans r5
  have r3 := t4.trans r4
  have r2 := t3.trans r3
  have r1 := t2.trans r2
  have d2 : ∀ {a : Addr} {xs : List V}, hide p H' a = some (.tup xs) → SqT K (hide p H') a xs := fun e => SqT.of e
  have d3 : ∀ {a : Addr} {xs : List V}, hide p H' a = some (.lst xs) → SqL K (hide p H') a xs := fun e => SqL.of e
  have vals : Paired (Dd K (hide p H')) [.non, .bl true, .int 0, .int (-7), .int (10 ^ 39), .str "", .str "vertices", .ref q1, .ref q2, .ref q3, .ref q5, .ref q6, .ref q7, .ref q10, .ref q11, .bl false, .str "\n", .ref q14, .ref q16] valuesD := by
    unfold valuesD
    exact .cons (.dat .non rfl) (.cons (.dat (.bl _) rfl) (.cons (.dat (.int _) rfl) (.cons (.dat (.int _) rfl) (.cons (.dat (.int _) rfl) (.cons (.dat (.str _) rfl) (.cons (.dat (.str _) rfl) (.cons (.dat (.tup (d2 (r1 _ _ f1)) .nil) rfl) (.cons (.dat (.lst (d3 (r2 _ _ f2)) .nil) rfl) (.cons (.dct (ds := []) (r3 _ _ f3) rfl) (.cons (.dat (.tup (d2 (r5 _ _ f5)) (.cons (.int _) (.cons (.tup (d2 (r4 _ _ f4)) .nil) .nil))) rfl) (.cons (.dat (.lst (d3 (r6 _ _ f6)) (.cons (.int _) .nil)) rfl) (.cons (.dat (.tup (d2 (r7 _ _ f7)) (.cons .non .nil)) rfl) (.cons (.dat (.tup (d2 (r10 _ _ f10)) (.cons (.tup (d2 (r8 _ _ f8)) (.cons (.int _) (.cons (.int _) .nil))) (.cons (.tup (d2 (r9 _ _ f9)) (.cons (.int _) .nil)) .nil))) rfl) (.cons (.dct (ds := [.int 1]) (r11 _ _ f11) rfl) (.cons (.dat (.bl _) rfl) (.cons (.dat (.str _) rfl) (.cons (.dat (.tup (d2 (r14 _ _ f14)) (.cons (.bl _) (.cons (.lst (d3 (r13 _ _ f13)) (.cons .non .nil)) .nil))) rfl) (.cons (.dat (.tup (d2 (r16 _ _ f16)) (.cons (.str _) (.cons (.tup (d2 (r15 _ _ f15)) (.cons (.int _) .nil)) .nil))) rfl) (.nil)))))))))))))))))))
  obtain ⟨d, hd, dd⟩ := paired_get vals hv
  refine q v d H' dd (values_fine d (List.mem_of_getElem? hd)) ?_ wl
  refine But.trans ?_ bt
  exact (But.new n1).trans ((But.new n2).trans ((But.new n3).trans ((But.new n4).trans ((But.new n5).trans ((But.new n6).trans ((But.new n7).trans ((But.new n8).trans ((But.new n9).trans ((But.new n10).trans ((But.new n11).trans ((But.new n12).trans ((But.new n13).trans ((But.new n14).trans ((But.new n15).trans ((But.new n16).trans ((But.new n17).trans (But.new n18)))))))))))))))))
end
end My

set_option maxHeartbeats 4000000
namespace My
open PySem PySem.Spec PyProof.Rows L2
abbrev sGiven : Stmt := top 32
abbrev sNamed : Stmt := top 33
abbrev sPlain : Stmt := top 34
abbrev sKin : Stmt := top 35
abbrev sLone : Stmt := top 36
abbrev sRight : Stmt := top 37
abbrev sLaw : Stmt := top 38
def nmL : List Str := ["InvalidGraph", "InvalidLot", "InvalidVertex", "InvalidWeights", "InvalidShares", "InvalidTimes", "InvalidRenaming", "InvalidNumber", "InvalidOrientation", "InvalidHole", "InvalidMultigraph", "InvalidColours", "InvalidPreferences", "InvalidMatching", "InvalidLists", "InvalidChange", "InvalidCutset", "Unfit", "InvalidLine", "InvalidSign", "InvalidLog", "TooMany", "NothingToUndo", "NoPair"]
def nmX (i : Nat) : Str := nmL.getD i "NoPair"
def fld (i : Nat) : Str := if i < 18 then "given" else "index"
abbrev veB : List Value := [.type "ValueError", .type "Exception", .type "BaseException", .type "object"]
/-- the classes: the so-manieth at C i, its __init__ at fI i -/
structure Txt (P : Program) (w : World) (K : PySem.W.Frag) (mg : Str → Option Value) (base : Heap) (C fI : Nat → Addr) (fdI : Nat → FuncData) (G : Addr) : Prop where
  g : ∀ i, i < 24 → mg (nmX i) = some (.ref (C i))
  kp : ∀ i, i < 24 → PySem.W.keepIn K (.ref (C i)) = true
  x : ∀ i, i < 21 → XCls K (C i) (fI i) (fld i)
  ini : ∀ i, i < 21 → FnOk P w K mg base CX0 1 (fI i) (fdI i) ["self", fld i] (spInit (C i) (fld i))
  bd : ∀ i, i < 21 → L2.Binds K (fdI i) ["self", fld i] []
  bk : ∀ i, i < 21 → ∀ (s : Shared) (a u : Value), BindsTo s (fdI i) ⟨[a], [(fld i, u)]⟩ ([("self" : Str), fld i].zip [a, u])
  q : ∀ i, 21 ≤ i → i < 24 → PySem.W.excIn K (C i) veB "ValueError.__new__" = true
  xi : ∀ i, i < 24 → XIs K (C i)
  kit : ∀ i j, i < 24 → j < 24 → PySem.W.kitOne K (.ref (C i)) (.ref (C j)) = some (decide (i = j))
  gG : mg "GraphError" = some (.ref G)
  qG : PySem.W.excIn K G veB "ValueError.__new__" = true
  kG : PySem.W.keepIn K (.ref G) = true
  xG : XIs K G
  kitG : ∀ i, i < 24 → PySem.W.kitOne K (.ref (C i)) (.ref G) = some true
  kitV : ∀ i, i < 24 → PySem.W.kitOne K (.ref (C i)) (.type "ValueError") = some true
  kitL : ∀ i, i < 24 → PySem.W.kitOne K (.ref (C i)) (.type "LookupError") = some false
  kitT : ∀ i, i < 24 → PySem.W.kitOne K (.ref (C i)) (.type "TypeError") = some false
  kitA : ∀ i, i < 24 → PySem.W.kitOne K (.ref (C i)) (.type "ArithmeticError") = some false
  GV : PySem.W.kitOne K (.ref G) (.type "ValueError") = some true
  GC : ∀ j, j < 24 → PySem.W.kitOne K (.ref G) (.ref (C j)) = some false
/-- at a: an error of the so-manieth class, made with v -/
def ErrAt (C : Nat → Addr) (H : Hp) (a : Addr) (i : Nat) (v : V) : Prop := (i < 21 ∧ ∃ d, H a = some (exo a (C i) (some d)) ∧ H d = some (exd d [(fld i, v)])) ∨ (21 ≤ i ∧ H a = some (ExO (.ref (C i)) a))
theorem ErrAt.same {C : Nat → Addr} {H H' : Hp} {a : Addr} {i : Nat} {v : V} (e : Same H H') (h : ErrAt C H a i v) : ErrAt C H' a i v := by
  rcases h with ⟨l, d, h1, h2⟩ | ⟨l, h1⟩
  · exact .inl ⟨l, d, e _ _ h1, e _ _ h2⟩
  · exact .inr ⟨l, e _ _ h1⟩
theorem IsX.same {C : Addr} {H H' : Hp} {a : Addr} (e : Same H H') (h : IsX H a C) : IsX H' a C := by
  rcases h with ⟨d, fs, h1, h2⟩ | h1
  · exact .inl ⟨d, fs, e _ _ h1, e _ _ h2⟩
  · exact .inr (e _ _ h1)
theorem ErrAt.isX {C : Nat → Addr} {H : Hp} {a : Addr} {i : Nat} {v : V} (h : ErrAt C H a i v) : IsX H a (C i) := by
  rcases h with ⟨l, d, h1, h2⟩ | ⟨l, h1⟩
  · exact .inl ⟨d, _, h1, h2⟩
  · exact .inr h1
/-- an error of the so-manieth class is made, new -/
def spMk (C : Nat → Addr) (lo hi : Nat) : Sp := fun vs H Q _ => ∃ (i : Nat) (v : V), vs = [.int (i : Int), v] ∧ lo ≤ i ∧ i < hi ∧ ∀ (a : Addr) (H' : Hp), Same H H' → H a = none → ErrAt C H' a i v → Q (.ref a) H'
theorem newx_of {C : Nat → Addr} {i : Nat} {v : V} {H : Hp} {Q : VK} (l : i < 21) (q : ∀ (a : Addr) (H' : Hp), Same H H' → H a = none → ErrAt C H' a i v → Q (.ref a) H') : NewX (C i) (fld i) v H Q := by
  intro a d na nd ne
  refine q a _ (fun b o e => ?_) na (.inl ⟨l, d, upd_same, ?_⟩)
  · rw [upd_ne (ne_of_none e na), upd_ne (ne_of_none e nd), upd_ne (ne_of_none e na)]
    exact e
  · rw [upd_ne ne]
    exact upd_same
theorem new0_of {C : Nat → Addr} {i : Nat} {v : V} {H : Hp} {Q : VK} (l : 21 ≤ i) (q : ∀ (a : Addr) (H' : Hp), Same H H' → H a = none → ErrAt C H' a i v → Q (.ref a) H') : ∀ a, H a = none → Q (.ref a) (upd H a (ExO (.ref (C i)) a)) :=
  fun a na => q a _ (same_new na _) na (.inr ⟨l, upd_same⟩)
theorem int_is {i j : Nat} (c : decide (V.int (i : Int) = V.int (j : Int)) = true) : i = j := by
  have e := V.int.inj (of_decide_eq_true c)
  omega
theorem int_no {i j : Nat} (c : decide (V.int (i : Int) = V.int (j : Int)) = false) : i ≠ j := fun e => by
  rw [e, decide_eq_true rfl] at c
  cases c
theorem scGiven : FnScope ["way", "value"] ["way", "value"] (defScope sGiven) := ⟨rfl, rfl, rfl, by decide +kernel, rfl, by decide +kernel, by decide +kernel⟩
theorem scNamed : FnScope ["way", "value"] ["way", "value"] (defScope sNamed) := ⟨rfl, rfl, rfl, by decide +kernel, rfl, by decide +kernel, by decide +kernel⟩
theorem scPlain : FnScope ["way", "value"] ["way", "value"] (defScope sPlain) := ⟨rfl, rfl, rfl, by decide +kernel, rfl, by decide +kernel, by decide +kernel⟩
section
variable {P : Program} {w : World} {K : PySem.W.Frag} {mg : Str → Option Value} {base : Heap} {C fI : Nat → Addr} {fdI : Nat → FuncData} {G f : Addr} {fd : FuncData}
theorem ok_given (T : Txt P w K mg base C fI fdI G) (F : L2.Fun K "_law_given" "_law_given" sGiven f fd) : FnOk P w K mg base CX0 3 f fd ["way", "value"] (spMk C 0 18) := by
  refine F.ok scGiven (fun vs H Q E h => ?_) (fun cdv A outer s H vs Q E hr h => ?_)
  · obtain ⟨i, v, rfl, _⟩ := h
    rfl
  obtain ⟨i, v, rfl, l0, l1, q⟩ := h
  refine ⟨_, pss_cons (ps_if (pt_cmpR op_eq (pv 0) pe_int (nomark _)) (pss_one (ps_ret (pe_mkX (T.x 0 (by decide)) (T.ini 0 (by decide)) hr (T.bd 0 (by decide)) (by rfl) (T.g 0 (by decide)) (pa_cons (pv 1) pa_nil)))) pss_nil)
    (pss_cons (ps_if (pt_cmpR op_eq (pv 0) pe_int (nomark _)) (pss_one (ps_ret (pe_mkX (T.x 1 (by decide)) (T.ini 1 (by decide)) hr (T.bd 1 (by decide)) (by rfl) (T.g 1 (by decide)) (pa_cons (pv 1) pa_nil)))) pss_nil)
    (pss_cons (ps_if (pt_cmpR op_eq (pv 0) pe_int (nomark _)) (pss_one (ps_ret (pe_mkX (T.x 2 (by decide)) (T.ini 2 (by decide)) hr (T.bd 2 (by decide)) (by rfl) (T.g 2 (by decide)) (pa_cons (pv 1) pa_nil)))) pss_nil)
    (pss_cons (ps_if (pt_cmpR op_eq (pv 0) pe_int (nomark _)) (pss_one (ps_ret (pe_mkX (T.x 3 (by decide)) (T.ini 3 (by decide)) hr (T.bd 3 (by decide)) (by rfl) (T.g 3 (by decide)) (pa_cons (pv 1) pa_nil)))) pss_nil)
    (pss_cons (ps_if (pt_cmpR op_eq (pv 0) pe_int (nomark _)) (pss_one (ps_ret (pe_mkX (T.x 4 (by decide)) (T.ini 4 (by decide)) hr (T.bd 4 (by decide)) (by rfl) (T.g 4 (by decide)) (pa_cons (pv 1) pa_nil)))) pss_nil)
    (pss_cons (ps_if (pt_cmpR op_eq (pv 0) pe_int (nomark _)) (pss_one (ps_ret (pe_mkX (T.x 5 (by decide)) (T.ini 5 (by decide)) hr (T.bd 5 (by decide)) (by rfl) (T.g 5 (by decide)) (pa_cons (pv 1) pa_nil)))) pss_nil)
    (pss_cons (ps_if (pt_cmpR op_eq (pv 0) pe_int (nomark _)) (pss_one (ps_ret (pe_mkX (T.x 6 (by decide)) (T.ini 6 (by decide)) hr (T.bd 6 (by decide)) (by rfl) (T.g 6 (by decide)) (pa_cons (pv 1) pa_nil)))) pss_nil)
    (pss_cons (ps_if (pt_cmpR op_eq (pv 0) pe_int (nomark _)) (pss_one (ps_ret (pe_mkX (T.x 7 (by decide)) (T.ini 7 (by decide)) hr (T.bd 7 (by decide)) (by rfl) (T.g 7 (by decide)) (pa_cons (pv 1) pa_nil)))) pss_nil)
    (pss_cons (ps_if (pt_cmpR op_eq (pv 0) pe_int (nomark _)) (pss_one (ps_ret (pe_mkX (T.x 8 (by decide)) (T.ini 8 (by decide)) hr (T.bd 8 (by decide)) (by rfl) (T.g 8 (by decide)) (pa_cons (pv 1) pa_nil)))) pss_nil)
    (pss_cons (ps_if (pt_cmpR op_eq (pv 0) pe_int (nomark _)) (pss_one (ps_ret (pe_mkX (T.x 9 (by decide)) (T.ini 9 (by decide)) hr (T.bd 9 (by decide)) (by rfl) (T.g 9 (by decide)) (pa_cons (pv 1) pa_nil)))) pss_nil)
    (pss_cons (ps_if (pt_cmpR op_eq (pv 0) pe_int (nomark _)) (pss_one (ps_ret (pe_mkX (T.x 10 (by decide)) (T.ini 10 (by decide)) hr (T.bd 10 (by decide)) (by rfl) (T.g 10 (by decide)) (pa_cons (pv 1) pa_nil)))) pss_nil)
    (pss_cons (ps_if (pt_cmpR op_eq (pv 0) pe_int (nomark _)) (pss_one (ps_ret (pe_mkX (T.x 11 (by decide)) (T.ini 11 (by decide)) hr (T.bd 11 (by decide)) (by rfl) (T.g 11 (by decide)) (pa_cons (pv 1) pa_nil)))) pss_nil)
    (pss_cons (ps_if (pt_cmpR op_eq (pv 0) pe_int (nomark _)) (pss_one (ps_ret (pe_mkX (T.x 12 (by decide)) (T.ini 12 (by decide)) hr (T.bd 12 (by decide)) (by rfl) (T.g 12 (by decide)) (pa_cons (pv 1) pa_nil)))) pss_nil)
    (pss_cons (ps_if (pt_cmpR op_eq (pv 0) pe_int (nomark _)) (pss_one (ps_ret (pe_mkX (T.x 13 (by decide)) (T.ini 13 (by decide)) hr (T.bd 13 (by decide)) (by rfl) (T.g 13 (by decide)) (pa_cons (pv 1) pa_nil)))) pss_nil)
    (pss_cons (ps_if (pt_cmpR op_eq (pv 0) pe_int (nomark _)) (pss_one (ps_ret (pe_mkX (T.x 14 (by decide)) (T.ini 14 (by decide)) hr (T.bd 14 (by decide)) (by rfl) (T.g 14 (by decide)) (pa_cons (pv 1) pa_nil)))) pss_nil)
    (pss_cons (ps_if (pt_cmpR op_eq (pv 0) pe_int (nomark _)) (pss_one (ps_ret (pe_mkX (T.x 15 (by decide)) (T.ini 15 (by decide)) hr (T.bd 15 (by decide)) (by rfl) (T.g 15 (by decide)) (pa_cons (pv 1) pa_nil)))) pss_nil)
    (pss_cons (ps_if (pt_cmpR op_eq (pv 0) pe_int (nomark _)) (pss_one (ps_ret (pe_mkX (T.x 16 (by decide)) (T.ini 16 (by decide)) hr (T.bd 16 (by decide)) (by rfl) (T.g 16 (by decide)) (pa_cons (pv 1) pa_nil)))) pss_nil)
    (pss_one (ps_ret (pe_mkX (T.x 17 (by decide)) (T.ini 17 (by decide)) hr (T.bd 17 (by decide)) (by rfl) (T.g 17 (by decide)) (pa_cons (pv 1) pa_nil)))))))))))))))))))), ?_⟩
  refine ⟨_, rfl, rfl, _, rfl, iteB (fun c => ?_) (fun c => ?_)⟩
  · have e := int_is (j := 0) c
    subst e
    exact ⟨_, rfl, v, rfl, newx_of (by decide) q⟩
  have n0 := int_no (j := 0) c
  clear c
  refine ⟨_, rfl, rfl, _, rfl, iteB (fun c => ?_) (fun c => ?_)⟩
  · have e := int_is (j := 1) c
    subst e
    exact ⟨_, rfl, v, rfl, newx_of (by decide) q⟩
  have n1 := int_no (j := 1) c
  clear c
  refine ⟨_, rfl, rfl, _, rfl, iteB (fun c => ?_) (fun c => ?_)⟩
  · have e := int_is (j := 2) c
    subst e
    exact ⟨_, rfl, v, rfl, newx_of (by decide) q⟩
  have n2 := int_no (j := 2) c
  clear c
  refine ⟨_, rfl, rfl, _, rfl, iteB (fun c => ?_) (fun c => ?_)⟩
  · have e := int_is (j := 3) c
    subst e
    exact ⟨_, rfl, v, rfl, newx_of (by decide) q⟩
  have n3 := int_no (j := 3) c
  clear c
  refine ⟨_, rfl, rfl, _, rfl, iteB (fun c => ?_) (fun c => ?_)⟩
  · have e := int_is (j := 4) c
    subst e
    exact ⟨_, rfl, v, rfl, newx_of (by decide) q⟩
  have n4 := int_no (j := 4) c
  clear c
  refine ⟨_, rfl, rfl, _, rfl, iteB (fun c => ?_) (fun c => ?_)⟩
  · have e := int_is (j := 5) c
    subst e
    exact ⟨_, rfl, v, rfl, newx_of (by decide) q⟩
  have n5 := int_no (j := 5) c
  clear c
  refine ⟨_, rfl, rfl, _, rfl, iteB (fun c => ?_) (fun c => ?_)⟩
  · have e := int_is (j := 6) c
    subst e
    exact ⟨_, rfl, v, rfl, newx_of (by decide) q⟩
  have n6 := int_no (j := 6) c
  clear c
  refine ⟨_, rfl, rfl, _, rfl, iteB (fun c => ?_) (fun c => ?_)⟩
  · have e := int_is (j := 7) c
    subst e
    exact ⟨_, rfl, v, rfl, newx_of (by decide) q⟩
  have n7 := int_no (j := 7) c
  clear c
  refine ⟨_, rfl, rfl, _, rfl, iteB (fun c => ?_) (fun c => ?_)⟩
  · have e := int_is (j := 8) c
    subst e
    exact ⟨_, rfl, v, rfl, newx_of (by decide) q⟩
  have n8 := int_no (j := 8) c
  clear c
  refine ⟨_, rfl, rfl, _, rfl, iteB (fun c => ?_) (fun c => ?_)⟩
  · have e := int_is (j := 9) c
    subst e
    exact ⟨_, rfl, v, rfl, newx_of (by decide) q⟩
  have n9 := int_no (j := 9) c
  clear c
  refine ⟨_, rfl, rfl, _, rfl, iteB (fun c => ?_) (fun c => ?_)⟩
  · have e := int_is (j := 10) c
    subst e
    exact ⟨_, rfl, v, rfl, newx_of (by decide) q⟩
  have n10 := int_no (j := 10) c
  clear c
  refine ⟨_, rfl, rfl, _, rfl, iteB (fun c => ?_) (fun c => ?_)⟩
  · have e := int_is (j := 11) c
    subst e
    exact ⟨_, rfl, v, rfl, newx_of (by decide) q⟩
  have n11 := int_no (j := 11) c
  clear c
  refine ⟨_, rfl, rfl, _, rfl, iteB (fun c => ?_) (fun c => ?_)⟩
  · have e := int_is (j := 12) c
    subst e
    exact ⟨_, rfl, v, rfl, newx_of (by decide) q⟩
  have n12 := int_no (j := 12) c
  clear c
  refine ⟨_, rfl, rfl, _, rfl, iteB (fun c => ?_) (fun c => ?_)⟩
  · have e := int_is (j := 13) c
    subst e
    exact ⟨_, rfl, v, rfl, newx_of (by decide) q⟩
  have n13 := int_no (j := 13) c
  clear c
  refine ⟨_, rfl, rfl, _, rfl, iteB (fun c => ?_) (fun c => ?_)⟩
  · have e := int_is (j := 14) c
    subst e
    exact ⟨_, rfl, v, rfl, newx_of (by decide) q⟩
  have n14 := int_no (j := 14) c
  clear c
  refine ⟨_, rfl, rfl, _, rfl, iteB (fun c => ?_) (fun c => ?_)⟩
  · have e := int_is (j := 15) c
    subst e
    exact ⟨_, rfl, v, rfl, newx_of (by decide) q⟩
  have n15 := int_no (j := 15) c
  clear c
  refine ⟨_, rfl, rfl, _, rfl, iteB (fun c => ?_) (fun c => ?_)⟩
  · have e := int_is (j := 16) c
    subst e
    exact ⟨_, rfl, v, rfl, newx_of (by decide) q⟩
  have n16 := int_no (j := 16) c
  clear c
  have e : i = 17 := by omega
  subst e
  exact ⟨_, rfl, v, rfl, newx_of (by decide) q⟩
theorem ok_named (T : Txt P w K mg base C fI fdI G) (F : L2.Fun K "_law_named" "_law_named" sNamed f fd) : FnOk P w K mg base CX0 3 f fd ["way", "value"] (spMk C 0 21) := by
  refine F.ok scNamed (fun vs H Q E h => ?_) (fun cdv A outer s H vs Q E hr h => ?_)
  · obtain ⟨i, v, rfl, _⟩ := h
    rfl
  obtain ⟨i, v, rfl, l0, l1, q⟩ := h
  refine ⟨_, pss_cons (ps_if (pt_cmpR op_eq (pv 0) pe_int (nomark _)) (pss_one (ps_ret (pe_mkXK (T.x 0 (by decide)) (T.ini 0 (by decide)) hr (T.bk 0 (by decide)) (by rfl) (T.g 0 (by decide)) (pk_cons (pv 1) pk_nil)))) pss_nil)
    (pss_cons (ps_if (pt_cmpR op_eq (pv 0) pe_int (nomark _)) (pss_one (ps_ret (pe_mkXK (T.x 1 (by decide)) (T.ini 1 (by decide)) hr (T.bk 1 (by decide)) (by rfl) (T.g 1 (by decide)) (pk_cons (pv 1) pk_nil)))) pss_nil)
    (pss_cons (ps_if (pt_cmpR op_eq (pv 0) pe_int (nomark _)) (pss_one (ps_ret (pe_mkXK (T.x 2 (by decide)) (T.ini 2 (by decide)) hr (T.bk 2 (by decide)) (by rfl) (T.g 2 (by decide)) (pk_cons (pv 1) pk_nil)))) pss_nil)
    (pss_cons (ps_if (pt_cmpR op_eq (pv 0) pe_int (nomark _)) (pss_one (ps_ret (pe_mkXK (T.x 3 (by decide)) (T.ini 3 (by decide)) hr (T.bk 3 (by decide)) (by rfl) (T.g 3 (by decide)) (pk_cons (pv 1) pk_nil)))) pss_nil)
    (pss_cons (ps_if (pt_cmpR op_eq (pv 0) pe_int (nomark _)) (pss_one (ps_ret (pe_mkXK (T.x 4 (by decide)) (T.ini 4 (by decide)) hr (T.bk 4 (by decide)) (by rfl) (T.g 4 (by decide)) (pk_cons (pv 1) pk_nil)))) pss_nil)
    (pss_cons (ps_if (pt_cmpR op_eq (pv 0) pe_int (nomark _)) (pss_one (ps_ret (pe_mkXK (T.x 5 (by decide)) (T.ini 5 (by decide)) hr (T.bk 5 (by decide)) (by rfl) (T.g 5 (by decide)) (pk_cons (pv 1) pk_nil)))) pss_nil)
    (pss_cons (ps_if (pt_cmpR op_eq (pv 0) pe_int (nomark _)) (pss_one (ps_ret (pe_mkXK (T.x 6 (by decide)) (T.ini 6 (by decide)) hr (T.bk 6 (by decide)) (by rfl) (T.g 6 (by decide)) (pk_cons (pv 1) pk_nil)))) pss_nil)
    (pss_cons (ps_if (pt_cmpR op_eq (pv 0) pe_int (nomark _)) (pss_one (ps_ret (pe_mkXK (T.x 7 (by decide)) (T.ini 7 (by decide)) hr (T.bk 7 (by decide)) (by rfl) (T.g 7 (by decide)) (pk_cons (pv 1) pk_nil)))) pss_nil)
    (pss_cons (ps_if (pt_cmpR op_eq (pv 0) pe_int (nomark _)) (pss_one (ps_ret (pe_mkXK (T.x 8 (by decide)) (T.ini 8 (by decide)) hr (T.bk 8 (by decide)) (by rfl) (T.g 8 (by decide)) (pk_cons (pv 1) pk_nil)))) pss_nil)
    (pss_cons (ps_if (pt_cmpR op_eq (pv 0) pe_int (nomark _)) (pss_one (ps_ret (pe_mkXK (T.x 9 (by decide)) (T.ini 9 (by decide)) hr (T.bk 9 (by decide)) (by rfl) (T.g 9 (by decide)) (pk_cons (pv 1) pk_nil)))) pss_nil)
    (pss_cons (ps_if (pt_cmpR op_eq (pv 0) pe_int (nomark _)) (pss_one (ps_ret (pe_mkXK (T.x 10 (by decide)) (T.ini 10 (by decide)) hr (T.bk 10 (by decide)) (by rfl) (T.g 10 (by decide)) (pk_cons (pv 1) pk_nil)))) pss_nil)
    (pss_cons (ps_if (pt_cmpR op_eq (pv 0) pe_int (nomark _)) (pss_one (ps_ret (pe_mkXK (T.x 11 (by decide)) (T.ini 11 (by decide)) hr (T.bk 11 (by decide)) (by rfl) (T.g 11 (by decide)) (pk_cons (pv 1) pk_nil)))) pss_nil)
    (pss_cons (ps_if (pt_cmpR op_eq (pv 0) pe_int (nomark _)) (pss_one (ps_ret (pe_mkXK (T.x 12 (by decide)) (T.ini 12 (by decide)) hr (T.bk 12 (by decide)) (by rfl) (T.g 12 (by decide)) (pk_cons (pv 1) pk_nil)))) pss_nil)
    (pss_cons (ps_if (pt_cmpR op_eq (pv 0) pe_int (nomark _)) (pss_one (ps_ret (pe_mkXK (T.x 13 (by decide)) (T.ini 13 (by decide)) hr (T.bk 13 (by decide)) (by rfl) (T.g 13 (by decide)) (pk_cons (pv 1) pk_nil)))) pss_nil)
    (pss_cons (ps_if (pt_cmpR op_eq (pv 0) pe_int (nomark _)) (pss_one (ps_ret (pe_mkXK (T.x 14 (by decide)) (T.ini 14 (by decide)) hr (T.bk 14 (by decide)) (by rfl) (T.g 14 (by decide)) (pk_cons (pv 1) pk_nil)))) pss_nil)
    (pss_cons (ps_if (pt_cmpR op_eq (pv 0) pe_int (nomark _)) (pss_one (ps_ret (pe_mkXK (T.x 15 (by decide)) (T.ini 15 (by decide)) hr (T.bk 15 (by decide)) (by rfl) (T.g 15 (by decide)) (pk_cons (pv 1) pk_nil)))) pss_nil)
    (pss_cons (ps_if (pt_cmpR op_eq (pv 0) pe_int (nomark _)) (pss_one (ps_ret (pe_mkXK (T.x 16 (by decide)) (T.ini 16 (by decide)) hr (T.bk 16 (by decide)) (by rfl) (T.g 16 (by decide)) (pk_cons (pv 1) pk_nil)))) pss_nil)
    (pss_cons (ps_if (pt_cmpR op_eq (pv 0) pe_int (nomark _)) (pss_one (ps_ret (pe_mkXK (T.x 17 (by decide)) (T.ini 17 (by decide)) hr (T.bk 17 (by decide)) (by rfl) (T.g 17 (by decide)) (pk_cons (pv 1) pk_nil)))) pss_nil)
    (pss_cons (ps_if (pt_cmpR op_eq (pv 0) pe_int (nomark _)) (pss_one (ps_ret (pe_mkXK (T.x 18 (by decide)) (T.ini 18 (by decide)) hr (T.bk 18 (by decide)) (by rfl) (T.g 18 (by decide)) (pk_cons (pv 1) pk_nil)))) pss_nil)
    (pss_one (ps_ret (pe_ifExp (pt_cmpR op_eq (pv 0) pe_int (nomark _)) (pe_mkXK (T.x 19 (by decide)) (T.ini 19 (by decide)) hr (T.bk 19 (by decide)) (by rfl) (T.g 19 (by decide)) (pk_cons (pv 1) pk_nil)) (pe_mkXK (T.x 20 (by decide)) (T.ini 20 (by decide)) hr (T.bk 20 (by decide)) (by rfl) (T.g 20 (by decide)) (pk_cons (pv 1) pk_nil))))))))))))))))))))))), ?_⟩
  refine ⟨_, rfl, rfl, _, rfl, iteB (fun c => ?_) (fun c => ?_)⟩
  · have e := int_is (j := 0) c
    subst e
    exact ⟨_, rfl, v, rfl, newx_of (by decide) q⟩
  have n0 := int_no (j := 0) c
  clear c
  refine ⟨_, rfl, rfl, _, rfl, iteB (fun c => ?_) (fun c => ?_)⟩
  · have e := int_is (j := 1) c
    subst e
    exact ⟨_, rfl, v, rfl, newx_of (by decide) q⟩
  have n1 := int_no (j := 1) c
  clear c
  refine ⟨_, rfl, rfl, _, rfl, iteB (fun c => ?_) (fun c => ?_)⟩
  · have e := int_is (j := 2) c
    subst e
    exact ⟨_, rfl, v, rfl, newx_of (by decide) q⟩
  have n2 := int_no (j := 2) c
  clear c
  refine ⟨_, rfl, rfl, _, rfl, iteB (fun c => ?_) (fun c => ?_)⟩
  · have e := int_is (j := 3) c
    subst e
    exact ⟨_, rfl, v, rfl, newx_of (by decide) q⟩
  have n3 := int_no (j := 3) c
  clear c
  refine ⟨_, rfl, rfl, _, rfl, iteB (fun c => ?_) (fun c => ?_)⟩
  · have e := int_is (j := 4) c
    subst e
    exact ⟨_, rfl, v, rfl, newx_of (by decide) q⟩
  have n4 := int_no (j := 4) c
  clear c
  refine ⟨_, rfl, rfl, _, rfl, iteB (fun c => ?_) (fun c => ?_)⟩
  · have e := int_is (j := 5) c
    subst e
    exact ⟨_, rfl, v, rfl, newx_of (by decide) q⟩
  have n5 := int_no (j := 5) c
  clear c
  refine ⟨_, rfl, rfl, _, rfl, iteB (fun c => ?_) (fun c => ?_)⟩
  · have e := int_is (j := 6) c
    subst e
    exact ⟨_, rfl, v, rfl, newx_of (by decide) q⟩
  have n6 := int_no (j := 6) c
  clear c
  refine ⟨_, rfl, rfl, _, rfl, iteB (fun c => ?_) (fun c => ?_)⟩
  · have e := int_is (j := 7) c
    subst e
    exact ⟨_, rfl, v, rfl, newx_of (by decide) q⟩
  have n7 := int_no (j := 7) c
  clear c
  refine ⟨_, rfl, rfl, _, rfl, iteB (fun c => ?_) (fun c => ?_)⟩
  · have e := int_is (j := 8) c
    subst e
    exact ⟨_, rfl, v, rfl, newx_of (by decide) q⟩
  have n8 := int_no (j := 8) c
  clear c
  refine ⟨_, rfl, rfl, _, rfl, iteB (fun c => ?_) (fun c => ?_)⟩
  · have e := int_is (j := 9) c
    subst e
    exact ⟨_, rfl, v, rfl, newx_of (by decide) q⟩
  have n9 := int_no (j := 9) c
  clear c
  refine ⟨_, rfl, rfl, _, rfl, iteB (fun c => ?_) (fun c => ?_)⟩
  · have e := int_is (j := 10) c
    subst e
    exact ⟨_, rfl, v, rfl, newx_of (by decide) q⟩
  have n10 := int_no (j := 10) c
  clear c
  refine ⟨_, rfl, rfl, _, rfl, iteB (fun c => ?_) (fun c => ?_)⟩
  · have e := int_is (j := 11) c
    subst e
    exact ⟨_, rfl, v, rfl, newx_of (by decide) q⟩
  have n11 := int_no (j := 11) c
  clear c
  refine ⟨_, rfl, rfl, _, rfl, iteB (fun c => ?_) (fun c => ?_)⟩
  · have e := int_is (j := 12) c
    subst e
    exact ⟨_, rfl, v, rfl, newx_of (by decide) q⟩
  have n12 := int_no (j := 12) c
  clear c
  refine ⟨_, rfl, rfl, _, rfl, iteB (fun c => ?_) (fun c => ?_)⟩
  · have e := int_is (j := 13) c
    subst e
    exact ⟨_, rfl, v, rfl, newx_of (by decide) q⟩
  have n13 := int_no (j := 13) c
  clear c
  refine ⟨_, rfl, rfl, _, rfl, iteB (fun c => ?_) (fun c => ?_)⟩
  · have e := int_is (j := 14) c
    subst e
    exact ⟨_, rfl, v, rfl, newx_of (by decide) q⟩
  have n14 := int_no (j := 14) c
  clear c
  refine ⟨_, rfl, rfl, _, rfl, iteB (fun c => ?_) (fun c => ?_)⟩
  · have e := int_is (j := 15) c
    subst e
    exact ⟨_, rfl, v, rfl, newx_of (by decide) q⟩
  have n15 := int_no (j := 15) c
  clear c
  refine ⟨_, rfl, rfl, _, rfl, iteB (fun c => ?_) (fun c => ?_)⟩
  · have e := int_is (j := 16) c
    subst e
    exact ⟨_, rfl, v, rfl, newx_of (by decide) q⟩
  have n16 := int_no (j := 16) c
  clear c
  refine ⟨_, rfl, rfl, _, rfl, iteB (fun c => ?_) (fun c => ?_)⟩
  · have e := int_is (j := 17) c
    subst e
    exact ⟨_, rfl, v, rfl, newx_of (by decide) q⟩
  have n17 := int_no (j := 17) c
  clear c
  refine ⟨_, rfl, rfl, _, rfl, iteB (fun c => ?_) (fun c => ?_)⟩
  · have e := int_is (j := 18) c
    subst e
    exact ⟨_, rfl, v, rfl, newx_of (by decide) q⟩
  have n18 := int_no (j := 18) c
  clear c
  refine ⟨_, rfl, rfl, _, rfl, iteB (fun c => ?_) (fun c => ?_)⟩
  · have e := int_is (j := 19) c
    subst e
    exact ⟨_, rfl, v, rfl, newx_of (by decide) q⟩
  have n19 := int_no (j := 19) c
  have e : i = 20 := by omega
  subst e
  exact ⟨_, rfl, v, rfl, newx_of (by decide) q⟩
theorem ok_plain (T : Txt P w K mg base C fI fdI G) (F : L2.Fun K "_law_plain" "_law_plain" sPlain f fd) : FnOk P w K mg base CX0 3 f fd ["way", "value"] (spMk C 18 24) := by
  refine F.ok scPlain (fun vs H Q E h => ?_) (fun cdv A outer s H vs Q E hr h => ?_)
  · obtain ⟨i, v, rfl, _⟩ := h
    rfl
  obtain ⟨i, v, rfl, l0, l1, q⟩ := h
  refine ⟨_, pss_cons (ps_if (pt_cmpR op_eq (pv 0) pe_int (nomark _)) (pss_one (ps_ret (pe_mkX (T.x 18 (by decide)) (T.ini 18 (by decide)) hr (T.bd 18 (by decide)) (by rfl) (T.g 18 (by decide)) (pa_cons (pv 1) pa_nil)))) pss_nil)
    (pss_cons (ps_if (pt_cmpR op_eq (pv 0) pe_int (nomark _)) (pss_one (ps_ret (pe_mkX (T.x 19 (by decide)) (T.ini 19 (by decide)) hr (T.bd 19 (by decide)) (by rfl) (T.g 19 (by decide)) (pa_cons (pv 1) pa_nil)))) pss_nil)
    (pss_cons (ps_if (pt_cmpR op_eq (pv 0) pe_int (nomark _)) (pss_one (ps_ret (pe_mkX (T.x 20 (by decide)) (T.ini 20 (by decide)) hr (T.bd 20 (by decide)) (by rfl) (T.g 20 (by decide)) (pa_cons (pv 1) pa_nil)))) pss_nil)
    (pss_cons (ps_if (pt_cmpR op_eq (pv 0) pe_int (nomark _)) (pss_one (ps_ret (pe_mkX0 PySem.F.excBase_ValueError (T.q 21 (by decide) (by decide)) (T.g 21 (by decide)) (T.kp 21 (by decide)) (by rfl)))) pss_nil)
    (pss_one (ps_ret (pe_ifExp (pt_cmpR op_eq (pv 0) pe_int (nomark _)) (pe_mkX0 PySem.F.excBase_ValueError (T.q 22 (by decide) (by decide)) (T.g 22 (by decide)) (T.kp 22 (by decide)) (by rfl)) (pe_mkX0 PySem.F.excBase_ValueError (T.q 23 (by decide) (by decide)) (T.g 23 (by decide)) (T.kp 23 (by decide)) (by rfl)))))))), ?_⟩
  refine ⟨_, rfl, rfl, _, rfl, iteB (fun c => ?_) (fun c => ?_)⟩
  · have e := int_is (j := 18) c
    subst e
    exact ⟨_, rfl, v, rfl, newx_of (by decide) q⟩
  have n18 := int_no (j := 18) c
  clear c
  refine ⟨_, rfl, rfl, _, rfl, iteB (fun c => ?_) (fun c => ?_)⟩
  · have e := int_is (j := 19) c
    subst e
    exact ⟨_, rfl, v, rfl, newx_of (by decide) q⟩
  have n19 := int_no (j := 19) c
  clear c
  refine ⟨_, rfl, rfl, _, rfl, iteB (fun c => ?_) (fun c => ?_)⟩
  · have e := int_is (j := 20) c
    subst e
    exact ⟨_, rfl, v, rfl, newx_of (by decide) q⟩
  have n20 := int_no (j := 20) c
  clear c
  refine ⟨_, rfl, rfl, _, rfl, iteB (fun c => ?_) (fun c => ?_)⟩
  · have e := int_is (j := 21) c
    subst e
    exact new0_of (by decide) q
  have n21 := int_no (j := 21) c
  clear c
  refine ⟨_, rfl, rfl, _, rfl, iteB (fun c => ?_) (fun c => ?_)⟩
  · have e := int_is (j := 22) c
    subst e
    exact new0_of (by decide) q
  have n22 := int_no (j := 22) c
  have e : i = 23 := by omega
  subst e
  exact new0_of (by decide) q
end
end My

set_option maxHeartbeats 4000000
namespace My
open PySem PySem.Spec PyProof.Rows L2
theorem scKin : FnScope ["e", "found"] ["e"] (defScope sKin) := ⟨rfl, rfl, rfl, by decide +kernel, rfl, by decide +kernel, by decide +kernel⟩
theorem scLone : FnScope ["e", "way", "k"] ["e", "way"] (defScope sLone) := ⟨rfl, rfl, rfl, by decide +kernel, rfl, by decide +kernel, by decide +kernel⟩
/-- under which classes the error at a stands -/
def spKin (K : PySem.W.Frag) (C : Nat → Addr) : Sp := fun vs H Q _ => ∃ (a D : Addr) (b : Nat → Bool), vs = [.ref a] ∧ IsX H a D ∧ XIs K D ∧ (∀ j, j < 24 → PySem.W.kitOne K (.ref D) (.ref (C j)) = some (b j)) ∧
  ∀ (p : Addr) (H' : Hp), Same H H' → H' p = some (.lst ((List.range 24).map fun j => V.bl (b j))) → Q (.ref p) H'
def spLone (C : Nat → Addr) : Sp := fun vs H Q _ => ∃ (a : Addr) (i : Nat), vs = [.ref a, .int (i : Int)] ∧ i < 24 ∧ IsX H a (C i) ∧ ∀ H', Same H H' → Q (.bl true) H'
section
variable {P : Program} {w : World} {K : PySem.W.Frag} {mg : Str → Option Value} {base : Heap} {C fI : Nat → Addr} {fdI : Nat → FuncData} {G f fK : Addr} {fd dK : FuncData}
theorem ok_kin (T : Txt P w K mg base C fI fdI G) (F : L2.Fun K "_law_kin" "_law_kin" sKin f fd) (ms : mg "isinstance" = none) : FnOk P w K mg base CX0 1 f fd ["e"] (spKin K C) := by
  refine F.ok scKin (fun vs H Q E h => ?_) (fun cdv A outer s H vs Q E hr h => ?_)
  · obtain ⟨a, D, b, rfl, _⟩ := h
    rfl
  obtain ⟨a, D, b, rfl, hx, xd, kit, q⟩ := h
  refine ⟨_, pss_cons (ps_set (i := 1) scKin.nd rfl (.inl rfl) (pe_lst (pa_cons (pe_callB call_isX (by rfl) ms (by decide +kernel) (pa_cons (pv 0) (pa_cons (pe_glob (v := .ref (C 0)) (by rfl) (T.g 0 (by decide)) rfl) pa_nil))) (pa_cons (pe_callB call_isX (by rfl) ms (by decide +kernel) (pa_cons (pv 0) (pa_cons (pe_glob (v := .ref (C 1)) (by rfl) (T.g 1 (by decide)) rfl) pa_nil))) (pa_cons (pe_callB call_isX (by rfl) ms (by decide +kernel) (pa_cons (pv 0) (pa_cons (pe_glob (v := .ref (C 2)) (by rfl) (T.g 2 (by decide)) rfl) pa_nil))) pa_nil)))))
    (pss_cons (ps_set (i := 1) scKin.nd rfl (.inl rfl) (pe_op op_cat (pv 1) (pe_lst (pa_cons (pe_callB call_isX (by rfl) ms (by decide +kernel) (pa_cons (pv 0) (pa_cons (pe_glob (v := .ref (C 3)) (by rfl) (T.g 3 (by decide)) rfl) pa_nil))) (pa_cons (pe_callB call_isX (by rfl) ms (by decide +kernel) (pa_cons (pv 0) (pa_cons (pe_glob (v := .ref (C 4)) (by rfl) (T.g 4 (by decide)) rfl) pa_nil))) (pa_cons (pe_callB call_isX (by rfl) ms (by decide +kernel) (pa_cons (pv 0) (pa_cons (pe_glob (v := .ref (C 5)) (by rfl) (T.g 5 (by decide)) rfl) pa_nil))) pa_nil))))))
    (pss_cons (ps_set (i := 1) scKin.nd rfl (.inl rfl) (pe_op op_cat (pv 1) (pe_lst (pa_cons (pe_callB call_isX (by rfl) ms (by decide +kernel) (pa_cons (pv 0) (pa_cons (pe_glob (v := .ref (C 6)) (by rfl) (T.g 6 (by decide)) rfl) pa_nil))) (pa_cons (pe_callB call_isX (by rfl) ms (by decide +kernel) (pa_cons (pv 0) (pa_cons (pe_glob (v := .ref (C 7)) (by rfl) (T.g 7 (by decide)) rfl) pa_nil))) (pa_cons (pe_callB call_isX (by rfl) ms (by decide +kernel) (pa_cons (pv 0) (pa_cons (pe_glob (v := .ref (C 8)) (by rfl) (T.g 8 (by decide)) rfl) pa_nil))) pa_nil))))))
    (pss_cons (ps_set (i := 1) scKin.nd rfl (.inl rfl) (pe_op op_cat (pv 1) (pe_lst (pa_cons (pe_callB call_isX (by rfl) ms (by decide +kernel) (pa_cons (pv 0) (pa_cons (pe_glob (v := .ref (C 9)) (by rfl) (T.g 9 (by decide)) rfl) pa_nil))) (pa_cons (pe_callB call_isX (by rfl) ms (by decide +kernel) (pa_cons (pv 0) (pa_cons (pe_glob (v := .ref (C 10)) (by rfl) (T.g 10 (by decide)) rfl) pa_nil))) (pa_cons (pe_callB call_isX (by rfl) ms (by decide +kernel) (pa_cons (pv 0) (pa_cons (pe_glob (v := .ref (C 11)) (by rfl) (T.g 11 (by decide)) rfl) pa_nil))) pa_nil))))))
    (pss_cons (ps_set (i := 1) scKin.nd rfl (.inl rfl) (pe_op op_cat (pv 1) (pe_lst (pa_cons (pe_callB call_isX (by rfl) ms (by decide +kernel) (pa_cons (pv 0) (pa_cons (pe_glob (v := .ref (C 12)) (by rfl) (T.g 12 (by decide)) rfl) pa_nil))) (pa_cons (pe_callB call_isX (by rfl) ms (by decide +kernel) (pa_cons (pv 0) (pa_cons (pe_glob (v := .ref (C 13)) (by rfl) (T.g 13 (by decide)) rfl) pa_nil))) (pa_cons (pe_callB call_isX (by rfl) ms (by decide +kernel) (pa_cons (pv 0) (pa_cons (pe_glob (v := .ref (C 14)) (by rfl) (T.g 14 (by decide)) rfl) pa_nil))) pa_nil))))))
    (pss_cons (ps_set (i := 1) scKin.nd rfl (.inl rfl) (pe_op op_cat (pv 1) (pe_lst (pa_cons (pe_callB call_isX (by rfl) ms (by decide +kernel) (pa_cons (pv 0) (pa_cons (pe_glob (v := .ref (C 15)) (by rfl) (T.g 15 (by decide)) rfl) pa_nil))) (pa_cons (pe_callB call_isX (by rfl) ms (by decide +kernel) (pa_cons (pv 0) (pa_cons (pe_glob (v := .ref (C 16)) (by rfl) (T.g 16 (by decide)) rfl) pa_nil))) (pa_cons (pe_callB call_isX (by rfl) ms (by decide +kernel) (pa_cons (pv 0) (pa_cons (pe_glob (v := .ref (C 17)) (by rfl) (T.g 17 (by decide)) rfl) pa_nil))) pa_nil))))))
    (pss_cons (ps_set (i := 1) scKin.nd rfl (.inl rfl) (pe_op op_cat (pv 1) (pe_lst (pa_cons (pe_callB call_isX (by rfl) ms (by decide +kernel) (pa_cons (pv 0) (pa_cons (pe_glob (v := .ref (C 18)) (by rfl) (T.g 18 (by decide)) rfl) pa_nil))) (pa_cons (pe_callB call_isX (by rfl) ms (by decide +kernel) (pa_cons (pv 0) (pa_cons (pe_glob (v := .ref (C 19)) (by rfl) (T.g 19 (by decide)) rfl) pa_nil))) (pa_cons (pe_callB call_isX (by rfl) ms (by decide +kernel) (pa_cons (pv 0) (pa_cons (pe_glob (v := .ref (C 20)) (by rfl) (T.g 20 (by decide)) rfl) pa_nil))) pa_nil))))))
    (pss_one (ps_ret (pe_op op_cat (pv 1) (pe_lst (pa_cons (pe_callB call_isX (by rfl) ms (by decide +kernel) (pa_cons (pv 0) (pa_cons (pe_glob (v := .ref (C 21)) (by rfl) (T.g 21 (by decide)) rfl) pa_nil))) (pa_cons (pe_callB call_isX (by rfl) ms (by decide +kernel) (pa_cons (pv 0) (pa_cons (pe_glob (v := .ref (C 22)) (by rfl) (T.g 22 (by decide)) rfl) pa_nil))) (pa_cons (pe_callB call_isX (by rfl) ms (by decide +kernel) (pa_cons (pv 0) (pa_cons (pe_glob (v := .ref (C 23)) (by rfl) (T.g 23 (by decide)) rfl) pa_nil))) pa_nil))))))))))))), ?_⟩
  refine ⟨_, rfl, a, D, _, _, b 0, rfl, .own _, hx, xd, kit 0 (by decide), _, rfl, a, D, _, _, b 1, rfl, .own _, hx, xd, kit 1 (by decide), _, rfl, a, D, _, _, b 2, rfl, .own _, hx, xd, kit 2 (by decide), (by show 3 ≤ sizeLine; decide), fun q0 n0 => ?_⟩
  have s0 : Same H _ := same_new n0 (.lst [.bl (b 0), .bl (b 1), .bl (b 2)])
  refine ⟨_, rfl, _, rfl, a, D, _, _, b 3, rfl, .own _, IsX.same s0 hx, xd, kit 3 (by decide), _, rfl, a, D, _, _, b 4, rfl, .own _, IsX.same s0 hx, xd, kit 4 (by decide), _, rfl, a, D, _, _, b 5, rfl, .own _, IsX.same s0 hx, xd, kit 5 (by decide), (by show 3 ≤ sizeLine; decide), fun m0 x0 => ?_⟩
  refine ⟨q0, m0, [.bl (b 0), .bl (b 1), .bl (b 2)], _, rfl, rfl, same_new x0 _ _ _ upd_same, upd_same, (by show 6 ≤ sizeLine; decide), fun q1 n1 => ?_⟩
  have s1 := (s0.trans (same_new x0 _)).trans (same_new n1 (.lst [.bl (b 0), .bl (b 1), .bl (b 2), .bl (b 3), .bl (b 4), .bl (b 5)]))
  refine ⟨_, rfl, _, rfl, a, D, _, _, b 6, rfl, .own _, IsX.same s1 hx, xd, kit 6 (by decide), _, rfl, a, D, _, _, b 7, rfl, .own _, IsX.same s1 hx, xd, kit 7 (by decide), _, rfl, a, D, _, _, b 8, rfl, .own _, IsX.same s1 hx, xd, kit 8 (by decide), (by show 3 ≤ sizeLine; decide), fun m1 x1 => ?_⟩
  refine ⟨q1, m1, [.bl (b 0), .bl (b 1), .bl (b 2), .bl (b 3), .bl (b 4), .bl (b 5)], _, rfl, rfl, same_new x1 _ _ _ upd_same, upd_same, (by show 9 ≤ sizeLine; decide), fun q2 n2 => ?_⟩
  have s2 := (s1.trans (same_new x1 _)).trans (same_new n2 (.lst [.bl (b 0), .bl (b 1), .bl (b 2), .bl (b 3), .bl (b 4), .bl (b 5), .bl (b 6), .bl (b 7), .bl (b 8)]))
  refine ⟨_, rfl, _, rfl, a, D, _, _, b 9, rfl, .own _, IsX.same s2 hx, xd, kit 9 (by decide), _, rfl, a, D, _, _, b 10, rfl, .own _, IsX.same s2 hx, xd, kit 10 (by decide), _, rfl, a, D, _, _, b 11, rfl, .own _, IsX.same s2 hx, xd, kit 11 (by decide), (by show 3 ≤ sizeLine; decide), fun m2 x2 => ?_⟩
  refine ⟨q2, m2, [.bl (b 0), .bl (b 1), .bl (b 2), .bl (b 3), .bl (b 4), .bl (b 5), .bl (b 6), .bl (b 7), .bl (b 8)], _, rfl, rfl, same_new x2 _ _ _ upd_same, upd_same, (by show 12 ≤ sizeLine; decide), fun q3 n3 => ?_⟩
  have s3 := (s2.trans (same_new x2 _)).trans (same_new n3 (.lst [.bl (b 0), .bl (b 1), .bl (b 2), .bl (b 3), .bl (b 4), .bl (b 5), .bl (b 6), .bl (b 7), .bl (b 8), .bl (b 9), .bl (b 10), .bl (b 11)]))
  refine ⟨_, rfl, _, rfl, a, D, _, _, b 12, rfl, .own _, IsX.same s3 hx, xd, kit 12 (by decide), _, rfl, a, D, _, _, b 13, rfl, .own _, IsX.same s3 hx, xd, kit 13 (by decide), _, rfl, a, D, _, _, b 14, rfl, .own _, IsX.same s3 hx, xd, kit 14 (by decide), (by show 3 ≤ sizeLine; decide), fun m3 x3 => ?_⟩
  refine ⟨q3, m3, [.bl (b 0), .bl (b 1), .bl (b 2), .bl (b 3), .bl (b 4), .bl (b 5), .bl (b 6), .bl (b 7), .bl (b 8), .bl (b 9), .bl (b 10), .bl (b 11)], _, rfl, rfl, same_new x3 _ _ _ upd_same, upd_same, (by show 15 ≤ sizeLine; decide), fun q4 n4 => ?_⟩
  have s4 := (s3.trans (same_new x3 _)).trans (same_new n4 (.lst [.bl (b 0), .bl (b 1), .bl (b 2), .bl (b 3), .bl (b 4), .bl (b 5), .bl (b 6), .bl (b 7), .bl (b 8), .bl (b 9), .bl (b 10), .bl (b 11), .bl (b 12), .bl (b 13), .bl (b 14)]))
  refine ⟨_, rfl, _, rfl, a, D, _, _, b 15, rfl, .own _, IsX.same s4 hx, xd, kit 15 (by decide), _, rfl, a, D, _, _, b 16, rfl, .own _, IsX.same s4 hx, xd, kit 16 (by decide), _, rfl, a, D, _, _, b 17, rfl, .own _, IsX.same s4 hx, xd, kit 17 (by decide), (by show 3 ≤ sizeLine; decide), fun m4 x4 => ?_⟩
  refine ⟨q4, m4, [.bl (b 0), .bl (b 1), .bl (b 2), .bl (b 3), .bl (b 4), .bl (b 5), .bl (b 6), .bl (b 7), .bl (b 8), .bl (b 9), .bl (b 10), .bl (b 11), .bl (b 12), .bl (b 13), .bl (b 14)], _, rfl, rfl, same_new x4 _ _ _ upd_same, upd_same, (by show 18 ≤ sizeLine; decide), fun q5 n5 => ?_⟩
  have s5 := (s4.trans (same_new x4 _)).trans (same_new n5 (.lst [.bl (b 0), .bl (b 1), .bl (b 2), .bl (b 3), .bl (b 4), .bl (b 5), .bl (b 6), .bl (b 7), .bl (b 8), .bl (b 9), .bl (b 10), .bl (b 11), .bl (b 12), .bl (b 13), .bl (b 14), .bl (b 15), .bl (b 16), .bl (b 17)]))
  refine ⟨_, rfl, _, rfl, a, D, _, _, b 18, rfl, .own _, IsX.same s5 hx, xd, kit 18 (by decide), _, rfl, a, D, _, _, b 19, rfl, .own _, IsX.same s5 hx, xd, kit 19 (by decide), _, rfl, a, D, _, _, b 20, rfl, .own _, IsX.same s5 hx, xd, kit 20 (by decide), (by show 3 ≤ sizeLine; decide), fun m5 x5 => ?_⟩
  refine ⟨q5, m5, [.bl (b 0), .bl (b 1), .bl (b 2), .bl (b 3), .bl (b 4), .bl (b 5), .bl (b 6), .bl (b 7), .bl (b 8), .bl (b 9), .bl (b 10), .bl (b 11), .bl (b 12), .bl (b 13), .bl (b 14), .bl (b 15), .bl (b 16), .bl (b 17)], _, rfl, rfl, same_new x5 _ _ _ upd_same, upd_same, (by show 21 ≤ sizeLine; decide), fun q6 n6 => ?_⟩
  have s6 := (s5.trans (same_new x5 _)).trans (same_new n6 (.lst [.bl (b 0), .bl (b 1), .bl (b 2), .bl (b 3), .bl (b 4), .bl (b 5), .bl (b 6), .bl (b 7), .bl (b 8), .bl (b 9), .bl (b 10), .bl (b 11), .bl (b 12), .bl (b 13), .bl (b 14), .bl (b 15), .bl (b 16), .bl (b 17), .bl (b 18), .bl (b 19), .bl (b 20)]))
  refine ⟨_, rfl, _, rfl, a, D, _, _, b 21, rfl, .own _, IsX.same s6 hx, xd, kit 21 (by decide), _, rfl, a, D, _, _, b 22, rfl, .own _, IsX.same s6 hx, xd, kit 22 (by decide), _, rfl, a, D, _, _, b 23, rfl, .own _, IsX.same s6 hx, xd, kit 23 (by decide), (by show 3 ≤ sizeLine; decide), fun m6 x6 => ?_⟩
  refine ⟨q6, m6, [.bl (b 0), .bl (b 1), .bl (b 2), .bl (b 3), .bl (b 4), .bl (b 5), .bl (b 6), .bl (b 7), .bl (b 8), .bl (b 9), .bl (b 10), .bl (b 11), .bl (b 12), .bl (b 13), .bl (b 14), .bl (b 15), .bl (b 16), .bl (b 17), .bl (b 18), .bl (b 19), .bl (b 20)], _, rfl, rfl, same_new x6 _ _ _ upd_same, upd_same, (by show 24 ≤ sizeLine; decide), fun q7 n7 => ?_⟩
  have s7 := (s6.trans (same_new x6 _)).trans (same_new n7 (.lst [.bl (b 0), .bl (b 1), .bl (b 2), .bl (b 3), .bl (b 4), .bl (b 5), .bl (b 6), .bl (b 7), .bl (b 8), .bl (b 9), .bl (b 10), .bl (b 11), .bl (b 12), .bl (b 13), .bl (b 14), .bl (b 15), .bl (b 16), .bl (b 17), .bl (b 18), .bl (b 19), .bl (b 20), .bl (b 21), .bl (b 22), .bl (b 23)]))
  exact q q7 _ s7 upd_same
end
theorem same_put {H H1 : Hp} {D : Addr} {o : HO} (s : Same H H1) (n : H D = none) : Same H (upd H1 D o) := fun b u e => by
  rw [upd_ne (ne_of_none e n)]
  exact s b u e
theorem bools_shaped : ∀ bs : List Bool, PyData.canLayAll0 (bs.map PyData.bool) = true ∧ PyData.depthAll (bs.map PyData.bool) ≤ 1
  | [] => by simp [PyData.canLayAll0, PyData.depthAll]
  | b :: bs => by
    have ih := bools_shaped bs
    simp [PyData.canLayAll0, PyData.depthAll, PyData.canLay0, PyData.depth, ih.1]
    simpa using ih.2
theorem shaped_bools (bs : List Bool) : SeqAt.shaped (.list (bs.map PyData.bool)) = true := by
  have ih := bools_shaped bs
  unfold SeqAt.shaped
  rw [Bool.and_eq_true]
  refine ⟨by simpa [PyData.canLay0] using ih.1, decide_eq_true ?_⟩
  simp only [PyData.depth]
  omega
theorem dp_bools {K : PySem.W.Frag} {H : Hp} : ∀ bs : List Bool, DpAll K H (bs.map V.bl) (bs.map PyData.bool)
  | [] => .nil
  | b :: bs => .cons (.bl b) (dp_bools bs)
theorem eqv_bools (bs : List Bool) : PyData.eqv (.list (bs.map PyData.bool)) (.list (bs.map PyData.bool)) = true := PySem.SeqAt.eqv_refl _ (SeqAt.canLay_of_shaped (shaped_bools bs))
section
variable {P : Program} {w : World} {K : PySem.W.Frag} {mg : Str → Option Value} {base : Heap} {C fI : Nat → Addr} {fdI : Nat → FuncData} {G f fK : Addr} {fd dK : FuncData}
theorem ok_lone (T : Txt P w K mg base C fI fdI G) (F : L2.Fun K "_law_is_lone" "_law_is_lone" sLone f fd) (GK : FnOk P w K mg base CX0 1 fK dK ["e"] (spKin K C)) (bK : L2.Binds K dK ["e"] []) (kK : PySem.W.keepIn K (.ref fK) = true) (mK : mg "_law_kin" = some (.ref fK))
    (ms : mg "isinstance" = none) (mr : mg "range" = none) (mV : mg "ValueError" = none) (mL : mg "LookupError" = none) (mT : mg "TypeError" = none) (mA : mg "ArithmeticError" = none) : FnOk P w K mg base CX0 2 f fd ["e", "way"] (spLone C) := by
  refine F.ok scLone (fun vs H Q E h => ?_) (fun cdv A outer s H vs Q E hr h => ?_)
  · obtain ⟨a, i, rfl, _⟩ := h
    rfl
  obtain ⟨a, i, rfl, l, hx, q⟩ := h
  refine ⟨_, pss_cons (ps_if (PW.pt (pw_or (pt_cmpR (op_neD hr.units) (pe_call GK hr (by rfl) mK kK bK .nil pass0 (pa_cons (pv 0) pa_nil))
        (pe_lc (own := [("k", 2)]) (g := gName 2) (tt := tYes) rfl scLone.nd (pi_range1 rfl mr (pa_cons pe_int pa_nil)) (blkOk_by (N := ["e", "way", "k"]) (sc := defScope sLone) (by decide +kernel)) (fun _ _ _ _ _ => pg_name (i := 2) scLone.nd rfl (Or.inl rfl)) (fun _ _ _ _ _ => pts_nil)
          (fun _ _ _ _ _ => pe_cmpR op_eq (pv 2) (pv 1) (nomark _))) (nomark _))
        (pw_or (pt_not (pt_val (pe_callB call_isX (by rfl) ms (by decide +kernel) (pa_cons (pv 0) (pa_cons (pe_glob (v := .ref G) (by rfl) T.gG rfl) pa_nil)))))
        (pw_or1 (pt_not (pt_val (pe_callB call_isX (by rfl) ms (by decide +kernel) (pa_cons (pv 0) (pa_cons (pe_bltn (v := .ty "ValueError") (by rfl) mV (by decide +kernel) rfl) pa_nil)))))))))
      (pss_one (ps_ret pe_bl)) pss_nil)
    (pss_one (ps_ret (pe_and (pe_not (pe_callB call_isX (by rfl) ms (by decide +kernel) (pa_cons (pv 0) (pa_cons (pe_bltn (v := .ty "LookupError") (by rfl) mL (by decide +kernel) rfl) pa_nil))))
      (pe_and (pe_not (pe_callB call_isX (by rfl) ms (by decide +kernel) (pa_cons (pv 0) (pa_cons (pe_bltn (v := .ty "TypeError") (by rfl) mT (by decide +kernel) rfl) pa_nil))))
      (pe_one (pe_not (pe_callB call_isX (by rfl) ms (by decide +kernel) (pa_cons (pv 0) (pa_cons (pe_bltn (v := .ty "ArithmeticError") (by rfl) mA (by decide +kernel) rfl) pa_nil))))))))), ?_⟩
  refine ⟨_, rfl, a, C i, fun j => decide (i = j), rfl, hx, T.xi i l, fun j lj => T.kit i j l lj, fun p H1 s1 hp => ?_⟩
  refine ⟨24, rfl, by decide, by decide, fun D nD => lc_range (lo := 0) (n := 24) (fun k H' => Same H1 H' ∧ H' D = some (.lst ((List.range k).map fun j : Nat => V.bl (decide (V.int (j : Int) = V.int (i : Int)))))) ⟨same_new nD _, upd_same⟩ ?_ ?_⟩
  · rintro k H' lk ⟨sk, hD⟩
    refine ⟨rfl, ?_⟩
    refine ⟨_, rfl, _, rfl, rfl, _, hD, ?_, same_put sk nD, ?_⟩
    · rw [List.length_map, List.length_range]
      exact small1000 (by omega)
    · rw [upd_same, List.range_succ, List.map_append]
      have e0 : (0 : Int) + (k : Int) = (k : Int) := Int.zero_add _
      rw [e0]
      rfl
  · rintro H2 ⟨s2, hD⟩
    have h24 : ∀ j : Nat, decide (V.int (j : Int) = V.int (i : Int)) = decide (i = j) := fun j => by
      by_cases e : i = j
      · rw [decide_eq_true e, e, decide_eq_true rfl]
      · rw [decide_eq_false e, decide_eq_false fun z => e (by have := V.int.inj z; omega)]
    have p1 : Dp K H2 (.ref p) (.list (((List.range 24).map fun j => decide (i = j)).map PyData.bool)) := by
      refine .lst (SqL.of (s2 _ _ hp)) ?_
      have z := dp_bools (K := K) (H := H2) ((List.range 24).map fun j => decide (i = j))
      rw [List.map_map] at z
      exact z
    have p2 : Dp K H2 (.ref D) (.list (((List.range 24).map fun j => decide (i = j)).map PyData.bool)) := by
      refine .lst (SqL.of hD) ?_
      have z := dp_bools (K := K) (H := H2) ((List.range 24).map fun j => decide (i = j))
      rw [List.map_map] at z
      have e : (List.range 24).map (fun j : Nat => V.bl (decide (V.int (j : Int) = V.int (i : Int)))) = (List.range 24).map (V.bl ∘ fun j => decide (i = j)) := List.map_congr_left fun j _ => by rw [h24 j]; rfl
      rw [e]
      exact z
    have s12 := s1.trans s2
    have hx2 := IsX.same s12 hx
    refine ⟨_, _, p1, p2, shaped_bools _, shaped_bools _, _, rfl, ?_⟩
    rw [eqv_bools]
    refine iteF ⟨_, rfl, a, C i, _, _, true, rfl, .own _, hx2, T.xi i l, T.kitG i l, true, rfl, iteF ⟨_, rfl, a, C i, _, _, true, rfl, .ty _, hx2, T.xi i l, T.kitV i l, true, rfl, iteF ?_⟩⟩
    exact ⟨_, rfl, a, C i, _, _, false, rfl, .ty _, hx2, T.xi i l, T.kitL i l, false, rfl, true, rfl, iteT ⟨_, rfl, a, C i, _, _, false, rfl, .ty _, hx2, T.xi i l, T.kitT i l, false, rfl, true, rfl,
      iteT ⟨_, rfl, a, C i, _, _, false, rfl, .ty _, hx2, T.xi i l, T.kitA i l, false, rfl, q H2 s12⟩⟩⟩
end
end My

set_option maxHeartbeats 4000000
namespace My
open PySem PySem.Spec PyProof.Rows L2
theorem scRight : FnScope ["well", "way", "value", "errors", "e", "base"] ["well"] (defScope sRight) := ⟨rfl, rfl, rfl, by decide +kernel, rfl, by decide +kernel, by decide +kernel⟩
theorem joinS {i : Nat} {σ : L2.St} {N : L2.St → Hp → Prop} {G : Prop} {R : V → Hp → Prop} (h : (∀ v H, R v H → gName i v σ H N) → G) (g : ∀ v H, R v H → gName i v σ H N) : G := h g
def spRight : Sp := fun vs H Q _ => ∃ p : Addr, vs = [.ref p] ∧ Wl H p ∧ ∀ H', But p H H' → Q (.bl true) H'
section
variable {P : Program} {w : World} {K : PySem.W.Frag} {mg : Str → Option Value} {base : Heap} {C fI : Nat → Addr} {fdI : Nat → FuncData} {G f fV fA fN fB fL fS fK : Addr} {fd dV dA dN dB dL dS dK : FuncData}
theorem ok_right (T : Txt P w K mg base C fI fdI G) (F : L2.Fun K "_law_right" "_law_right" sRight f fd)
    (GV : FnOk P w K mg base CX0 3 fV dV ["well"] (spValue K)) (bV : L2.Binds K dV ["well"] []) (kV : PySem.W.keepIn K (.ref fV) = true) (mV : mg "_law_value" = some (.ref fV))
    (GA : FnOk P w K mg base CX0 3 fA dA ["way", "value"] (spMk C 0 18)) (bA : L2.Binds K dA ["way", "value"] []) (kA : PySem.W.keepIn K (.ref fA) = true) (mA : mg "_law_given" = some (.ref fA))
    (GN : FnOk P w K mg base CX0 3 fN dN ["way", "value"] (spMk C 0 21)) (bN : L2.Binds K dN ["way", "value"] []) (kN : PySem.W.keepIn K (.ref fN) = true) (mN : mg "_law_named" = some (.ref fN))
    (GB : FnOk P w K mg base CX0 3 fB dB ["way", "value"] (spMk C 18 24)) (bB : L2.Binds K dB ["way", "value"] []) (kB : PySem.W.keepIn K (.ref fB) = true) (mB : mg "_law_plain" = some (.ref fB))
    (GL : FnOk P w K mg base CX0 2 fL dL ["e", "way"] (spLone C)) (bL : L2.Binds K dL ["e", "way"] []) (kL : PySem.W.keepIn K (.ref fL) = true) (mL : mg "_law_is_lone" = some (.ref fL))
    (GS : FnG P w K mg base CX0 1 fS dS ["told", "due"] (spSame K)) (bS : L2.Binds K dS ["told", "due"] []) (kS : PySem.W.keepIn K (.ref fS) = true) (mS : mg "_law_same" = some (.ref fS))
    (GK : FnOk P w K mg base CX0 1 fK dK ["e"] (spKin K C)) (bK : L2.Binds K dK ["e"] []) (kK : PySem.W.keepIn K (.ref fK) = true) (mK : mg "_law_kin" = some (.ref fK))
    (mr : mg "range" = none) (ms : mg "isinstance" = none) (mE : mg "ValueError" = none) : FnG P w K mg base CX0 5 f fd ["well"] spRight := by
  refine okG F scRight (fun vs H Q E h => ?_) (fun cdv A outer s H vs Q E gd hr h => ?_)
  · obtain ⟨p, rfl, _⟩ := h
    rfl
  obtain ⟨p, rfl, w0, q⟩ := h
  have gd' : (A.deeper (envOfC "_law_right" (defScope sRight) s.heap.objs.size f cdv)).guards = some [] := gd
  refine ⟨_, (pss_cons (ps_for PassesOwn.never rfl (pi_range1 rfl mr (pa_cons pe_int pa_nil)) (pg_name (i := 1) scRight.nd rfl (.inl rfl)) (pss_cons (ps_set (i := 2) scRight.nd rfl (.inl rfl) (pe_call GV (hr.mono (by decide)) (by rfl) mV kV bV .nil pass0 (pa_cons (pv 0) pa_nil)))
      (pss_cons (ps_set (i := 3) scRight.nd rfl (.inl rfl) (pe_lst (pa_cons (pe_ifExp (pt_cmpR op_lt (pv 1) pe_int (nomark _)) (pe_call GA (hr.mono (by decide)) (by rfl) mA kA bA .nil pass0 (pa_cons (pv 1) (pa_cons (pv 2) pa_nil))) (pe_call GB (hr.mono (by decide)) (by rfl) mB kB bB .nil pass0 (pa_cons (pv 1) (pa_cons (pv 2) pa_nil)))) pa_nil)))
      (pss_cons (ps_set (i := 3) scRight.nd rfl (.inl rfl) (pe_op op_cat (pv 3) (pe_ifExp (pt_cmpR op_lt (pv 1) pe_int (nomark _)) (pe_lst (pa_cons (pe_call GN (hr.mono (by decide)) (by rfl) mN kN bN .nil pass0 (pa_cons (pv 1) (pa_cons (pv 2) pa_nil))) pa_nil)) (pe_lst pa_nil))))
      (pss_one (ps_for PassesOwn.never rfl (pi_list (pv 3)) (pg_name (i := 4) scRight.nd rfl (.inl rfl)) (pss_cons (ps_if (pt_not (pt_val (pe_call GL (hr.mono (by decide)) (by rfl) mL kL bL .nil pass0 (pa_cons (pv 4) (pa_cons (pv 1) pa_nil))))) (pss_one (ps_ret pe_bl)) pss_nil)
      (pss_one (ps_if (PW.pt (pw_or (PW.pt (pw_and (pt_cmpR op_lt (pv 1) pe_int (nomark _)) (pw_and1 (pt_not (pt_val (pe_callG GS gd' (hr.mono (by decide)) (by rfl) mS kS bS pass0 (pa_cons (pe_xget (pv 4)) (pa_cons (pv 2) pa_nil)))))))) (pw_or1 (PW.pt (pw_and (pt_chain op_lt op_lt pe_int (pv 1) pe_int) (pw_and1 (pt_not (pt_val (pe_callG GS gd' (hr.mono (by decide)) (by rfl) mS kS bS pass0 (pa_cons (pe_xget (pv 4)) (pa_cons (pv 2) pa_nil))))))))))) (pss_one (ps_ret pe_bl)) pss_nil)))))))))
      (pss_cons (ps_set (i := 5) scRight.nd rfl (.inl rfl) (pe_mkX0 PySem.F.excBase_ValueError T.qG T.gG T.kG (by rfl)))
      (pss_one (ps_ret (pe_and (pe_callB call_isX (by rfl) ms (by decide +kernel) (pa_cons (pv 5) (pa_cons (pe_bltn (v := .ty "ValueError") (by rfl) mE (by decide +kernel) rfl) pa_nil))) (pe_one (pe_cmpR (op_eqD hr.units) (pe_call GK (hr.mono (by decide)) (by rfl) mK kK bK .nil pass0 (pa_cons (pv 5) pa_nil)) (pe_op op_rep (pe_lst (pa_cons pe_bl pa_nil)) pe_int) (nomark _)))))))), ?_⟩
  refine ⟨24, rfl, by decide, by decide, for_range (lo := 0) (n := 24) (fun _ σ H' => ∃ s1 s2 s3 s4 s5 : Option V, σ = [some (.ref p), s1, s2, s3, s4, s5] ∧ Wl H' p ∧ But p H H') ⟨none, none, none, none, none, rfl, w0, .refl p H⟩ ?_ ?_⟩
  · rintro k σ H0 lk ⟨s1, s2, s3, s4, s5, rfl, w1, b0⟩
    rw [Int.zero_add]
    refine ⟨_, rfl, p, rfl, w1, fun v d H1 dd fd1 b1 w2 => ?_⟩
    refine' joinS (i := 3) (R := fun x H2 => ∃ (l a : Addr), x = .ref l ∧ H2 l = some (.lst [.ref a]) ∧ ErrAt C H2 a k v ∧ Same H1 H2) (fun go => ?_) ?_
    rotate_left 2
    · refine ⟨_, rfl, _, _, rfl, rfl, _, rfl, iteB (fun c => ?_) (fun c => ?_)⟩
      · have c1 : (k : Int) < 18 := of_decide_eq_true c
        exact ⟨_, rfl, _, rfl, k, v, rfl, by omega, by omega, fun a H2 sm na er => ⟨(by show 1 ≤ sizeLine; decide), fun l nl => go _ _ ⟨l, a, rfl, upd_same, er.same (same_new nl _), sm.trans (same_new nl _)⟩⟩⟩
      · have c1 : ¬ (k : Int) < 18 := of_decide_eq_false c
        exact ⟨_, rfl, _, rfl, k, v, rfl, by omega, by omega, fun a H2 sm na er => ⟨(by show 1 ≤ sizeLine; decide), fun l nl => go _ _ ⟨l, a, rfl, upd_same, er.same (same_new nl _), sm.trans (same_new nl _)⟩⟩⟩
    rintro _ H2 ⟨l, a, rfl, hl, er, s12⟩
    refine' joinS (i := 3) (R := fun x H3 => ∃ (m : Addr) (xs : List V), x = .ref m ∧ H3 m = some (.lst xs) ∧ xs.length ≤ 2 ∧ (∀ y ∈ xs, ∃ a, y = .ref a ∧ ErrAt C H3 a k v) ∧ Same H2 H3) (fun go => ?_) ?_
    rotate_left 2
    · refine ⟨_, rfl, _, rfl, _, _, rfl, rfl, _, rfl, iteB (fun c => ?_) (fun c => ?_)⟩
      · have c1 : (k : Int) < 21 := of_decide_eq_true c
        refine ⟨_, rfl, _, rfl, k, v, rfl, by omega, by omega, fun a2 H3 sm na er2 => ⟨(by show 1 ≤ sizeLine; decide), fun l2 nl2 => ?_⟩⟩
        refine ⟨l, l2, [.ref a], [.ref a2], rfl, rfl, same_new nl2 _ _ _ (sm _ _ hl), upd_same, (by show 2 ≤ sizeLine; decide), fun m nm => ?_⟩
        have e1 := (sm.trans (same_new nl2 (.lst [.ref a2]))).trans (same_new nm (.lst ([.ref a] ++ [.ref a2])))
        refine go _ _ ⟨m, _, rfl, upd_same, by show 2 ≤ 2; decide, ?_, e1⟩
        intro y hy
        rcases List.mem_cons.mp hy with rfl | hy
        · exact ⟨a, rfl, er.same e1⟩
        · have hy' := List.mem_singleton.mp hy
          subst hy'
          exact ⟨a2, rfl, er2.same ((same_new nl2 _).trans (same_new nm _))⟩
      · refine ⟨(by show 0 ≤ sizeLine; decide), fun l2 nl2 => ⟨l, l2, [.ref a], [], rfl, rfl, same_new nl2 _ _ _ hl, upd_same, (by show 1 ≤ sizeLine; decide), fun m nm => ?_⟩⟩
        have e1 := (same_new nl2 (.lst [])).trans (same_new nm (.lst ([.ref a] ++ [])))
        refine go _ _ ⟨m, _, rfl, upd_same, by show 1 ≤ 2; decide, ?_, e1⟩
        intro y hy
        have hy' := List.mem_singleton.mp hy
        subst hy'
        exact ⟨a, rfl, er.same e1⟩
    rintro _ H3 ⟨m, xs, rfl, hm, lx, hxs, s23⟩
    have b3 : But p H0 H3 := b1.trans ((But.of s12).trans (.of s23))
    have w3 : Wl H3 p := by
      obtain ⟨x, y, z, e⟩ := w2
      exact ⟨x, y, z, s23 _ _ (s12 _ _ e)⟩
    have dd3 : Dd K H3 v d := (dd.same (hide_sub p H1)).same (s12.trans s23)
    refine ⟨_, rfl, m, rfl, ⟨_, SqL.of hm⟩, for_list (K := K) (a := m) (xs := xs) (fun _ σ H' => ∃ s6 : Option V, σ = [some (.ref p), some (.int (k : Int)), some v, some (.ref m), s6, s5] ∧ Same H3 H') ⟨s4, rfl, .refl _⟩ ?_ ?_ ?_⟩
    · rintro i σ H' _ ⟨s6, rfl, sm⟩
      exact SqL.of (sm _ _ hm)
    · rintro i y σ H4 hi ⟨s6, rfl, s34⟩
      obtain ⟨a, rfl, ea⟩ := hxs y (List.mem_of_getElem? hi)
      have ea4 := ea.same s34
      refine ⟨_, rfl, _, rfl, a, k, rfl, lk, ea4.isX, fun H5 s45 => ⟨true, rfl, ?_⟩⟩
      have ea5 := ea4.same s45
      have dd5 := dd3.same (s34.trans s45)
      have s35 := s34.trans s45
      by_cases c18 : k < 18
      · have ef : fld k = "given" := if_pos c18
        obtain ⟨l21, dx, h1, h2⟩ | ⟨l21, _⟩ := ea5
        · have x := T.x k (by omega)
          refine ⟨_, rfl, _, _, rfl, rfl, _, rfl, iteB (fun c => ?_) (fun c => ?_)⟩
          · refine ⟨_, rfl, a, C k, dx, _, v, rfl, h1, h2, x.xf, ef ▸ x.no, by rw [ef]; simp, _, rfl, v, v, d, d, rfl, dd5, dd5, fd1, fd1, _, rfl, ?_⟩
            rw [decide_eq_true rfl]
            refine ⟨_, rfl, _, _, rfl, rfl, _, rfl, iteB (fun c2 => ?_) (fun c2 => ?_)⟩
            · have z : (17 : Int) < (k : Int) := of_decide_eq_true c2
              omega
            · exact ⟨false, rfl, ⟨some (.ref a), rfl, s35⟩⟩
          · exact absurd (show ((k : Nat) : Int) < 18 by omega) (of_decide_eq_false c)
        · omega
      · have ef : fld k = "index" := if_neg c18
        refine ⟨_, rfl, _, _, rfl, rfl, _, rfl, iteB (fun c => ?_) (fun c => ?_)⟩
        · have z : (k : Int) < 18 := of_decide_eq_true c
          omega
        refine ⟨_, rfl, _, _, rfl, rfl, _, rfl, iteB (fun c2 => ?_) (fun c2 => ?_)⟩
        · obtain ⟨l21, dx, h1, h2⟩ | ⟨l21, _⟩ := ea5
          · have x := T.x k (by omega)
            refine ⟨_, _, rfl, rfl, _, rfl, iteB (fun c3 => ?_) (fun c3 => ?_)⟩
            · refine ⟨_, rfl, a, C k, dx, _, v, rfl, h1, h2, x.xf, ef ▸ x.no, by rw [ef]; simp, _, rfl, v, v, d, d, rfl, dd5, dd5, fd1, fd1, _, rfl, ?_⟩
              rw [decide_eq_true rfl]
              exact ⟨some (.ref a), rfl, s35⟩
            · exact absurd (show ((k : Nat) : Int) < 21 by omega) (of_decide_eq_false c3)
          · refine ⟨_, _, rfl, rfl, _, rfl, iteB (fun c3 => ?_) (fun c3 => ?_)⟩
            · have z : (k : Int) < 21 := of_decide_eq_true c3
              omega
            · exact ⟨some (.ref a), rfl, s35⟩
        · exact absurd (show (17 : Int) < (k : Int) by omega) (of_decide_eq_false c2)
    · rintro σ H' ⟨s6, rfl, sm⟩
      obtain ⟨x, y, z, e⟩ := w3
      exact ⟨_, _, _, _, _, rfl, ⟨x, y, z, sm _ _ e⟩, b0.trans (b3.trans (.of sm))⟩
  · rintro σ H' ⟨s1, s2, s3, s4, s5, rfl, w1, b0⟩
    intro g ng
    refine ⟨_, rfl, g, G, _, _, true, rfl, .ty _, .inr upd_same, T.xG, T.GV, true, rfl, ?_⟩
    refine ⟨_, rfl, g, G, fun _ => false, rfl, .inr upd_same, T.xG, fun j lj => T.GC j lj, fun p2 H2 s2 hp2 => ?_⟩
    refine ⟨(by show 1 ≤ sizeLine; decide), fun q2 n2 => ?_⟩
    refine ⟨q2, 24, [.bl false], rfl, rfl, upd_same, by decide, by decide, (by show 24 ≤ sizeLine; decide), fun q3 n3 => ?_⟩
    have e1 : (List.range 24).map (fun j : Nat => V.bl ((fun _ => false) j)) = (List.replicate 24 false).map V.bl := by decide
    have e2 : (List.replicate (24 : Int).toNat [V.bl false]).flatten = (List.replicate 24 false).map V.bl := by decide
    rw [e1] at hp2
    rw [e2]
    have hp3 : upd (upd H2 q2 (.lst [.bl false])) q3 (.lst ((List.replicate 24 false).map V.bl)) p2 = some (.lst ((List.replicate 24 false).map V.bl)) := same_new n3 _ _ _ (same_new n2 _ _ _ hp2)
    refine ⟨_, _, .lst (SqL.of hp3) (dp_bools _), .lst (SqL.of upd_same) (dp_bools _), shaped_bools _, shaped_bools _, ?_⟩
    rw [eqv_bools]
    refine q _ (b0.trans ((But.new ng).trans ((But.of s2).trans ((But.new n2).trans (.new n3)))))
end
end My

set_option maxHeartbeats 4000000
namespace My
open PySem PySem.Spec PyProof.Rows L2
theorem scLaw : FnScope ["script", "turn"] ["script"] (defScope sLaw) := ⟨rfl, rfl, rfl, by decide +kernel, rfl, by decide +kernel, by decide +kernel⟩
def spLaw (K : PySem.W.Frag) : Sp := fun vs H Q _ => ∃ (a : Addr) (ns : List Int), vs = [.ref a] ∧ SqL K H a (ns.map V.int) ∧ ns.length ≤ 63 ∧ ∀ H', Q (.bl true) H'
section
variable {P : Program} {w : World} {K : PySem.W.Frag} {mg : Str → Option Value} {base : Heap} {f fW fR : Addr} {fd dW dR : FuncData} {n : Nat}
theorem ok_law (F : L2.Fun K "law" "law" sLaw f fd) (GW : FnOk P w K mg base CX0 1 fW dW ["script", "turn"] (spWell K)) (bW : L2.Binds K dW ["script", "turn"] []) (kW : PySem.W.keepIn K (.ref fW) = true) (mW : mg "_law_well" = some (.ref fW))
    (GR : FnG P w K mg base CX0 (n + 1) fR dR ["well"] spRight) (bR : L2.Binds K dR ["well"] []) (kR : PySem.W.keepIn K (.ref fR) = true) (mR : mg "_law_right" = some (.ref fR))
    (mr : mg "range" = none) (ml : mg "len" = none) (ma : mg "all" = none) (mx : mg "max" = none) (mn : mg "min" = none) : FnG P w K mg base CX0 (n + 2) f fd ["script"] (spLaw K) := by
  refine okG F scLaw (fun vs H Q E h => ?_) (fun cdv A outer s H vs Q E gd hr h => ?_)
  · obtain ⟨a, ns, rfl, _⟩ := h
    rfl
  obtain ⟨a, ns, rfl, hS, h63, q⟩ := h
  have gd' : (A.deeper (envOfC "law" (defScope sLaw) s.heap.objs.size f cdv)).guards = some [] := gd
  refine ⟨_, pss_one (ps_ret (pe_callB (cr_all rfl) (by rfl) ma (by decide +kernel) (pa_cons (pe_lc (own := [("turn", 1)]) (g := gName 1) (tt := tYes) rfl scLaw.nd
      (pi_range1 rfl mr (pa_cons (pe_callB (call_max2 rfl) (by rfl) mx (by decide +kernel) (pa_cons pe_int (pa_cons (pe_callB (call_min2 rfl) (by rfl) mn (by decide +kernel) (pa_cons (pe_callB call_len_seq (by rfl) ml PySem.boot_len (pa_cons (pv 0) pa_nil)) (pa_cons pe_int pa_nil))) pa_nil))) pa_nil))
      (blkOk_by (N := ["script", "turn"]) (sc := defScope sLaw) (by decide +kernel)) (fun _ _ _ _ _ => pg_name (i := 1) scLaw.nd rfl (Or.inl rfl)) (fun _ _ _ _ _ => pts_nil)
      (fun _ _ _ _ _ => pe_callG GR gd' hr (by rfl) mR kR bR pass0 (pa_cons (pe_call GW (hr.mono (Nat.le_add_left 1 n)) (by rfl) mW kW bW .nil pass0 (pa_cons (pv 0) (pa_cons (pv 1) pa_nil))) pa_nil))) pa_nil))), ?_⟩
  have hl : (ns.map V.int).length = ns.length := List.length_map _
  refine ⟨_, rfl, a, _, rfl, .inl hS, _, _, rfl, _, _, rfl, ?_⟩
  rw [hl]
  obtain ⟨j, hj, j0, j3⟩ : ∃ j : Int, (if (if (3 : Int) < ((ns.length : Nat) : Int) then (3 : Int) else ((ns.length : Nat) : Int)) > 2 then (if (3 : Int) < ((ns.length : Nat) : Int) then (3 : Int) else ((ns.length : Nat) : Int)) else 2) = j ∧ 0 ≤ j ∧ j ≤ 3 := by
    refine ⟨_, rfl, ?_, ?_⟩
    · split <;> (try split) <;> omega
    · split <;> (try split) <;> omega
  rw [hj]
  refine ⟨j, rfl, by omega, by omega, fun D nD => lc_range (lo := 0) (n := j.toNat) (fun k H' => Same H H' ∧ H' D = some (.lst ((List.replicate k true).map V.bl))) ⟨same_new nD _, upd_same⟩ ?_ ?_⟩
  · rintro k H1 lk ⟨s1, hD⟩
    rw [Int.zero_add]
    refine ⟨rfl, ?_⟩
    refine ⟨_, rfl, _, rfl, a, ns, k, rfl, L2.Same.seq s1 hS, h63, by omega, fun H2 p s2 np wl => ⟨p, rfl, wl, fun H3 bt => ?_⟩⟩
    have s3 : Same H1 H3 := fun b o e => bt b o (ne_of_none e np) (s2 b o e)
    refine ⟨_, s3 _ _ hD, ?_, same_put (s1.trans s3) nD, ?_⟩
    · rw [List.length_map, List.length_replicate]
      exact small1000 (by omega)
    · rw [upd_same, List.replicate_succ', List.map_append]
      rfl
  · rintro H1 ⟨s1, hD⟩
    refine ⟨D, List.replicate j.toNat true, rfl, SqL.of hD, ?_⟩
    have e : (List.replicate j.toNat true).all id = true := by simp
    rw [e]
    exact q H1
end
end My

set_option maxHeartbeats 4000000
namespace My
open PySem PySem.Spec PyProof.Rows L2
/-! ### facts of the written part, by looking -/
def oexB (K : PySem.W.Frag) (C : Addr) : Bool := match K.lookup C with
  | some ⟨.type "type", _, .cls cd, sl⟩ => (match cd.mro, sl.toList with
    | .ref D :: bm, [_, _, _, _, some (.builtin n), _] => decide (D = C) && (decide (n = "ValueError.__new__") && (!cd.hasDel && (cd.hasDict && PySem.HandSPX.refsVE bm)))
    | _, _ => false)
  | _ => false
theorem oexB_ok {K : PySem.W.Frag} {C : Addr} (h : oexB K C = true) : ∃ nm q N bs bm sn sub ab col dd k0 k1 k2 k3 k5, K.lookup C = some (excClassObj nm q C N bs bm true sn sub ab col dd k0 k1 k2 k3 k5 "ValueError.__new__") ∧ PySem.HandSPX.refsVE bm = true := by
  unfold oexB at h
  split at h
  · rename_i dd cd sl ho
    split at h
    · rename_i D bm k0 k1 k2 k3 n k5 hm hs
      simp only [Bool.and_eq_true, decide_eq_true_eq, Bool.not_eq_true'] at h
      obtain ⟨rfl, rfl, hdel, hdict, hv⟩ := h
      obtain ⟨nm, bs, mro, ns, qn, hd, sn, sub, ab, col, del⟩ := cd
      dsimp only at hm hdel hdict
      subst hm hdel hdict
      obtain ⟨ls⟩ := sl
      simp only at hs
      subst hs
      exact ⟨nm, qn, ns, bs, bm, sn, sub, ab, col, dd, k0, k1, k2, k3, k5, ho, hv⟩
    · cases h
  · cases h
def xisB (K : PySem.W.Frag) (C : Addr) : Bool := (PySem.W.clsIn K C).isSome && (xfB K C && (decide (PySem.W.findIn K (.ref C) "__class__" = some (some (.builtin "object.__class__"))) && decide (PySem.W.mroIn K C (.type "object") = some true)))
def descB (K : PySem.W.Frag) : Bool := decide (PySem.W.specialIn K (.builtin "object.__class__") "__get__" = some (some (.builtin "getset_descriptor.__get__"))) && decide (PySem.W.takesIn K (.builtin "object.__class__") = some true)
theorem xisB_ok {K : PySem.W.Frag} {C : Addr} (d : descB K = true) (h : xisB K C = true) : XIs K C := by
  unfold xisB at h
  unfold descB at d
  simp only [Bool.and_eq_true, decide_eq_true_eq] at h d
  obtain ⟨h1, h2, h3, h4⟩ := h
  exact ⟨h1, xfB_ok h2, h3, d.1, d.2, h4⟩
def iniB (K : PySem.W.Frag) (C fI : Addr) (fld : Str) : Bool := oexB K C && (decide (PySem.W.findIn K (.ref C) "__setattr__" = some (some (.builtin "object.__setattr__"))) && (decide (PySem.W.subIn K (.ref C) (.type "BaseException") = some true) &&
  (decide (PySem.W.typeIn K (.ref C) = some (.type "type")) && (PySem.W.keepIn K (.ref C) && (decide (PySem.W.typeIn K (.ref fI) = some (.type "function")) && (xfB K C && decide (PySem.W.findIn K (.ref C) fld = some none)))))))
theorem iniB_ok {K : PySem.W.Frag} {C fI : Addr} {fld : Str} (i : PySem.W.findIn K (.ref C) "__init__" = some (some (.ref fI))) (h : iniB K C fI fld = true) : XCls K C fI fld := by
  unfold iniB at h
  simp only [Bool.and_eq_true, decide_eq_true_eq] at h
  obtain ⟨h1, h2, h3, h4, h5, h6, h7, h8⟩ := h
  exact ⟨⟨oexB_ok h1, h2, h3, h4, h5⟩, i, h6, xfB_ok h7, h8⟩
theorem below {n : Nat} {p : Nat → Bool} (h : (List.range n).all p = true) (i : Nat) (hi : i < n) : p i = true := List.all_eq_true.mp h i (List.mem_range.mpr hi)
section
variable {P : Program} {w : World} {K : PySem.W.Frag} {mg : Str → Option Value} {base : Heap} {C f : Addr} {fd : FuncData}
theorem ok_init0 (F : L2.Fun K "__init__" "InvalidGraph.__init__" (inClass (top 2) 0) f fd) (T : OexC K C) (no : PySem.W.findIn K (.ref C) "given" = some none) : FnOk P w K mg base CX0 1 f fd ["self", "given"] (spInit C "given") := by
  refine F.ok (show FnScope ["self", "given"] ["self", "given"] (defScope (inClass (top 2) 0)) from ⟨rfl, rfl, rfl, by decide +kernel, rfl, by decide +kernel, by decide +kernel⟩) (fun vs H Q E h => ?_) (fun cdv A outer s H vs Q E hr h => ?_)
  · obtain ⟨a, v, rfl, _⟩ := h
    rfl
  obtain ⟨a, v, rfl, ha, q⟩ := h
  refine ⟨_, pss_one (ps_ost (pv 0) (pv 1)), ?_⟩
  exact ⟨_, rfl, _, rfl, a, C, rfl, T, no, .inl ⟨ha, q⟩⟩
theorem ok_init1 (F : L2.Fun K "__init__" "InvalidLot.__init__" (inClass (top 3) 0) f fd) (T : OexC K C) (no : PySem.W.findIn K (.ref C) "given" = some none) : FnOk P w K mg base CX0 1 f fd ["self", "given"] (spInit C "given") := by
  refine F.ok (show FnScope ["self", "given"] ["self", "given"] (defScope (inClass (top 3) 0)) from ⟨rfl, rfl, rfl, by decide +kernel, rfl, by decide +kernel, by decide +kernel⟩) (fun vs H Q E h => ?_) (fun cdv A outer s H vs Q E hr h => ?_)
  · obtain ⟨a, v, rfl, _⟩ := h
    rfl
  obtain ⟨a, v, rfl, ha, q⟩ := h
  refine ⟨_, pss_one (ps_ost (pv 0) (pv 1)), ?_⟩
  exact ⟨_, rfl, _, rfl, a, C, rfl, T, no, .inl ⟨ha, q⟩⟩
theorem ok_init2 (F : L2.Fun K "__init__" "InvalidVertex.__init__" (inClass (top 4) 0) f fd) (T : OexC K C) (no : PySem.W.findIn K (.ref C) "given" = some none) : FnOk P w K mg base CX0 1 f fd ["self", "given"] (spInit C "given") := by
  refine F.ok (show FnScope ["self", "given"] ["self", "given"] (defScope (inClass (top 4) 0)) from ⟨rfl, rfl, rfl, by decide +kernel, rfl, by decide +kernel, by decide +kernel⟩) (fun vs H Q E h => ?_) (fun cdv A outer s H vs Q E hr h => ?_)
  · obtain ⟨a, v, rfl, _⟩ := h
    rfl
  obtain ⟨a, v, rfl, ha, q⟩ := h
  refine ⟨_, pss_one (ps_ost (pv 0) (pv 1)), ?_⟩
  exact ⟨_, rfl, _, rfl, a, C, rfl, T, no, .inl ⟨ha, q⟩⟩
theorem ok_init3 (F : L2.Fun K "__init__" "InvalidWeights.__init__" (inClass (top 5) 0) f fd) (T : OexC K C) (no : PySem.W.findIn K (.ref C) "given" = some none) : FnOk P w K mg base CX0 1 f fd ["self", "given"] (spInit C "given") := by
  refine F.ok (show FnScope ["self", "given"] ["self", "given"] (defScope (inClass (top 5) 0)) from ⟨rfl, rfl, rfl, by decide +kernel, rfl, by decide +kernel, by decide +kernel⟩) (fun vs H Q E h => ?_) (fun cdv A outer s H vs Q E hr h => ?_)
  · obtain ⟨a, v, rfl, _⟩ := h
    rfl
  obtain ⟨a, v, rfl, ha, q⟩ := h
  refine ⟨_, pss_one (ps_ost (pv 0) (pv 1)), ?_⟩
  exact ⟨_, rfl, _, rfl, a, C, rfl, T, no, .inl ⟨ha, q⟩⟩
theorem ok_init4 (F : L2.Fun K "__init__" "InvalidShares.__init__" (inClass (top 6) 0) f fd) (T : OexC K C) (no : PySem.W.findIn K (.ref C) "given" = some none) : FnOk P w K mg base CX0 1 f fd ["self", "given"] (spInit C "given") := by
  refine F.ok (show FnScope ["self", "given"] ["self", "given"] (defScope (inClass (top 6) 0)) from ⟨rfl, rfl, rfl, by decide +kernel, rfl, by decide +kernel, by decide +kernel⟩) (fun vs H Q E h => ?_) (fun cdv A outer s H vs Q E hr h => ?_)
  · obtain ⟨a, v, rfl, _⟩ := h
    rfl
  obtain ⟨a, v, rfl, ha, q⟩ := h
  refine ⟨_, pss_one (ps_ost (pv 0) (pv 1)), ?_⟩
  exact ⟨_, rfl, _, rfl, a, C, rfl, T, no, .inl ⟨ha, q⟩⟩
theorem ok_init5 (F : L2.Fun K "__init__" "InvalidTimes.__init__" (inClass (top 7) 0) f fd) (T : OexC K C) (no : PySem.W.findIn K (.ref C) "given" = some none) : FnOk P w K mg base CX0 1 f fd ["self", "given"] (spInit C "given") := by
  refine F.ok (show FnScope ["self", "given"] ["self", "given"] (defScope (inClass (top 7) 0)) from ⟨rfl, rfl, rfl, by decide +kernel, rfl, by decide +kernel, by decide +kernel⟩) (fun vs H Q E h => ?_) (fun cdv A outer s H vs Q E hr h => ?_)
  · obtain ⟨a, v, rfl, _⟩ := h
    rfl
  obtain ⟨a, v, rfl, ha, q⟩ := h
  refine ⟨_, pss_one (ps_ost (pv 0) (pv 1)), ?_⟩
  exact ⟨_, rfl, _, rfl, a, C, rfl, T, no, .inl ⟨ha, q⟩⟩
theorem ok_init6 (F : L2.Fun K "__init__" "InvalidRenaming.__init__" (inClass (top 8) 0) f fd) (T : OexC K C) (no : PySem.W.findIn K (.ref C) "given" = some none) : FnOk P w K mg base CX0 1 f fd ["self", "given"] (spInit C "given") := by
  refine F.ok (show FnScope ["self", "given"] ["self", "given"] (defScope (inClass (top 8) 0)) from ⟨rfl, rfl, rfl, by decide +kernel, rfl, by decide +kernel, by decide +kernel⟩) (fun vs H Q E h => ?_) (fun cdv A outer s H vs Q E hr h => ?_)
  · obtain ⟨a, v, rfl, _⟩ := h
    rfl
  obtain ⟨a, v, rfl, ha, q⟩ := h
  refine ⟨_, pss_one (ps_ost (pv 0) (pv 1)), ?_⟩
  exact ⟨_, rfl, _, rfl, a, C, rfl, T, no, .inl ⟨ha, q⟩⟩
theorem ok_init7 (F : L2.Fun K "__init__" "InvalidNumber.__init__" (inClass (top 9) 0) f fd) (T : OexC K C) (no : PySem.W.findIn K (.ref C) "given" = some none) : FnOk P w K mg base CX0 1 f fd ["self", "given"] (spInit C "given") := by
  refine F.ok (show FnScope ["self", "given"] ["self", "given"] (defScope (inClass (top 9) 0)) from ⟨rfl, rfl, rfl, by decide +kernel, rfl, by decide +kernel, by decide +kernel⟩) (fun vs H Q E h => ?_) (fun cdv A outer s H vs Q E hr h => ?_)
  · obtain ⟨a, v, rfl, _⟩ := h
    rfl
  obtain ⟨a, v, rfl, ha, q⟩ := h
  refine ⟨_, pss_one (ps_ost (pv 0) (pv 1)), ?_⟩
  exact ⟨_, rfl, _, rfl, a, C, rfl, T, no, .inl ⟨ha, q⟩⟩
theorem ok_init8 (F : L2.Fun K "__init__" "InvalidOrientation.__init__" (inClass (top 10) 0) f fd) (T : OexC K C) (no : PySem.W.findIn K (.ref C) "given" = some none) : FnOk P w K mg base CX0 1 f fd ["self", "given"] (spInit C "given") := by
  refine F.ok (show FnScope ["self", "given"] ["self", "given"] (defScope (inClass (top 10) 0)) from ⟨rfl, rfl, rfl, by decide +kernel, rfl, by decide +kernel, by decide +kernel⟩) (fun vs H Q E h => ?_) (fun cdv A outer s H vs Q E hr h => ?_)
  · obtain ⟨a, v, rfl, _⟩ := h
    rfl
  obtain ⟨a, v, rfl, ha, q⟩ := h
  refine ⟨_, pss_one (ps_ost (pv 0) (pv 1)), ?_⟩
  exact ⟨_, rfl, _, rfl, a, C, rfl, T, no, .inl ⟨ha, q⟩⟩
theorem ok_init9 (F : L2.Fun K "__init__" "InvalidHole.__init__" (inClass (top 11) 0) f fd) (T : OexC K C) (no : PySem.W.findIn K (.ref C) "given" = some none) : FnOk P w K mg base CX0 1 f fd ["self", "given"] (spInit C "given") := by
  refine F.ok (show FnScope ["self", "given"] ["self", "given"] (defScope (inClass (top 11) 0)) from ⟨rfl, rfl, rfl, by decide +kernel, rfl, by decide +kernel, by decide +kernel⟩) (fun vs H Q E h => ?_) (fun cdv A outer s H vs Q E hr h => ?_)
  · obtain ⟨a, v, rfl, _⟩ := h
    rfl
  obtain ⟨a, v, rfl, ha, q⟩ := h
  refine ⟨_, pss_one (ps_ost (pv 0) (pv 1)), ?_⟩
  exact ⟨_, rfl, _, rfl, a, C, rfl, T, no, .inl ⟨ha, q⟩⟩
theorem ok_init10 (F : L2.Fun K "__init__" "InvalidMultigraph.__init__" (inClass (top 12) 0) f fd) (T : OexC K C) (no : PySem.W.findIn K (.ref C) "given" = some none) : FnOk P w K mg base CX0 1 f fd ["self", "given"] (spInit C "given") := by
  refine F.ok (show FnScope ["self", "given"] ["self", "given"] (defScope (inClass (top 12) 0)) from ⟨rfl, rfl, rfl, by decide +kernel, rfl, by decide +kernel, by decide +kernel⟩) (fun vs H Q E h => ?_) (fun cdv A outer s H vs Q E hr h => ?_)
  · obtain ⟨a, v, rfl, _⟩ := h
    rfl
  obtain ⟨a, v, rfl, ha, q⟩ := h
  refine ⟨_, pss_one (ps_ost (pv 0) (pv 1)), ?_⟩
  exact ⟨_, rfl, _, rfl, a, C, rfl, T, no, .inl ⟨ha, q⟩⟩
theorem ok_init11 (F : L2.Fun K "__init__" "InvalidColours.__init__" (inClass (top 13) 0) f fd) (T : OexC K C) (no : PySem.W.findIn K (.ref C) "given" = some none) : FnOk P w K mg base CX0 1 f fd ["self", "given"] (spInit C "given") := by
  refine F.ok (show FnScope ["self", "given"] ["self", "given"] (defScope (inClass (top 13) 0)) from ⟨rfl, rfl, rfl, by decide +kernel, rfl, by decide +kernel, by decide +kernel⟩) (fun vs H Q E h => ?_) (fun cdv A outer s H vs Q E hr h => ?_)
  · obtain ⟨a, v, rfl, _⟩ := h
    rfl
  obtain ⟨a, v, rfl, ha, q⟩ := h
  refine ⟨_, pss_one (ps_ost (pv 0) (pv 1)), ?_⟩
  exact ⟨_, rfl, _, rfl, a, C, rfl, T, no, .inl ⟨ha, q⟩⟩
theorem ok_init12 (F : L2.Fun K "__init__" "InvalidPreferences.__init__" (inClass (top 14) 0) f fd) (T : OexC K C) (no : PySem.W.findIn K (.ref C) "given" = some none) : FnOk P w K mg base CX0 1 f fd ["self", "given"] (spInit C "given") := by
  refine F.ok (show FnScope ["self", "given"] ["self", "given"] (defScope (inClass (top 14) 0)) from ⟨rfl, rfl, rfl, by decide +kernel, rfl, by decide +kernel, by decide +kernel⟩) (fun vs H Q E h => ?_) (fun cdv A outer s H vs Q E hr h => ?_)
  · obtain ⟨a, v, rfl, _⟩ := h
    rfl
  obtain ⟨a, v, rfl, ha, q⟩ := h
  refine ⟨_, pss_one (ps_ost (pv 0) (pv 1)), ?_⟩
  exact ⟨_, rfl, _, rfl, a, C, rfl, T, no, .inl ⟨ha, q⟩⟩
theorem ok_init13 (F : L2.Fun K "__init__" "InvalidMatching.__init__" (inClass (top 15) 0) f fd) (T : OexC K C) (no : PySem.W.findIn K (.ref C) "given" = some none) : FnOk P w K mg base CX0 1 f fd ["self", "given"] (spInit C "given") := by
  refine F.ok (show FnScope ["self", "given"] ["self", "given"] (defScope (inClass (top 15) 0)) from ⟨rfl, rfl, rfl, by decide +kernel, rfl, by decide +kernel, by decide +kernel⟩) (fun vs H Q E h => ?_) (fun cdv A outer s H vs Q E hr h => ?_)
  · obtain ⟨a, v, rfl, _⟩ := h
    rfl
  obtain ⟨a, v, rfl, ha, q⟩ := h
  refine ⟨_, pss_one (ps_ost (pv 0) (pv 1)), ?_⟩
  exact ⟨_, rfl, _, rfl, a, C, rfl, T, no, .inl ⟨ha, q⟩⟩
theorem ok_init14 (F : L2.Fun K "__init__" "InvalidLists.__init__" (inClass (top 16) 0) f fd) (T : OexC K C) (no : PySem.W.findIn K (.ref C) "given" = some none) : FnOk P w K mg base CX0 1 f fd ["self", "given"] (spInit C "given") := by
  refine F.ok (show FnScope ["self", "given"] ["self", "given"] (defScope (inClass (top 16) 0)) from ⟨rfl, rfl, rfl, by decide +kernel, rfl, by decide +kernel, by decide +kernel⟩) (fun vs H Q E h => ?_) (fun cdv A outer s H vs Q E hr h => ?_)
  · obtain ⟨a, v, rfl, _⟩ := h
    rfl
  obtain ⟨a, v, rfl, ha, q⟩ := h
  refine ⟨_, pss_one (ps_ost (pv 0) (pv 1)), ?_⟩
  exact ⟨_, rfl, _, rfl, a, C, rfl, T, no, .inl ⟨ha, q⟩⟩
theorem ok_init15 (F : L2.Fun K "__init__" "InvalidChange.__init__" (inClass (top 17) 0) f fd) (T : OexC K C) (no : PySem.W.findIn K (.ref C) "given" = some none) : FnOk P w K mg base CX0 1 f fd ["self", "given"] (spInit C "given") := by
  refine F.ok (show FnScope ["self", "given"] ["self", "given"] (defScope (inClass (top 17) 0)) from ⟨rfl, rfl, rfl, by decide +kernel, rfl, by decide +kernel, by decide +kernel⟩) (fun vs H Q E h => ?_) (fun cdv A outer s H vs Q E hr h => ?_)
  · obtain ⟨a, v, rfl, _⟩ := h
    rfl
  obtain ⟨a, v, rfl, ha, q⟩ := h
  refine ⟨_, pss_one (ps_ost (pv 0) (pv 1)), ?_⟩
  exact ⟨_, rfl, _, rfl, a, C, rfl, T, no, .inl ⟨ha, q⟩⟩
theorem ok_init16 (F : L2.Fun K "__init__" "InvalidCutset.__init__" (inClass (top 18) 0) f fd) (T : OexC K C) (no : PySem.W.findIn K (.ref C) "given" = some none) : FnOk P w K mg base CX0 1 f fd ["self", "given"] (spInit C "given") := by
  refine F.ok (show FnScope ["self", "given"] ["self", "given"] (defScope (inClass (top 18) 0)) from ⟨rfl, rfl, rfl, by decide +kernel, rfl, by decide +kernel, by decide +kernel⟩) (fun vs H Q E h => ?_) (fun cdv A outer s H vs Q E hr h => ?_)
  · obtain ⟨a, v, rfl, _⟩ := h
    rfl
  obtain ⟨a, v, rfl, ha, q⟩ := h
  refine ⟨_, pss_one (ps_ost (pv 0) (pv 1)), ?_⟩
  exact ⟨_, rfl, _, rfl, a, C, rfl, T, no, .inl ⟨ha, q⟩⟩
theorem ok_init17 (F : L2.Fun K "__init__" "Unfit.__init__" (inClass (top 19) 0) f fd) (T : OexC K C) (no : PySem.W.findIn K (.ref C) "given" = some none) : FnOk P w K mg base CX0 1 f fd ["self", "given"] (spInit C "given") := by
  refine F.ok (show FnScope ["self", "given"] ["self", "given"] (defScope (inClass (top 19) 0)) from ⟨rfl, rfl, rfl, by decide +kernel, rfl, by decide +kernel, by decide +kernel⟩) (fun vs H Q E h => ?_) (fun cdv A outer s H vs Q E hr h => ?_)
  · obtain ⟨a, v, rfl, _⟩ := h
    rfl
  obtain ⟨a, v, rfl, ha, q⟩ := h
  refine ⟨_, pss_one (ps_ost (pv 0) (pv 1)), ?_⟩
  exact ⟨_, rfl, _, rfl, a, C, rfl, T, no, .inl ⟨ha, q⟩⟩
theorem ok_init18 (F : L2.Fun K "__init__" "InvalidLine.__init__" (inClass (top 20) 0) f fd) (T : OexC K C) (no : PySem.W.findIn K (.ref C) "index" = some none) : FnOk P w K mg base CX0 1 f fd ["self", "index"] (spInit C "index") := by
  refine F.ok (show FnScope ["self", "index"] ["self", "index"] (defScope (inClass (top 20) 0)) from ⟨rfl, rfl, rfl, by decide +kernel, rfl, by decide +kernel, by decide +kernel⟩) (fun vs H Q E h => ?_) (fun cdv A outer s H vs Q E hr h => ?_)
  · obtain ⟨a, v, rfl, _⟩ := h
    rfl
  obtain ⟨a, v, rfl, ha, q⟩ := h
  refine ⟨_, pss_one (ps_ost (pv 0) (pv 1)), ?_⟩
  exact ⟨_, rfl, _, rfl, a, C, rfl, T, no, .inl ⟨ha, q⟩⟩
theorem ok_init19 (F : L2.Fun K "__init__" "InvalidSign.__init__" (inClass (top 21) 0) f fd) (T : OexC K C) (no : PySem.W.findIn K (.ref C) "index" = some none) : FnOk P w K mg base CX0 1 f fd ["self", "index"] (spInit C "index") := by
  refine F.ok (show FnScope ["self", "index"] ["self", "index"] (defScope (inClass (top 21) 0)) from ⟨rfl, rfl, rfl, by decide +kernel, rfl, by decide +kernel, by decide +kernel⟩) (fun vs H Q E h => ?_) (fun cdv A outer s H vs Q E hr h => ?_)
  · obtain ⟨a, v, rfl, _⟩ := h
    rfl
  obtain ⟨a, v, rfl, ha, q⟩ := h
  refine ⟨_, pss_one (ps_ost (pv 0) (pv 1)), ?_⟩
  exact ⟨_, rfl, _, rfl, a, C, rfl, T, no, .inl ⟨ha, q⟩⟩
theorem ok_init20 (F : L2.Fun K "__init__" "InvalidLog.__init__" (inClass (top 22) 0) f fd) (T : OexC K C) (no : PySem.W.findIn K (.ref C) "index" = some none) : FnOk P w K mg base CX0 1 f fd ["self", "index"] (spInit C "index") := by
  refine F.ok (show FnScope ["self", "index"] ["self", "index"] (defScope (inClass (top 22) 0)) from ⟨rfl, rfl, rfl, by decide +kernel, rfl, by decide +kernel, by decide +kernel⟩) (fun vs H Q E h => ?_) (fun cdv A outer s H vs Q E hr h => ?_)
  · obtain ⟨a, v, rfl, _⟩ := h
    rfl
  obtain ⟨a, v, rfl, ha, q⟩ := h
  refine ⟨_, pss_one (ps_ost (pv 0) (pv 1)), ?_⟩
  exact ⟨_, rfl, _, rfl, a, C, rfl, T, no, .inl ⟨ha, q⟩⟩
end
theorem all24 {Pr : Nat → Prop} (h0 : Pr 0) (h1 : Pr 1) (h2 : Pr 2) (h3 : Pr 3) (h4 : Pr 4) (h5 : Pr 5) (h6 : Pr 6) (h7 : Pr 7) (h8 : Pr 8) (h9 : Pr 9) (h10 : Pr 10) (h11 : Pr 11) (h12 : Pr 12) (h13 : Pr 13) (h14 : Pr 14) (h15 : Pr 15) (h16 : Pr 16) (h17 : Pr 17) (h18 : Pr 18) (h19 : Pr 19) (h20 : Pr 20) (h21 : Pr 21) (h22 : Pr 22) (h23 : Pr 23) : ∀ i, i < 24 → Pr i
  | 0, _ => h0
  | 1, _ => h1
  | 2, _ => h2
  | 3, _ => h3
  | 4, _ => h4
  | 5, _ => h5
  | 6, _ => h6
  | 7, _ => h7
  | 8, _ => h8
  | 9, _ => h9
  | 10, _ => h10
  | 11, _ => h11
  | 12, _ => h12
  | 13, _ => h13
  | 14, _ => h14
  | 15, _ => h15
  | 16, _ => h16
  | 17, _ => h17
  | 18, _ => h18
  | 19, _ => h19
  | 20, _ => h20
  | 21, _ => h21
  | 22, _ => h22
  | 23, _ => h23
  | m + 24, h => absurd h (by omega)
theorem all21 {Pr : Nat → Prop} (h0 : Pr 0) (h1 : Pr 1) (h2 : Pr 2) (h3 : Pr 3) (h4 : Pr 4) (h5 : Pr 5) (h6 : Pr 6) (h7 : Pr 7) (h8 : Pr 8) (h9 : Pr 9) (h10 : Pr 10) (h11 : Pr 11) (h12 : Pr 12) (h13 : Pr 13) (h14 : Pr 14) (h15 : Pr 15) (h16 : Pr 16) (h17 : Pr 17) (h18 : Pr 18) (h19 : Pr 19) (h20 : Pr 20) : ∀ i, i < 21 → Pr i
  | 0, _ => h0
  | 1, _ => h1
  | 2, _ => h2
  | 3, _ => h3
  | 4, _ => h4
  | 5, _ => h5
  | 6, _ => h6
  | 7, _ => h7
  | 8, _ => h8
  | 9, _ => h9
  | 10, _ => h10
  | 11, _ => h11
  | 12, _ => h12
  | 13, _ => h13
  | 14, _ => h14
  | 15, _ => h15
  | 16, _ => h16
  | 17, _ => h17
  | 18, _ => h18
  | 19, _ => h19
  | 20, _ => h20
  | m + 21, h => absurd h (by omega)
set_option maxHeartbeats 16000000 in
theorem all_mk {l : PySem.W.OpenLaw} {w : World} {K : PySem.W.Frag} {h : Heap} {mg : Str → Option Value} {fa C0 C1 C2 C3 C4 C5 C6 C7 C8 C9 C10 C11 C12 C13 C14 C15 C16 C17 C18 C19 C20 C21 C22 C23 I0 I1 I2 I3 I4 I5 I6 I7 I8 I9 I10 I11 I12 I13 I14 I15 I16 I17 I18 I19 I20 G f0 f1 f2 f3 f4 f5 f6 f7 f8 f9 f10 f11 : Addr} (X : K.In h) (GN : h.Ns mainGlobals mg) (hfa : mg "law" = some (.ref fa))
    (a0 : PySem.W.nsIn K mainGlobals "InvalidGraph" = some (some (.ref C0)))
    (a1 : PySem.W.nsIn K mainGlobals "InvalidLot" = some (some (.ref C1)))
    (a2 : PySem.W.nsIn K mainGlobals "InvalidVertex" = some (some (.ref C2)))
    (a3 : PySem.W.nsIn K mainGlobals "InvalidWeights" = some (some (.ref C3)))
    (a4 : PySem.W.nsIn K mainGlobals "InvalidShares" = some (some (.ref C4)))
    (a5 : PySem.W.nsIn K mainGlobals "InvalidTimes" = some (some (.ref C5)))
    (a6 : PySem.W.nsIn K mainGlobals "InvalidRenaming" = some (some (.ref C6)))
    (a7 : PySem.W.nsIn K mainGlobals "InvalidNumber" = some (some (.ref C7)))
    (a8 : PySem.W.nsIn K mainGlobals "InvalidOrientation" = some (some (.ref C8)))
    (a9 : PySem.W.nsIn K mainGlobals "InvalidHole" = some (some (.ref C9)))
    (a10 : PySem.W.nsIn K mainGlobals "InvalidMultigraph" = some (some (.ref C10)))
    (a11 : PySem.W.nsIn K mainGlobals "InvalidColours" = some (some (.ref C11)))
    (a12 : PySem.W.nsIn K mainGlobals "InvalidPreferences" = some (some (.ref C12)))
    (a13 : PySem.W.nsIn K mainGlobals "InvalidMatching" = some (some (.ref C13)))
    (a14 : PySem.W.nsIn K mainGlobals "InvalidLists" = some (some (.ref C14)))
    (a15 : PySem.W.nsIn K mainGlobals "InvalidChange" = some (some (.ref C15)))
    (a16 : PySem.W.nsIn K mainGlobals "InvalidCutset" = some (some (.ref C16)))
    (a17 : PySem.W.nsIn K mainGlobals "Unfit" = some (some (.ref C17)))
    (a18 : PySem.W.nsIn K mainGlobals "InvalidLine" = some (some (.ref C18)))
    (a19 : PySem.W.nsIn K mainGlobals "InvalidSign" = some (some (.ref C19)))
    (a20 : PySem.W.nsIn K mainGlobals "InvalidLog" = some (some (.ref C20)))
    (a21 : PySem.W.nsIn K mainGlobals "TooMany" = some (some (.ref C21)))
    (a22 : PySem.W.nsIn K mainGlobals "NothingToUndo" = some (some (.ref C22)))
    (a23 : PySem.W.nsIn K mainGlobals "NoPair" = some (some (.ref C23)))
    (aG : PySem.W.nsIn K mainGlobals "GraphError" = some (some (.ref G)))
    {o0 k0 e0 m0 d0 t0 : Value} {D0 N0 : Option Addr} {S0 : Array (Option Value)}
    (i0 : PySem.W.findIn K (.ref C0) "__init__" = some (some (.ref I0)))
    (l0 : K.lookup I0 = some ⟨o0, D0, .func (PySem.W.fnOf "__init__" "InvalidGraph.__init__" (defArgs (inClass (top 2) 0)) (defBody (inClass (top 2) 0)) (defScope (inClass (top 2) 0)) .none k0 e0 m0 N0 d0 t0), S0⟩)
    (c0 : PySem.W.codeIn K d0 "InvalidGraph.__init__" = true)
    (q0 : PySem.W.keepIn K (.ref I0) = true)
    {o1 k1 e1 m1 d1 t1 : Value} {D1 N1 : Option Addr} {S1 : Array (Option Value)}
    (i1 : PySem.W.findIn K (.ref C1) "__init__" = some (some (.ref I1)))
    (l1 : K.lookup I1 = some ⟨o1, D1, .func (PySem.W.fnOf "__init__" "InvalidLot.__init__" (defArgs (inClass (top 3) 0)) (defBody (inClass (top 3) 0)) (defScope (inClass (top 3) 0)) .none k1 e1 m1 N1 d1 t1), S1⟩)
    (c1 : PySem.W.codeIn K d1 "InvalidLot.__init__" = true)
    (q1 : PySem.W.keepIn K (.ref I1) = true)
    {o2 k2 e2 m2 d2 t2 : Value} {D2 N2 : Option Addr} {S2 : Array (Option Value)}
    (i2 : PySem.W.findIn K (.ref C2) "__init__" = some (some (.ref I2)))
    (l2 : K.lookup I2 = some ⟨o2, D2, .func (PySem.W.fnOf "__init__" "InvalidVertex.__init__" (defArgs (inClass (top 4) 0)) (defBody (inClass (top 4) 0)) (defScope (inClass (top 4) 0)) .none k2 e2 m2 N2 d2 t2), S2⟩)
    (c2 : PySem.W.codeIn K d2 "InvalidVertex.__init__" = true)
    (q2 : PySem.W.keepIn K (.ref I2) = true)
    {o3 k3 e3 m3 d3 t3 : Value} {D3 N3 : Option Addr} {S3 : Array (Option Value)}
    (i3 : PySem.W.findIn K (.ref C3) "__init__" = some (some (.ref I3)))
    (l3 : K.lookup I3 = some ⟨o3, D3, .func (PySem.W.fnOf "__init__" "InvalidWeights.__init__" (defArgs (inClass (top 5) 0)) (defBody (inClass (top 5) 0)) (defScope (inClass (top 5) 0)) .none k3 e3 m3 N3 d3 t3), S3⟩)
    (c3 : PySem.W.codeIn K d3 "InvalidWeights.__init__" = true)
    (q3 : PySem.W.keepIn K (.ref I3) = true)
    {o4 k4 e4 m4 d4 t4 : Value} {D4 N4 : Option Addr} {S4 : Array (Option Value)}
    (i4 : PySem.W.findIn K (.ref C4) "__init__" = some (some (.ref I4)))
    (l4 : K.lookup I4 = some ⟨o4, D4, .func (PySem.W.fnOf "__init__" "InvalidShares.__init__" (defArgs (inClass (top 6) 0)) (defBody (inClass (top 6) 0)) (defScope (inClass (top 6) 0)) .none k4 e4 m4 N4 d4 t4), S4⟩)
    (c4 : PySem.W.codeIn K d4 "InvalidShares.__init__" = true)
    (q4 : PySem.W.keepIn K (.ref I4) = true)
    {o5 k5 e5 m5 d5 t5 : Value} {D5 N5 : Option Addr} {S5 : Array (Option Value)}
    (i5 : PySem.W.findIn K (.ref C5) "__init__" = some (some (.ref I5)))
    (l5 : K.lookup I5 = some ⟨o5, D5, .func (PySem.W.fnOf "__init__" "InvalidTimes.__init__" (defArgs (inClass (top 7) 0)) (defBody (inClass (top 7) 0)) (defScope (inClass (top 7) 0)) .none k5 e5 m5 N5 d5 t5), S5⟩)
    (c5 : PySem.W.codeIn K d5 "InvalidTimes.__init__" = true)
    (q5 : PySem.W.keepIn K (.ref I5) = true)
    {o6 k6 e6 m6 d6 t6 : Value} {D6 N6 : Option Addr} {S6 : Array (Option Value)}
    (i6 : PySem.W.findIn K (.ref C6) "__init__" = some (some (.ref I6)))
    (l6 : K.lookup I6 = some ⟨o6, D6, .func (PySem.W.fnOf "__init__" "InvalidRenaming.__init__" (defArgs (inClass (top 8) 0)) (defBody (inClass (top 8) 0)) (defScope (inClass (top 8) 0)) .none k6 e6 m6 N6 d6 t6), S6⟩)
    (c6 : PySem.W.codeIn K d6 "InvalidRenaming.__init__" = true)
    (q6 : PySem.W.keepIn K (.ref I6) = true)
    {o7 k7 e7 m7 d7 t7 : Value} {D7 N7 : Option Addr} {S7 : Array (Option Value)}
    (i7 : PySem.W.findIn K (.ref C7) "__init__" = some (some (.ref I7)))
    (l7 : K.lookup I7 = some ⟨o7, D7, .func (PySem.W.fnOf "__init__" "InvalidNumber.__init__" (defArgs (inClass (top 9) 0)) (defBody (inClass (top 9) 0)) (defScope (inClass (top 9) 0)) .none k7 e7 m7 N7 d7 t7), S7⟩)
    (c7 : PySem.W.codeIn K d7 "InvalidNumber.__init__" = true)
    (q7 : PySem.W.keepIn K (.ref I7) = true)
    {o8 k8 e8 m8 d8 t8 : Value} {D8 N8 : Option Addr} {S8 : Array (Option Value)}
    (i8 : PySem.W.findIn K (.ref C8) "__init__" = some (some (.ref I8)))
    (l8 : K.lookup I8 = some ⟨o8, D8, .func (PySem.W.fnOf "__init__" "InvalidOrientation.__init__" (defArgs (inClass (top 10) 0)) (defBody (inClass (top 10) 0)) (defScope (inClass (top 10) 0)) .none k8 e8 m8 N8 d8 t8), S8⟩)
    (c8 : PySem.W.codeIn K d8 "InvalidOrientation.__init__" = true)
    (q8 : PySem.W.keepIn K (.ref I8) = true)
    {o9 k9 e9 m9 d9 t9 : Value} {D9 N9 : Option Addr} {S9 : Array (Option Value)}
    (i9 : PySem.W.findIn K (.ref C9) "__init__" = some (some (.ref I9)))
    (l9 : K.lookup I9 = some ⟨o9, D9, .func (PySem.W.fnOf "__init__" "InvalidHole.__init__" (defArgs (inClass (top 11) 0)) (defBody (inClass (top 11) 0)) (defScope (inClass (top 11) 0)) .none k9 e9 m9 N9 d9 t9), S9⟩)
    (c9 : PySem.W.codeIn K d9 "InvalidHole.__init__" = true)
    (q9 : PySem.W.keepIn K (.ref I9) = true)
    {o10 k10 e10 m10 d10 t10 : Value} {D10 N10 : Option Addr} {S10 : Array (Option Value)}
    (i10 : PySem.W.findIn K (.ref C10) "__init__" = some (some (.ref I10)))
    (l10 : K.lookup I10 = some ⟨o10, D10, .func (PySem.W.fnOf "__init__" "InvalidMultigraph.__init__" (defArgs (inClass (top 12) 0)) (defBody (inClass (top 12) 0)) (defScope (inClass (top 12) 0)) .none k10 e10 m10 N10 d10 t10), S10⟩)
    (c10 : PySem.W.codeIn K d10 "InvalidMultigraph.__init__" = true)
    (q10 : PySem.W.keepIn K (.ref I10) = true)
    {o11 k11 e11 m11 d11 t11 : Value} {D11 N11 : Option Addr} {S11 : Array (Option Value)}
    (i11 : PySem.W.findIn K (.ref C11) "__init__" = some (some (.ref I11)))
    (l11 : K.lookup I11 = some ⟨o11, D11, .func (PySem.W.fnOf "__init__" "InvalidColours.__init__" (defArgs (inClass (top 13) 0)) (defBody (inClass (top 13) 0)) (defScope (inClass (top 13) 0)) .none k11 e11 m11 N11 d11 t11), S11⟩)
    (c11 : PySem.W.codeIn K d11 "InvalidColours.__init__" = true)
    (q11 : PySem.W.keepIn K (.ref I11) = true)
    {o12 k12 e12 m12 d12 t12 : Value} {D12 N12 : Option Addr} {S12 : Array (Option Value)}
    (i12 : PySem.W.findIn K (.ref C12) "__init__" = some (some (.ref I12)))
    (l12 : K.lookup I12 = some ⟨o12, D12, .func (PySem.W.fnOf "__init__" "InvalidPreferences.__init__" (defArgs (inClass (top 14) 0)) (defBody (inClass (top 14) 0)) (defScope (inClass (top 14) 0)) .none k12 e12 m12 N12 d12 t12), S12⟩)
    (c12 : PySem.W.codeIn K d12 "InvalidPreferences.__init__" = true)
    (q12 : PySem.W.keepIn K (.ref I12) = true)
    {o13 k13 e13 m13 d13 t13 : Value} {D13 N13 : Option Addr} {S13 : Array (Option Value)}
    (i13 : PySem.W.findIn K (.ref C13) "__init__" = some (some (.ref I13)))
    (l13 : K.lookup I13 = some ⟨o13, D13, .func (PySem.W.fnOf "__init__" "InvalidMatching.__init__" (defArgs (inClass (top 15) 0)) (defBody (inClass (top 15) 0)) (defScope (inClass (top 15) 0)) .none k13 e13 m13 N13 d13 t13), S13⟩)
    (c13 : PySem.W.codeIn K d13 "InvalidMatching.__init__" = true)
    (q13 : PySem.W.keepIn K (.ref I13) = true)
    {o14 k14 e14 m14 d14 t14 : Value} {D14 N14 : Option Addr} {S14 : Array (Option Value)}
    (i14 : PySem.W.findIn K (.ref C14) "__init__" = some (some (.ref I14)))
    (l14 : K.lookup I14 = some ⟨o14, D14, .func (PySem.W.fnOf "__init__" "InvalidLists.__init__" (defArgs (inClass (top 16) 0)) (defBody (inClass (top 16) 0)) (defScope (inClass (top 16) 0)) .none k14 e14 m14 N14 d14 t14), S14⟩)
    (c14 : PySem.W.codeIn K d14 "InvalidLists.__init__" = true)
    (q14 : PySem.W.keepIn K (.ref I14) = true)
    {o15 k15 e15 m15 d15 t15 : Value} {D15 N15 : Option Addr} {S15 : Array (Option Value)}
    (i15 : PySem.W.findIn K (.ref C15) "__init__" = some (some (.ref I15)))
    (l15 : K.lookup I15 = some ⟨o15, D15, .func (PySem.W.fnOf "__init__" "InvalidChange.__init__" (defArgs (inClass (top 17) 0)) (defBody (inClass (top 17) 0)) (defScope (inClass (top 17) 0)) .none k15 e15 m15 N15 d15 t15), S15⟩)
    (c15 : PySem.W.codeIn K d15 "InvalidChange.__init__" = true)
    (q15 : PySem.W.keepIn K (.ref I15) = true)
    {o16 k16 e16 m16 d16 t16 : Value} {D16 N16 : Option Addr} {S16 : Array (Option Value)}
    (i16 : PySem.W.findIn K (.ref C16) "__init__" = some (some (.ref I16)))
    (l16 : K.lookup I16 = some ⟨o16, D16, .func (PySem.W.fnOf "__init__" "InvalidCutset.__init__" (defArgs (inClass (top 18) 0)) (defBody (inClass (top 18) 0)) (defScope (inClass (top 18) 0)) .none k16 e16 m16 N16 d16 t16), S16⟩)
    (c16 : PySem.W.codeIn K d16 "InvalidCutset.__init__" = true)
    (q16 : PySem.W.keepIn K (.ref I16) = true)
    {o17 k17 e17 m17 d17 t17 : Value} {D17 N17 : Option Addr} {S17 : Array (Option Value)}
    (i17 : PySem.W.findIn K (.ref C17) "__init__" = some (some (.ref I17)))
    (l17 : K.lookup I17 = some ⟨o17, D17, .func (PySem.W.fnOf "__init__" "Unfit.__init__" (defArgs (inClass (top 19) 0)) (defBody (inClass (top 19) 0)) (defScope (inClass (top 19) 0)) .none k17 e17 m17 N17 d17 t17), S17⟩)
    (c17 : PySem.W.codeIn K d17 "Unfit.__init__" = true)
    (q17 : PySem.W.keepIn K (.ref I17) = true)
    {o18 k18 e18 m18 d18 t18 : Value} {D18 N18 : Option Addr} {S18 : Array (Option Value)}
    (i18 : PySem.W.findIn K (.ref C18) "__init__" = some (some (.ref I18)))
    (l18 : K.lookup I18 = some ⟨o18, D18, .func (PySem.W.fnOf "__init__" "InvalidLine.__init__" (defArgs (inClass (top 20) 0)) (defBody (inClass (top 20) 0)) (defScope (inClass (top 20) 0)) .none k18 e18 m18 N18 d18 t18), S18⟩)
    (c18 : PySem.W.codeIn K d18 "InvalidLine.__init__" = true)
    (q18 : PySem.W.keepIn K (.ref I18) = true)
    {o19 k19 e19 m19 d19 t19 : Value} {D19 N19 : Option Addr} {S19 : Array (Option Value)}
    (i19 : PySem.W.findIn K (.ref C19) "__init__" = some (some (.ref I19)))
    (l19 : K.lookup I19 = some ⟨o19, D19, .func (PySem.W.fnOf "__init__" "InvalidSign.__init__" (defArgs (inClass (top 21) 0)) (defBody (inClass (top 21) 0)) (defScope (inClass (top 21) 0)) .none k19 e19 m19 N19 d19 t19), S19⟩)
    (c19 : PySem.W.codeIn K d19 "InvalidSign.__init__" = true)
    (q19 : PySem.W.keepIn K (.ref I19) = true)
    {o20 k20 e20 m20 d20 t20 : Value} {D20 N20 : Option Addr} {S20 : Array (Option Value)}
    (i20 : PySem.W.findIn K (.ref C20) "__init__" = some (some (.ref I20)))
    (l20 : K.lookup I20 = some ⟨o20, D20, .func (PySem.W.fnOf "__init__" "InvalidLog.__init__" (defArgs (inClass (top 22) 0)) (defBody (inClass (top 22) 0)) (defScope (inClass (top 22) 0)) .none k20 e20 m20 N20 d20 t20), S20⟩)
    (c20 : PySem.W.codeIn K d20 "InvalidLog.__init__" = true)
    (q20 : PySem.W.keepIn K (.ref I20) = true)
    {fo0 fk0 fe0 fm0 fc0 ft0 : Value} {fD0 fN0 : Option Addr} {fS0 : Array (Option Value)}
    (fa0 : PySem.W.nsIn K mainGlobals "_law_well" = some (some (.ref f0)))
    (fl0 : K.lookup f0 = some ⟨fo0, fD0, .func (PySem.W.fnOf "_law_well" "_law_well" (defArgs (top 27)) (defBody (top 27)) (defScope (top 27)) .none fk0 fe0 fm0 fN0 fc0 ft0), fS0⟩)
    (fcc0 : PySem.W.codeIn K fc0 "_law_well" = true)
    (fq0 : PySem.W.keepIn K (.ref f0) = true)
    {fo1 fk1 fe1 fm1 fc1 ft1 : Value} {fD1 fN1 : Option Addr} {fS1 : Array (Option Value)}
    (fa1 : PySem.W.nsIn K mainGlobals "_law_draw" = some (some (.ref f1)))
    (fl1 : K.lookup f1 = some ⟨fo1, fD1, .func (PySem.W.fnOf "_law_draw" "_law_draw" (defArgs (top 28)) (defBody (top 28)) (defScope (top 28)) .none fk1 fe1 fm1 fN1 fc1 ft1), fS1⟩)
    (fcc1 : PySem.W.codeIn K fc1 "_law_draw" = true)
    (fq1 : PySem.W.keepIn K (.ref f1) = true)
    {fo2 fk2 fe2 fm2 fc2 ft2 : Value} {fD2 fN2 : Option Addr} {fS2 : Array (Option Value)}
    (fa2 : PySem.W.nsIn K mainGlobals "_law_pick" = some (some (.ref f2)))
    (fl2 : K.lookup f2 = some ⟨fo2, fD2, .func (PySem.W.fnOf "_law_pick" "_law_pick" (defArgs (top 29)) (defBody (top 29)) (defScope (top 29)) .none fk2 fe2 fm2 fN2 fc2 ft2), fS2⟩)
    (fcc2 : PySem.W.codeIn K fc2 "_law_pick" = true)
    (fq2 : PySem.W.keepIn K (.ref f2) = true)
    {fo3 fk3 fe3 fm3 fc3 ft3 : Value} {fD3 fN3 : Option Addr} {fS3 : Array (Option Value)}
    (fa3 : PySem.W.nsIn K mainGlobals "_law_same" = some (some (.ref f3)))
    (fl3 : K.lookup f3 = some ⟨fo3, fD3, .func (PySem.W.fnOf "_law_same" "_law_same" (defArgs (top 30)) (defBody (top 30)) (defScope (top 30)) .none fk3 fe3 fm3 fN3 fc3 ft3), fS3⟩)
    (fcc3 : PySem.W.codeIn K fc3 "_law_same" = true)
    (fq3 : PySem.W.keepIn K (.ref f3) = true)
    {fo4 fk4 fe4 fm4 fc4 ft4 : Value} {fD4 fN4 : Option Addr} {fS4 : Array (Option Value)}
    (fa4 : PySem.W.nsIn K mainGlobals "_law_value" = some (some (.ref f4)))
    (fl4 : K.lookup f4 = some ⟨fo4, fD4, .func (PySem.W.fnOf "_law_value" "_law_value" (defArgs (top 31)) (defBody (top 31)) (defScope (top 31)) .none fk4 fe4 fm4 fN4 fc4 ft4), fS4⟩)
    (fcc4 : PySem.W.codeIn K fc4 "_law_value" = true)
    (fq4 : PySem.W.keepIn K (.ref f4) = true)
    {fo5 fk5 fe5 fm5 fc5 ft5 : Value} {fD5 fN5 : Option Addr} {fS5 : Array (Option Value)}
    (fa5 : PySem.W.nsIn K mainGlobals "_law_given" = some (some (.ref f5)))
    (fl5 : K.lookup f5 = some ⟨fo5, fD5, .func (PySem.W.fnOf "_law_given" "_law_given" (defArgs (top 32)) (defBody (top 32)) (defScope (top 32)) .none fk5 fe5 fm5 fN5 fc5 ft5), fS5⟩)
    (fcc5 : PySem.W.codeIn K fc5 "_law_given" = true)
    (fq5 : PySem.W.keepIn K (.ref f5) = true)
    {fo6 fk6 fe6 fm6 fc6 ft6 : Value} {fD6 fN6 : Option Addr} {fS6 : Array (Option Value)}
    (fa6 : PySem.W.nsIn K mainGlobals "_law_named" = some (some (.ref f6)))
    (fl6 : K.lookup f6 = some ⟨fo6, fD6, .func (PySem.W.fnOf "_law_named" "_law_named" (defArgs (top 33)) (defBody (top 33)) (defScope (top 33)) .none fk6 fe6 fm6 fN6 fc6 ft6), fS6⟩)
    (fcc6 : PySem.W.codeIn K fc6 "_law_named" = true)
    (fq6 : PySem.W.keepIn K (.ref f6) = true)
    {fo7 fk7 fe7 fm7 fc7 ft7 : Value} {fD7 fN7 : Option Addr} {fS7 : Array (Option Value)}
    (fa7 : PySem.W.nsIn K mainGlobals "_law_plain" = some (some (.ref f7)))
    (fl7 : K.lookup f7 = some ⟨fo7, fD7, .func (PySem.W.fnOf "_law_plain" "_law_plain" (defArgs (top 34)) (defBody (top 34)) (defScope (top 34)) .none fk7 fe7 fm7 fN7 fc7 ft7), fS7⟩)
    (fcc7 : PySem.W.codeIn K fc7 "_law_plain" = true)
    (fq7 : PySem.W.keepIn K (.ref f7) = true)
    {fo8 fk8 fe8 fm8 fc8 ft8 : Value} {fD8 fN8 : Option Addr} {fS8 : Array (Option Value)}
    (fa8 : PySem.W.nsIn K mainGlobals "_law_kin" = some (some (.ref f8)))
    (fl8 : K.lookup f8 = some ⟨fo8, fD8, .func (PySem.W.fnOf "_law_kin" "_law_kin" (defArgs (top 35)) (defBody (top 35)) (defScope (top 35)) .none fk8 fe8 fm8 fN8 fc8 ft8), fS8⟩)
    (fcc8 : PySem.W.codeIn K fc8 "_law_kin" = true)
    (fq8 : PySem.W.keepIn K (.ref f8) = true)
    {fo9 fk9 fe9 fm9 fc9 ft9 : Value} {fD9 fN9 : Option Addr} {fS9 : Array (Option Value)}
    (fa9 : PySem.W.nsIn K mainGlobals "_law_is_lone" = some (some (.ref f9)))
    (fl9 : K.lookup f9 = some ⟨fo9, fD9, .func (PySem.W.fnOf "_law_is_lone" "_law_is_lone" (defArgs (top 36)) (defBody (top 36)) (defScope (top 36)) .none fk9 fe9 fm9 fN9 fc9 ft9), fS9⟩)
    (fcc9 : PySem.W.codeIn K fc9 "_law_is_lone" = true)
    (fq9 : PySem.W.keepIn K (.ref f9) = true)
    {fo10 fk10 fe10 fm10 fc10 ft10 : Value} {fD10 fN10 : Option Addr} {fS10 : Array (Option Value)}
    (fa10 : PySem.W.nsIn K mainGlobals "_law_right" = some (some (.ref f10)))
    (fl10 : K.lookup f10 = some ⟨fo10, fD10, .func (PySem.W.fnOf "_law_right" "_law_right" (defArgs (top 37)) (defBody (top 37)) (defScope (top 37)) .none fk10 fe10 fm10 fN10 fc10 ft10), fS10⟩)
    (fcc10 : PySem.W.codeIn K fc10 "_law_right" = true)
    (fq10 : PySem.W.keepIn K (.ref f10) = true)
    {fo11 fk11 fe11 fm11 fc11 ft11 : Value} {fD11 fN11 : Option Addr} {fS11 : Array (Option Value)}
    (fa11 : PySem.W.nsIn K mainGlobals "law" = some (some (.ref f11)))
    (fl11 : K.lookup f11 = some ⟨fo11, fD11, .func (PySem.W.fnOf "law" "law" (defArgs (top 38)) (defBody (top 38)) (defScope (top 38)) .none fk11 fe11 fm11 fN11 fc11 ft11), fS11⟩)
    (fcc11 : PySem.W.codeIn K fc11 "law" = true)
    (fq11 : PySem.W.keepIn K (.ref f11) = true)
    (z_len : PySem.W.nsIn K mainGlobals "len" = some none)
    (z_int : PySem.W.nsIn K mainGlobals "int" = some none)
    (z_abs : PySem.W.nsIn K mainGlobals "abs" = some none)
    (z_divmod : PySem.W.nsIn K mainGlobals "divmod" = some none)
    (z_repr : PySem.W.nsIn K mainGlobals "repr" = some none)
    (z_isinstance : PySem.W.nsIn K mainGlobals "isinstance" = some none)
    (z_range : PySem.W.nsIn K mainGlobals "range" = some none)
    (z_ValueError : PySem.W.nsIn K mainGlobals "ValueError" = some none)
    (z_LookupError : PySem.W.nsIn K mainGlobals "LookupError" = some none)
    (z_TypeError : PySem.W.nsIn K mainGlobals "TypeError" = some none)
    (z_ArithmeticError : PySem.W.nsIn K mainGlobals "ArithmeticError" = some none)
    (z_all : PySem.W.nsIn K mainGlobals "all" = some none)
    (z_max : PySem.W.nsIn K mainGlobals "max" = some none)
    (z_min : PySem.W.nsIn K mainGlobals "min" = some none)
    (b1 : ((List.range 21).all fun i => iniB K ((fun i => ([C0, C1, C2, C3, C4, C5, C6, C7, C8, C9, C10, C11, C12, C13, C14, C15, C16, C17, C18, C19, C20, C21, C22, C23] : List Addr).getD i 0) i) ((fun i => ([I0, I1, I2, I3, I4, I5, I6, I7, I8, I9, I10, I11, I12, I13, I14, I15, I16, I17, I18, I19, I20] : List Addr).getD i 0) i) (fld i)) = true)
    (b2 : ((List.range 24).all fun i => PySem.W.keepIn K (.ref ((fun i => ([C0, C1, C2, C3, C4, C5, C6, C7, C8, C9, C10, C11, C12, C13, C14, C15, C16, C17, C18, C19, C20, C21, C22, C23] : List Addr).getD i 0) i))) = true)
    (b3 : ((List.range 24).all fun i => xisB K ((fun i => ([C0, C1, C2, C3, C4, C5, C6, C7, C8, C9, C10, C11, C12, C13, C14, C15, C16, C17, C18, C19, C20, C21, C22, C23] : List Addr).getD i 0) i)) = true)
    (b4 : ((List.range 24).all fun i => (List.range 24).all fun j => decide (PySem.W.kitOne K (.ref ((fun i => ([C0, C1, C2, C3, C4, C5, C6, C7, C8, C9, C10, C11, C12, C13, C14, C15, C16, C17, C18, C19, C20, C21, C22, C23] : List Addr).getD i 0) i)) (.ref ((fun i => ([C0, C1, C2, C3, C4, C5, C6, C7, C8, C9, C10, C11, C12, C13, C14, C15, C16, C17, C18, C19, C20, C21, C22, C23] : List Addr).getD i 0) j)) = some (decide (i = j)))) = true)
    (b5 : ((List.range 24).all fun i => decide (PySem.W.kitOne K (.ref ((fun i => ([C0, C1, C2, C3, C4, C5, C6, C7, C8, C9, C10, C11, C12, C13, C14, C15, C16, C17, C18, C19, C20, C21, C22, C23] : List Addr).getD i 0) i)) (.ref G) = some true)) = true)
    (b6 : ((List.range 24).all fun i => decide (PySem.W.kitOne K (.ref ((fun i => ([C0, C1, C2, C3, C4, C5, C6, C7, C8, C9, C10, C11, C12, C13, C14, C15, C16, C17, C18, C19, C20, C21, C22, C23] : List Addr).getD i 0) i)) (.type "ValueError") = some true)) = true)
    (b7 : ((List.range 24).all fun i => decide (PySem.W.kitOne K (.ref ((fun i => ([C0, C1, C2, C3, C4, C5, C6, C7, C8, C9, C10, C11, C12, C13, C14, C15, C16, C17, C18, C19, C20, C21, C22, C23] : List Addr).getD i 0) i)) (.type "LookupError") = some false)) = true)
    (b8 : ((List.range 24).all fun i => decide (PySem.W.kitOne K (.ref ((fun i => ([C0, C1, C2, C3, C4, C5, C6, C7, C8, C9, C10, C11, C12, C13, C14, C15, C16, C17, C18, C19, C20, C21, C22, C23] : List Addr).getD i 0) i)) (.type "TypeError") = some false)) = true)
    (b9 : ((List.range 24).all fun i => decide (PySem.W.kitOne K (.ref ((fun i => ([C0, C1, C2, C3, C4, C5, C6, C7, C8, C9, C10, C11, C12, C13, C14, C15, C16, C17, C18, C19, C20, C21, C22, C23] : List Addr).getD i 0) i)) (.type "ArithmeticError") = some false)) = true)
    (b10 : ((List.range 24).all fun j => decide (PySem.W.kitOne K (.ref G) (.ref ((fun i => ([C0, C1, C2, C3, C4, C5, C6, C7, C8, C9, C10, C11, C12, C13, C14, C15, C16, C17, C18, C19, C20, C21, C22, C23] : List Addr).getD i 0) j)) = some false)) = true)
    (b11 : PySem.W.kitOne K (.ref G) (.type "ValueError") = some true)
    (b12 : descB K = true)
    (b13 : xisB K G = true)
    (x21 : PySem.W.excIn K C21 veB "ValueError.__new__" = true)
    (x22 : PySem.W.excIn K C22 veB "ValueError.__new__" = true)
    (x23 : PySem.W.excIn K C23 veB "ValueError.__new__" = true)
    (xG : PySem.W.excIn K G veB "ValueError.__new__" = true)
    (kG : PySem.W.keepIn K (.ref G) = true)
    : ∃ fd : FuncData, (∀ (s : Shared) (v : Value), BindsTo s fd ⟨[v], []⟩ [("script", v)]) ∧ ∀ base : Heap, K.In base → base.Ns mainGlobals mg → FnG l.prog w K mg base CX0 6 fa fd ["script"] (spLaw K) := by
  have e := hfa.symm.trans (PySem.W.mg_of X GN fa11)
  cases e
  have J0 := fun_mk (st := inClass (top 2) 0) l0 c0 q0
  have J1 := fun_mk (st := inClass (top 3) 0) l1 c1 q1
  have J2 := fun_mk (st := inClass (top 4) 0) l2 c2 q2
  have J3 := fun_mk (st := inClass (top 5) 0) l3 c3 q3
  have J4 := fun_mk (st := inClass (top 6) 0) l4 c4 q4
  have J5 := fun_mk (st := inClass (top 7) 0) l5 c5 q5
  have J6 := fun_mk (st := inClass (top 8) 0) l6 c6 q6
  have J7 := fun_mk (st := inClass (top 9) 0) l7 c7 q7
  have J8 := fun_mk (st := inClass (top 10) 0) l8 c8 q8
  have J9 := fun_mk (st := inClass (top 11) 0) l9 c9 q9
  have J10 := fun_mk (st := inClass (top 12) 0) l10 c10 q10
  have J11 := fun_mk (st := inClass (top 13) 0) l11 c11 q11
  have J12 := fun_mk (st := inClass (top 14) 0) l12 c12 q12
  have J13 := fun_mk (st := inClass (top 15) 0) l13 c13 q13
  have J14 := fun_mk (st := inClass (top 16) 0) l14 c14 q14
  have J15 := fun_mk (st := inClass (top 17) 0) l15 c15 q15
  have J16 := fun_mk (st := inClass (top 18) 0) l16 c16 q16
  have J17 := fun_mk (st := inClass (top 19) 0) l17 c17 q17
  have J18 := fun_mk (st := inClass (top 20) 0) l18 c18 q18
  have J19 := fun_mk (st := inClass (top 21) 0) l19 c19 q19
  have J20 := fun_mk (st := inClass (top 22) 0) l20 c20 q20
  have F0 := fun_mk (st := top 27) fl0 fcc0 fq0
  have B0 := F0.binds (ps := ["script", "turn"]) fun _ _ _ _ _ _ us hl => match us, hl with | [_, _], _ => rfl
  have F1 := fun_mk (st := top 28) fl1 fcc1 fq1
  have B1 := F1.binds (ps := ["well", "many"]) fun _ _ _ _ _ _ us hl => match us, hl with | [_, _], _ => rfl
  have F2 := fun_mk (st := top 29) fl2 fcc2 fq2
  have B2 := F2.binds (ps := ["well", "some"]) fun _ _ _ _ _ _ us hl => match us, hl with | [_, _], _ => rfl
  have F3 := fun_mk (st := top 30) fl3 fcc3 fq3
  have B3 := F3.binds (ps := ["told", "due"]) fun _ _ _ _ _ _ us hl => match us, hl with | [_, _], _ => rfl
  have F4 := fun_mk (st := top 31) fl4 fcc4 fq4
  have B4 := F4.binds (ps := ["well"]) fun _ _ _ _ _ _ us hl => match us, hl with | [_], _ => rfl
  have F5 := fun_mk (st := top 32) fl5 fcc5 fq5
  have B5 := F5.binds (ps := ["way", "value"]) fun _ _ _ _ _ _ us hl => match us, hl with | [_, _], _ => rfl
  have F6 := fun_mk (st := top 33) fl6 fcc6 fq6
  have B6 := F6.binds (ps := ["way", "value"]) fun _ _ _ _ _ _ us hl => match us, hl with | [_, _], _ => rfl
  have F7 := fun_mk (st := top 34) fl7 fcc7 fq7
  have B7 := F7.binds (ps := ["way", "value"]) fun _ _ _ _ _ _ us hl => match us, hl with | [_, _], _ => rfl
  have F8 := fun_mk (st := top 35) fl8 fcc8 fq8
  have B8 := F8.binds (ps := ["e"]) fun _ _ _ _ _ _ us hl => match us, hl with | [_], _ => rfl
  have F9 := fun_mk (st := top 36) fl9 fcc9 fq9
  have B9 := F9.binds (ps := ["e", "way"]) fun _ _ _ _ _ _ us hl => match us, hl with | [_, _], _ => rfl
  have F10 := fun_mk (st := top 37) fl10 fcc10 fq10
  have B10 := F10.binds (ps := ["well"]) fun _ _ _ _ _ _ us hl => match us, hl with | [_], _ => rfl
  have F11 := fun_mk (st := top 38) fl11 fcc11 fq11
  have B11 := F11.binds (ps := ["script"]) fun _ _ _ _ _ _ us hl => match us, hl with | [_], _ => rfl
  have Bi0 := J0.binds (ps := ["self", "given"]) fun _ _ _ _ _ _ us hl => match us, hl with | [_, _], _ => rfl
  have Bi1 := J1.binds (ps := ["self", "given"]) fun _ _ _ _ _ _ us hl => match us, hl with | [_, _], _ => rfl
  have Bi2 := J2.binds (ps := ["self", "given"]) fun _ _ _ _ _ _ us hl => match us, hl with | [_, _], _ => rfl
  have Bi3 := J3.binds (ps := ["self", "given"]) fun _ _ _ _ _ _ us hl => match us, hl with | [_, _], _ => rfl
  have Bi4 := J4.binds (ps := ["self", "given"]) fun _ _ _ _ _ _ us hl => match us, hl with | [_, _], _ => rfl
  have Bi5 := J5.binds (ps := ["self", "given"]) fun _ _ _ _ _ _ us hl => match us, hl with | [_, _], _ => rfl
  have Bi6 := J6.binds (ps := ["self", "given"]) fun _ _ _ _ _ _ us hl => match us, hl with | [_, _], _ => rfl
  have Bi7 := J7.binds (ps := ["self", "given"]) fun _ _ _ _ _ _ us hl => match us, hl with | [_, _], _ => rfl
  have Bi8 := J8.binds (ps := ["self", "given"]) fun _ _ _ _ _ _ us hl => match us, hl with | [_, _], _ => rfl
  have Bi9 := J9.binds (ps := ["self", "given"]) fun _ _ _ _ _ _ us hl => match us, hl with | [_, _], _ => rfl
  have Bi10 := J10.binds (ps := ["self", "given"]) fun _ _ _ _ _ _ us hl => match us, hl with | [_, _], _ => rfl
  have Bi11 := J11.binds (ps := ["self", "given"]) fun _ _ _ _ _ _ us hl => match us, hl with | [_, _], _ => rfl
  have Bi12 := J12.binds (ps := ["self", "given"]) fun _ _ _ _ _ _ us hl => match us, hl with | [_, _], _ => rfl
  have Bi13 := J13.binds (ps := ["self", "given"]) fun _ _ _ _ _ _ us hl => match us, hl with | [_, _], _ => rfl
  have Bi14 := J14.binds (ps := ["self", "given"]) fun _ _ _ _ _ _ us hl => match us, hl with | [_, _], _ => rfl
  have Bi15 := J15.binds (ps := ["self", "given"]) fun _ _ _ _ _ _ us hl => match us, hl with | [_, _], _ => rfl
  have Bi16 := J16.binds (ps := ["self", "given"]) fun _ _ _ _ _ _ us hl => match us, hl with | [_, _], _ => rfl
  have Bi17 := J17.binds (ps := ["self", "given"]) fun _ _ _ _ _ _ us hl => match us, hl with | [_, _], _ => rfl
  have Bi18 := J18.binds (ps := ["self", "index"]) fun _ _ _ _ _ _ us hl => match us, hl with | [_, _], _ => rfl
  have Bi19 := J19.binds (ps := ["self", "index"]) fun _ _ _ _ _ _ us hl => match us, hl with | [_, _], _ => rfl
  have Bi20 := J20.binds (ps := ["self", "index"]) fun _ _ _ _ _ _ us hl => match us, hl with | [_, _], _ => rfl
  have m_len := PySem.W.mg_none_of X GN z_len
  have m_int := PySem.W.mg_none_of X GN z_int
  have m_abs := PySem.W.mg_none_of X GN z_abs
  have m_divmod := PySem.W.mg_none_of X GN z_divmod
  have m_repr := PySem.W.mg_none_of X GN z_repr
  have m_isinstance := PySem.W.mg_none_of X GN z_isinstance
  have m_range := PySem.W.mg_none_of X GN z_range
  have m_ValueError := PySem.W.mg_none_of X GN z_ValueError
  have m_LookupError := PySem.W.mg_none_of X GN z_LookupError
  have m_TypeError := PySem.W.mg_none_of X GN z_TypeError
  have m_ArithmeticError := PySem.W.mg_none_of X GN z_ArithmeticError
  have m_all := PySem.W.mg_none_of X GN z_all
  have m_max := PySem.W.mg_none_of X GN z_max
  have m_min := PySem.W.mg_none_of X GN z_min
  have XI : ∀ i, i < 24 → XIs K ((fun i => ([C0, C1, C2, C3, C4, C5, C6, C7, C8, C9, C10, C11, C12, C13, C14, C15, C16, C17, C18, C19, C20, C21, C22, C23] : List Addr).getD i 0) i) := fun i hi => xisB_ok b12 (below b3 i hi)
  have XC : ∀ i, i < 21 → XCls K ((fun i => ([C0, C1, C2, C3, C4, C5, C6, C7, C8, C9, C10, C11, C12, C13, C14, C15, C16, C17, C18, C19, C20, C21, C22, C23] : List Addr).getD i 0) i) ((fun i => ([I0, I1, I2, I3, I4, I5, I6, I7, I8, I9, I10, I11, I12, I13, I14, I15, I16, I17, I18, I19, I20] : List Addr).getD i 0) i) (fld i) := all21 (iniB_ok i0 (below b1 0 (by decide))) (iniB_ok i1 (below b1 1 (by decide))) (iniB_ok i2 (below b1 2 (by decide))) (iniB_ok i3 (below b1 3 (by decide))) (iniB_ok i4 (below b1 4 (by decide))) (iniB_ok i5 (below b1 5 (by decide))) (iniB_ok i6 (below b1 6 (by decide))) (iniB_ok i7 (below b1 7 (by decide))) (iniB_ok i8 (below b1 8 (by decide))) (iniB_ok i9 (below b1 9 (by decide))) (iniB_ok i10 (below b1 10 (by decide))) (iniB_ok i11 (below b1 11 (by decide))) (iniB_ok i12 (below b1 12 (by decide))) (iniB_ok i13 (below b1 13 (by decide))) (iniB_ok i14 (below b1 14 (by decide))) (iniB_ok i15 (below b1 15 (by decide))) (iniB_ok i16 (below b1 16 (by decide))) (iniB_ok i17 (below b1 17 (by decide))) (iniB_ok i18 (below b1 18 (by decide))) (iniB_ok i19 (below b1 19 (by decide))) (iniB_ok i20 (below b1 20 (by decide)))
  refine ⟨PySem.W.fnOf "law" "law" (defArgs (top 38)) (defBody (top 38)) (defScope (top 38)) .none fk11 fe11 fm11 fN11 fc11 ft11, fun s v => .of_eq rfl, fun base _ _ => ?_⟩
  have T : Txt l.prog w K mg base (fun i => ([C0, C1, C2, C3, C4, C5, C6, C7, C8, C9, C10, C11, C12, C13, C14, C15, C16, C17, C18, C19, C20, C21, C22, C23] : List Addr).getD i 0) (fun i => ([I0, I1, I2, I3, I4, I5, I6, I7, I8, I9, I10, I11, I12, I13, I14, I15, I16, I17, I18, I19, I20] : List Addr).getD i 0) (fun i => ([(PySem.W.fnOf "__init__" "InvalidGraph.__init__" (defArgs (inClass (top 2) 0)) (defBody (inClass (top 2) 0)) (defScope (inClass (top 2) 0)) .none k0 e0 m0 N0 d0 t0), (PySem.W.fnOf "__init__" "InvalidLot.__init__" (defArgs (inClass (top 3) 0)) (defBody (inClass (top 3) 0)) (defScope (inClass (top 3) 0)) .none k1 e1 m1 N1 d1 t1), (PySem.W.fnOf "__init__" "InvalidVertex.__init__" (defArgs (inClass (top 4) 0)) (defBody (inClass (top 4) 0)) (defScope (inClass (top 4) 0)) .none k2 e2 m2 N2 d2 t2), (PySem.W.fnOf "__init__" "InvalidWeights.__init__" (defArgs (inClass (top 5) 0)) (defBody (inClass (top 5) 0)) (defScope (inClass (top 5) 0)) .none k3 e3 m3 N3 d3 t3), (PySem.W.fnOf "__init__" "InvalidShares.__init__" (defArgs (inClass (top 6) 0)) (defBody (inClass (top 6) 0)) (defScope (inClass (top 6) 0)) .none k4 e4 m4 N4 d4 t4), (PySem.W.fnOf "__init__" "InvalidTimes.__init__" (defArgs (inClass (top 7) 0)) (defBody (inClass (top 7) 0)) (defScope (inClass (top 7) 0)) .none k5 e5 m5 N5 d5 t5), (PySem.W.fnOf "__init__" "InvalidRenaming.__init__" (defArgs (inClass (top 8) 0)) (defBody (inClass (top 8) 0)) (defScope (inClass (top 8) 0)) .none k6 e6 m6 N6 d6 t6), (PySem.W.fnOf "__init__" "InvalidNumber.__init__" (defArgs (inClass (top 9) 0)) (defBody (inClass (top 9) 0)) (defScope (inClass (top 9) 0)) .none k7 e7 m7 N7 d7 t7), (PySem.W.fnOf "__init__" "InvalidOrientation.__init__" (defArgs (inClass (top 10) 0)) (defBody (inClass (top 10) 0)) (defScope (inClass (top 10) 0)) .none k8 e8 m8 N8 d8 t8), (PySem.W.fnOf "__init__" "InvalidHole.__init__" (defArgs (inClass (top 11) 0)) (defBody (inClass (top 11) 0)) (defScope (inClass (top 11) 0)) .none k9 e9 m9 N9 d9 t9), (PySem.W.fnOf "__init__" "InvalidMultigraph.__init__" (defArgs (inClass (top 12) 0)) (defBody (inClass (top 12) 0)) (defScope (inClass (top 12) 0)) .none k10 e10 m10 N10 d10 t10), (PySem.W.fnOf "__init__" "InvalidColours.__init__" (defArgs (inClass (top 13) 0)) (defBody (inClass (top 13) 0)) (defScope (inClass (top 13) 0)) .none k11 e11 m11 N11 d11 t11), (PySem.W.fnOf "__init__" "InvalidPreferences.__init__" (defArgs (inClass (top 14) 0)) (defBody (inClass (top 14) 0)) (defScope (inClass (top 14) 0)) .none k12 e12 m12 N12 d12 t12), (PySem.W.fnOf "__init__" "InvalidMatching.__init__" (defArgs (inClass (top 15) 0)) (defBody (inClass (top 15) 0)) (defScope (inClass (top 15) 0)) .none k13 e13 m13 N13 d13 t13), (PySem.W.fnOf "__init__" "InvalidLists.__init__" (defArgs (inClass (top 16) 0)) (defBody (inClass (top 16) 0)) (defScope (inClass (top 16) 0)) .none k14 e14 m14 N14 d14 t14), (PySem.W.fnOf "__init__" "InvalidChange.__init__" (defArgs (inClass (top 17) 0)) (defBody (inClass (top 17) 0)) (defScope (inClass (top 17) 0)) .none k15 e15 m15 N15 d15 t15), (PySem.W.fnOf "__init__" "InvalidCutset.__init__" (defArgs (inClass (top 18) 0)) (defBody (inClass (top 18) 0)) (defScope (inClass (top 18) 0)) .none k16 e16 m16 N16 d16 t16), (PySem.W.fnOf "__init__" "Unfit.__init__" (defArgs (inClass (top 19) 0)) (defBody (inClass (top 19) 0)) (defScope (inClass (top 19) 0)) .none k17 e17 m17 N17 d17 t17), (PySem.W.fnOf "__init__" "InvalidLine.__init__" (defArgs (inClass (top 20) 0)) (defBody (inClass (top 20) 0)) (defScope (inClass (top 20) 0)) .none k18 e18 m18 N18 d18 t18), (PySem.W.fnOf "__init__" "InvalidSign.__init__" (defArgs (inClass (top 21) 0)) (defBody (inClass (top 21) 0)) (defScope (inClass (top 21) 0)) .none k19 e19 m19 N19 d19 t19), (PySem.W.fnOf "__init__" "InvalidLog.__init__" (defArgs (inClass (top 22) 0)) (defBody (inClass (top 22) 0)) (defScope (inClass (top 22) 0)) .none k20 e20 m20 N20 d20 t20)] : List FuncData).getD i (PySem.W.fnOf "__init__" "InvalidGraph.__init__" (defArgs (inClass (top 2) 0)) (defBody (inClass (top 2) 0)) (defScope (inClass (top 2) 0)) .none k0 e0 m0 N0 d0 t0)) G := {
    g := all24 (PySem.W.mg_of X GN a0) (PySem.W.mg_of X GN a1) (PySem.W.mg_of X GN a2) (PySem.W.mg_of X GN a3) (PySem.W.mg_of X GN a4) (PySem.W.mg_of X GN a5) (PySem.W.mg_of X GN a6) (PySem.W.mg_of X GN a7) (PySem.W.mg_of X GN a8) (PySem.W.mg_of X GN a9) (PySem.W.mg_of X GN a10) (PySem.W.mg_of X GN a11) (PySem.W.mg_of X GN a12) (PySem.W.mg_of X GN a13) (PySem.W.mg_of X GN a14) (PySem.W.mg_of X GN a15) (PySem.W.mg_of X GN a16) (PySem.W.mg_of X GN a17) (PySem.W.mg_of X GN a18) (PySem.W.mg_of X GN a19) (PySem.W.mg_of X GN a20) (PySem.W.mg_of X GN a21) (PySem.W.mg_of X GN a22) (PySem.W.mg_of X GN a23)
    kp := fun i hi => below b2 i hi
    x := XC
    ini := all21 (ok_init0 J0 (XC 0 (by decide)).ox (XC 0 (by decide)).no) (ok_init1 J1 (XC 1 (by decide)).ox (XC 1 (by decide)).no) (ok_init2 J2 (XC 2 (by decide)).ox (XC 2 (by decide)).no) (ok_init3 J3 (XC 3 (by decide)).ox (XC 3 (by decide)).no) (ok_init4 J4 (XC 4 (by decide)).ox (XC 4 (by decide)).no) (ok_init5 J5 (XC 5 (by decide)).ox (XC 5 (by decide)).no) (ok_init6 J6 (XC 6 (by decide)).ox (XC 6 (by decide)).no) (ok_init7 J7 (XC 7 (by decide)).ox (XC 7 (by decide)).no) (ok_init8 J8 (XC 8 (by decide)).ox (XC 8 (by decide)).no) (ok_init9 J9 (XC 9 (by decide)).ox (XC 9 (by decide)).no) (ok_init10 J10 (XC 10 (by decide)).ox (XC 10 (by decide)).no) (ok_init11 J11 (XC 11 (by decide)).ox (XC 11 (by decide)).no) (ok_init12 J12 (XC 12 (by decide)).ox (XC 12 (by decide)).no) (ok_init13 J13 (XC 13 (by decide)).ox (XC 13 (by decide)).no) (ok_init14 J14 (XC 14 (by decide)).ox (XC 14 (by decide)).no) (ok_init15 J15 (XC 15 (by decide)).ox (XC 15 (by decide)).no) (ok_init16 J16 (XC 16 (by decide)).ox (XC 16 (by decide)).no) (ok_init17 J17 (XC 17 (by decide)).ox (XC 17 (by decide)).no) (ok_init18 J18 (XC 18 (by decide)).ox (XC 18 (by decide)).no) (ok_init19 J19 (XC 19 (by decide)).ox (XC 19 (by decide)).no) (ok_init20 J20 (XC 20 (by decide)).ox (XC 20 (by decide)).no)
    bd := all21 Bi0 Bi1 Bi2 Bi3 Bi4 Bi5 Bi6 Bi7 Bi8 Bi9 Bi10 Bi11 Bi12 Bi13 Bi14 Bi15 Bi16 Bi17 Bi18 Bi19 Bi20
    bk := all21 (fun s a u => .of_eq rfl) (fun s a u => .of_eq rfl) (fun s a u => .of_eq rfl) (fun s a u => .of_eq rfl) (fun s a u => .of_eq rfl) (fun s a u => .of_eq rfl) (fun s a u => .of_eq rfl) (fun s a u => .of_eq rfl) (fun s a u => .of_eq rfl) (fun s a u => .of_eq rfl) (fun s a u => .of_eq rfl) (fun s a u => .of_eq rfl) (fun s a u => .of_eq rfl) (fun s a u => .of_eq rfl) (fun s a u => .of_eq rfl) (fun s a u => .of_eq rfl) (fun s a u => .of_eq rfl) (fun s a u => .of_eq rfl) (fun s a u => .of_eq rfl) (fun s a u => .of_eq rfl) (fun s a u => .of_eq rfl)
    q := fun i h1 h2 => by
      rcases (by omega : i = 21 ∨ i = 22 ∨ i = 23) with rfl | rfl | rfl
      · exact x21
      · exact x22
      · exact x23
    xi := XI
    kit := fun i j hi hj => of_decide_eq_true (below (below b4 i hi) j hj)
    gG := PySem.W.mg_of X GN aG
    qG := xG
    kG := kG
    xG := xisB_ok b12 b13
    kitG := fun i hi => of_decide_eq_true (below b5 i hi)
    kitV := fun i hi => of_decide_eq_true (below b6 i hi)
    kitL := fun i hi => of_decide_eq_true (below b7 i hi)
    kitT := fun i hi => of_decide_eq_true (below b8 i hi)
    kitA := fun i hi => of_decide_eq_true (below b9 i hi)
    GV := b11
    GC := fun j hj => of_decide_eq_true (below b10 j hj) }
  have O0 := ok_well (P := l.prog) (w := w) (base := base) F0 m_len m_int m_abs
  have O1 := ok_draw (P := l.prog) (w := w) (K := K) (base := base) F1 m_divmod m_int
  have O2 := ok_pick (P := l.prog) (w := w) (base := base) F2 O1 B1 fq1 (PySem.W.mg_of X GN fa1) m_len
  have O3 := ok_same (P := l.prog) (w := w) (base := base) F3 m_repr
  have O4 := ok_value (P := l.prog) (w := w) (base := base) F4 O2 B2 fq2 (PySem.W.mg_of X GN fa2)
  have O5 := ok_given T F5
  have O6 := ok_named T F6
  have O7 := ok_plain T F7
  have O8 := ok_kin T F8 m_isinstance
  have O9 := ok_lone T F9 O8 B8 fq8 (PySem.W.mg_of X GN fa8) m_isinstance m_range m_ValueError m_LookupError m_TypeError m_ArithmeticError
  have O10 := ok_right T F10 O4 B4 fq4 (PySem.W.mg_of X GN fa4) O5 B5 fq5 (PySem.W.mg_of X GN fa5) O6 B6 fq6 (PySem.W.mg_of X GN fa6) O7 B7 fq7 (PySem.W.mg_of X GN fa7) O9 B9 fq9 (PySem.W.mg_of X GN fa9) O3 B3 fq3 (PySem.W.mg_of X GN fa3) O8 B8 fq8 (PySem.W.mg_of X GN fa8) m_range m_isinstance m_ValueError
  exact ok_law (n := 4) F11 O0 B0 fq0 (PySem.W.mg_of X GN fa0) O10 B10 fq10 (PySem.W.mg_of X GN fa10) m_range m_len m_all m_max m_min
end My

open PySem PySem.W PyProof.Rows
set_option maxRecDepth 100000 in
set_option maxHeartbeats 0 in
theorem PySem.Challenge.cw_perfectgraphs_k01_errors_each_of_its_own_holds : PySem.Challenge.rw_perfectgraphs_k01_errors_each_of_its_own.Holds := by
  w_on; o_law; k_head; (case hw => w_witness2)
  k_fill
  refine My.walkG (l := PySem.Challenge.rw_perfectgraphs_k01_errors_each_of_its_own) (m := 63) (n := 6) (x := "script") (sp := fun K => My.spLaw K) rfl (by decide) rfl ⟨rfl, by decide, by decide⟩ (fun w h Y => PySem.W.kIn_of Y) ?F (fun K H a ns hl _ hS => ⟨a, ns, rfl, hS, hl, fun _ => rfl⟩)
  case F =>
    intro w mg fa h KX G hmg
    refine' My.all_mk KX G hmg ?a0 ?a1 ?a2 ?a3 ?a4 ?a5 ?a6 ?a7 ?a8 ?a9 ?a10 ?a11 ?a12 ?a13 ?a14 ?a15 ?a16 ?a17 ?a18 ?a19 ?a20 ?a21 ?a22 ?a23 ?aG ?i0 ?l0 ?c0 ?q0 ?i1 ?l1 ?c1 ?q1 ?i2 ?l2 ?c2 ?q2 ?i3 ?l3 ?c3 ?q3 ?i4 ?l4 ?c4 ?q4 ?i5 ?l5 ?c5 ?q5 ?i6 ?l6 ?c6 ?q6 ?i7 ?l7 ?c7 ?q7 ?i8 ?l8 ?c8 ?q8 ?i9 ?l9 ?c9 ?q9 ?i10 ?l10 ?c10 ?q10 ?i11 ?l11 ?c11 ?q11 ?i12 ?l12 ?c12 ?q12 ?i13 ?l13 ?c13 ?q13 ?i14 ?l14 ?c14 ?q14 ?i15 ?l15 ?c15 ?q15 ?i16 ?l16 ?c16 ?q16 ?i17 ?l17 ?c17 ?q17 ?i18 ?l18 ?c18 ?q18 ?i19 ?l19 ?c19 ?q19 ?i20 ?l20 ?c20 ?q20 ?fa0 ?fl0 ?fcc0 ?fq0 ?fa1 ?fl1 ?fcc1 ?fq1 ?fa2 ?fl2 ?fcc2 ?fq2 ?fa3 ?fl3 ?fcc3 ?fq3 ?fa4 ?fl4 ?fcc4 ?fq4 ?fa5 ?fl5 ?fcc5 ?fq5 ?fa6 ?fl6 ?fcc6 ?fq6 ?fa7 ?fl7 ?fcc7 ?fq7 ?fa8 ?fl8 ?fcc8 ?fq8 ?fa9 ?fl9 ?fcc9 ?fq9 ?fa10 ?fl10 ?fcc10 ?fq10 ?fa11 ?fl11 ?fcc11 ?fq11 ?z_len ?z_int ?z_abs ?z_divmod ?z_repr ?z_isinstance ?z_range ?z_ValueError ?z_LookupError ?z_TypeError ?z_ArithmeticError ?z_all ?z_max ?z_min ?b1 ?b2 ?b3 ?b4 ?b5 ?b6 ?b7 ?b8 ?b9 ?b10 ?b11 ?b12 ?b13 ?x21 ?x22 ?x23 ?xG ?kG
    (case a0 => k_is)
    (case a1 => k_is)
    (case a2 => k_is)
    (case a3 => k_is)
    (case a4 => k_is)
    (case a5 => k_is)
    (case a6 => k_is)
    (case a7 => k_is)
    (case a8 => k_is)
    (case a9 => k_is)
    (case a10 => k_is)
    (case a11 => k_is)
    (case a12 => k_is)
    (case a13 => k_is)
    (case a14 => k_is)
    (case a15 => k_is)
    (case a16 => k_is)
    (case a17 => k_is)
    (case a18 => k_is)
    (case a19 => k_is)
    (case a20 => k_is)
    (case a21 => k_is)
    (case a22 => k_is)
    (case a23 => k_is)
    (case aG => k_is)
    (case i0 => k_is)
    (case l0 => k_is)
    (case c0 => k_is)
    (case q0 => k_is)
    (case i1 => k_is)
    (case l1 => k_is)
    (case c1 => k_is)
    (case q1 => k_is)
    (case i2 => k_is)
    (case l2 => k_is)
    (case c2 => k_is)
    (case q2 => k_is)
    (case i3 => k_is)
    (case l3 => k_is)
    (case c3 => k_is)
    (case q3 => k_is)
    (case i4 => k_is)
    (case l4 => k_is)
    (case c4 => k_is)
    (case q4 => k_is)
    (case i5 => k_is)
    (case l5 => k_is)
    (case c5 => k_is)
    (case q5 => k_is)
    (case i6 => k_is)
    (case l6 => k_is)
    (case c6 => k_is)
    (case q6 => k_is)
    (case i7 => k_is)
    (case l7 => k_is)
    (case c7 => k_is)
    (case q7 => k_is)
    (case i8 => k_is)
    (case l8 => k_is)
    (case c8 => k_is)
    (case q8 => k_is)
    (case i9 => k_is)
    (case l9 => k_is)
    (case c9 => k_is)
    (case q9 => k_is)
    (case i10 => k_is)
    (case l10 => k_is)
    (case c10 => k_is)
    (case q10 => k_is)
    (case i11 => k_is)
    (case l11 => k_is)
    (case c11 => k_is)
    (case q11 => k_is)
    (case i12 => k_is)
    (case l12 => k_is)
    (case c12 => k_is)
    (case q12 => k_is)
    (case i13 => k_is)
    (case l13 => k_is)
    (case c13 => k_is)
    (case q13 => k_is)
    (case i14 => k_is)
    (case l14 => k_is)
    (case c14 => k_is)
    (case q14 => k_is)
    (case i15 => k_is)
    (case l15 => k_is)
    (case c15 => k_is)
    (case q15 => k_is)
    (case i16 => k_is)
    (case l16 => k_is)
    (case c16 => k_is)
    (case q16 => k_is)
    (case i17 => k_is)
    (case l17 => k_is)
    (case c17 => k_is)
    (case q17 => k_is)
    (case i18 => k_is)
    (case l18 => k_is)
    (case c18 => k_is)
    (case q18 => k_is)
    (case i19 => k_is)
    (case l19 => k_is)
    (case c19 => k_is)
    (case q19 => k_is)
    (case i20 => k_is)
    (case l20 => k_is)
    (case c20 => k_is)
    (case q20 => k_is)
    (case fa0 => k_is)
    (case fl0 => k_is)
    (case fcc0 => k_is)
    (case fq0 => k_is)
    (case fa1 => k_is)
    (case fl1 => k_is)
    (case fcc1 => k_is)
    (case fq1 => k_is)
    (case fa2 => k_is)
    (case fl2 => k_is)
    (case fcc2 => k_is)
    (case fq2 => k_is)
    (case fa3 => k_is)
    (case fl3 => k_is)
    (case fcc3 => k_is)
    (case fq3 => k_is)
    (case fa4 => k_is)
    (case fl4 => k_is)
    (case fcc4 => k_is)
    (case fq4 => k_is)
    (case fa5 => k_is)
    (case fl5 => k_is)
    (case fcc5 => k_is)
    (case fq5 => k_is)
    (case fa6 => k_is)
    (case fl6 => k_is)
    (case fcc6 => k_is)
    (case fq6 => k_is)
    (case fa7 => k_is)
    (case fl7 => k_is)
    (case fcc7 => k_is)
    (case fq7 => k_is)
    (case fa8 => k_is)
    (case fl8 => k_is)
    (case fcc8 => k_is)
    (case fq8 => k_is)
    (case fa9 => k_is)
    (case fl9 => k_is)
    (case fcc9 => k_is)
    (case fq9 => k_is)
    (case fa10 => k_is)
    (case fl10 => k_is)
    (case fcc10 => k_is)
    (case fq10 => k_is)
    (case fa11 => k_is)
    (case fl11 => k_is)
    (case fcc11 => k_is)
    (case fq11 => k_is)
    (case z_len => k_is)
    (case z_int => k_is)
    (case z_abs => k_is)
    (case z_divmod => k_is)
    (case z_repr => k_is)
    (case z_isinstance => k_is)
    (case z_range => k_is)
    (case z_ValueError => k_is)
    (case z_LookupError => k_is)
    (case z_TypeError => k_is)
    (case z_ArithmeticError => k_is)
    (case z_all => k_is)
    (case z_max => k_is)
    (case z_min => k_is)
    (case b1 => kernel_rfl)
    (case b2 => kernel_rfl)
    (case b3 => kernel_rfl)
    (case b4 => kernel_rfl)
    (case b5 => kernel_rfl)
    (case b6 => kernel_rfl)
    (case b7 => kernel_rfl)
    (case b8 => kernel_rfl)
    (case b9 => kernel_rfl)
    (case b10 => kernel_rfl)
    (case b11 => kernel_rfl)
    (case b12 => kernel_rfl)
    (case b13 => kernel_rfl)
    (case x21 => k_exc)
    (case x22 => k_exc)
    (case x23 => k_exc)
    (case xG => k_exc)
    (case kG => k_is)
#print axioms PySem.Challenge.cw_perfectgraphs_k01_errors_each_of_its_own_holds

