import PyProof.Rows.All
import Wide.All
import OpenK.AllK
import Wide.FinOn
import HandS.TupMul
import KE.SortData
import HandS.Base
import HandS.Call
import HandS.List
import HandS.Comp
import HandS.Ends
import HandS.Dict
import HandS.Iter
import HandS.EndBits
import HandS.Words
import HandS.WordsList
import HandS.WordsDict
import HandS.Text
import HandS.Wide
import HandS.WideBits
import HandS.Conv
import HandS.TupLe
import HandS.IsInst
import HandS.ExcIs
import HandS.ExcValue
import HandS.TupSets
import HandS.Zip
import HandS.Walk
import HandS.TupAny
import HandS.Deep
import PyProof.ReprRoads
import PyProof.ReprBulk
import KE.GoesZip
import KE.GoesMore
import KE.GoesEnum
import HandS.DictTup
import KE.KSortTupG
import HandS.TupLen
import HandS.NoneIn
import HandS.Records
import HandS.Flow
import HandS.More
import KE.KDictWalk
import KE.KDictDisplayH
import PyProof.WalkInts
import PyProof.DictTable
import KE.KeyNested
import KE.KDictKeyed
import PyProof.DictMoreH
import HandS.ListItems
import KE.KTurns
import HandS.Star
import PyProof.StrOps2
import HandS.TryOnly
import HandS.WordsExc
import HandS.Style
import HandS.RaiseMore
import HandS.FStr
import HandS.ExcOwn
import HandS.ExcCtx
import HandS.SetFor
import PySem.Challenge.RW_anywide_k44_states_parted
set_option Elab.async false
set_option linter.all false
set_option maxRecDepth 100000
namespace AW
open PySem PySem.Spec PyProof.Rows L2
theorem fn_at {P : Program} {w : World} {K : PySem.W.Frag} {mg : Str → Option Value} {base : Heap} {k : Nat} {f : Addr} {x qual : Str} {st : Stmt} {fd : FuncData} {N ps : List Str}
    (F : Fun K x qual st f fd) (S : FnScope N ps (defScope st)) {A : Around} {outer : List Env} {s : Shared} {H : Hp} {args : Args} {us : List Value} {vs : List V} {Q : VK} {E : XK}
    (hr : Room (k + 1) A) (e0 : Env0 P w K mg base A outer s H) (hb : BindsTo s fd args (ps.zip us)) (r : Vals vs us) (hl : vs.length = ps.length)
    (hbody : ∀ cdv : Value, ∃ t, PSs (cxOf CX0 P w K mg base N qual (defScope st) f cdv A outer s H E).nox (defBody st) t ∧ t { nx := fun _ H' => Q .non H', rt := Q } (start N vs) H) :
    codeAny (model P w) A (.call (.ref f) args) (CR CX0 outer P w H s Q E) s := by
  obtain ⟨oc, od, kV, doc, pm, an, cdv, ct, osl, rfl, lk, hcd⟩ := F.ex
  have keep0 : ∀ b o, base.get? b = some o → s.heap.get? b = some o := fun b o e => (e0.bs b o e).1
  have KX := e0.mod.kin.keeps keep0
  refine codeAny_call_function (Room.depth hr) (KX _ _ lk) rfl S.co S.gen rfl (PySem.W.codeRec_of KX hcd) (hb _ _ _ _ ?_)
  have kinds : ∀ y ∈ ps.zip us, (defScope st).names.lookup y.1 = some .local ∨ ((defScope st).names.lookup y.1 = some .cell ∧ ((cellsFrom (s.heap.objs.size + 1) (defScope st).names []).lookup y.1).isSome = true) := by
    intro y hy
    obtain ⟨n, v⟩ := y
    exact (S.par n (List.of_mem_zip hy).1).elim Or.inl fun q => Or.inr ⟨q, PySem.W.cellsFrom_some _ _ _ (.inl q)⟩
  refine wpAny_newFunctionEnv_cells S.kind kinds ?_
  rintro env rfl s1 ic
  obtain ⟨t, ht, hq⟩ := hbody cdv
  refine ⟨(e0.mod.nolimit.keeps keep0).keeps ic.toInCall.keep, codeAny_func (wpAny_mono (ht.nox.run [] s1 (start N vs) H _ (inv_start S hr.hd e0 hl r ic) hq) ?_ (fun _ _ z => z))⟩
  intro fl s' hs
  cases fl with
  | ret u =>
    obtain ⟨v, σ', H', J, rv, q⟩ := hs
    exact ⟨v, H', J.os, J.bare, J.base, J.hok, rv, q⟩
  | next =>
    obtain ⟨σ', H', J, q⟩ := hs
    exact ⟨V.non, H', J.os, J.bare, J.base, J.hok, rfl, q⟩
  | brk => exact hs.elim fun _ z => z.elim fun _ z => z.2.elim
  | cont => exact hs.elim fun _ z => z.elim fun _ z => z.2.elim
theorem env_at {P : Program} {w : World} {K : PySem.W.Frag} {mg mb : Str → Option Value} {a : Addr} {s1 : Shared} {vs : List Value} {H : Hp}
    (KX : K.In s1.heap) (hns : s1.heap.Ns mainGlobals mg) (hb : s1.heap.Ns builtinsNs mb) (hbb : ∀ x : Str, x ≠ "__name__" → mb x = bootBuiltins x) (hlim : s1.heap.NoLimit) (hg : s1.gens = #[])
    (ha : s1.heap.get? a = some { cls := .type "list", data := .seq vs.toArray }) (one : ∀ b u, H b = some u → b = a) (out : ∀ o, K.lookup a = some o → H a = none) (ok : HOk P w H s1.heap) :
    Env0 P w K mg (hidT s1.heap H) callerA [] s1 H := by
  have dicts : ∀ {b : Addr} {m : Str → Option Value}, s1.heap.Ns b m → (hidT s1.heap H).Ns b m := by
    rintro b m ⟨o, es, ep, e, d, r⟩
    refine ⟨o, es, ep, hidT_get e ?_, d, r⟩
    match q : H b with
    | none => rfl
    | some u =>
      obtain rfl := one b u q
      have e2 := Option.some.inj (e.symm.trans ha)
      rw [e2] at d
      cases d
  have kin : K.In (hidT s1.heap H) := by
    intro b o e
    refine hidT_get (KX b o e) ?_
    match q : H b with
    | none => rfl
    | some u =>
      obtain rfl := one b u q
      exact q.symm.trans (out o e)
  obtain ⟨mc, l1, l2⟩ := hlim
  exact ⟨rfl, ⟨kin, dicts hns, ⟨mb, dicts hb, hbb⟩, ⟨mc, dicts l1, l2⟩⟩, fun b o e => of_hidT e, Nat.le_of_eq (hidT_size _ _), trivial, (fun b z => nomatch z), ok, .of_eq hg⟩
theorem law_end {P : Program} {w : World} {K : PySem.W.Frag} {mg mb : Str → Option Value} {fa a : Addr} {s1 : Shared} {vs : List Value} {ns : List Int}
    (KX : K.In s1.heap) (hns : s1.heap.Ns mainGlobals mg) (hb : s1.heap.Ns builtinsNs mb) (hbb : ∀ x : Str, x ≠ "__name__" → mb x = bootBuiltins x) (hlim : s1.heap.NoLimit) (hg : s1.gens = #[])
    (ha : s1.heap.get? a = some { cls := .type "list", data := .seq vs.toArray }) (hi : IntsAre vs ns) (hl : ns.length ≤ sizeLine)
    (run : ∀ (base : Heap) (H : Hp), Env0 P w K mg base callerA [] s1 H → SqL K H a (ns.map V.int) →
      codeAny (model P w) callerA (.call (.ref fa) ⟨[.ref a], []⟩) (CR CX0 [] P w H s1 (fun v _ => v = .bl true) E0) s1) :
    codeAny (model P w) callerA (.call (.ref fa) ⟨[.ref a], []⟩) (fun r s' => r = .ok (.ret (.bool true)) ∧ OldK s1.heap s'.heap ∧ s'.os = s1.os ∧ AllBare s'.gens) s1 := by
  have rv := vals_ints hi
  have fin : ∀ H : Hp, HOk P w H s1.heap → (∀ b u, H b = some u → ∃ o xs, u = .frz o (.lst xs)) → ∀ r s', CR CX0 [] P w H s1 (fun v _ => v = .bl true) E0 r s' →
      r = .ok (.ret (.bool true)) ∧ OldK s1.heap s'.heap ∧ s'.os = s1.os ∧ AllBare s'.gens := by
    intro H ok hf r s' h
    match r, h with
    | .ok (.ret u), ⟨v, H', os, bare, un, ok2, rel, q⟩ =>
      obtain rfl : v = .bl true := q
      obtain rfl : u = Value.bool true := rel
      refine ⟨rfl, OldK.of_keep ?_, os, bare⟩
      intro b o e
      match qb : H b with
      | none => exact un.keep b o e qb (fun z => nomatch z) (fun z => nomatch z)
      | some ho =>
        obtain ⟨o2, xs, rfl⟩ := hf b ho qb
        have k1 := (ok b _ qb).1
        have k2 := (ok2 b _ (un.frzs b o2 _ qb)).1
        rw [e] at k1
        cases k1
        exact k2
  match hk : K.lookup a with
  | some o =>
    have e := (KX a o hk).symm.trans ha
    obtain rfl := Option.some.inj e
    have ok : HOk P w (fun _ => none) s1.heap := fun b u z => nomatch z
    refine codeAny_mono (run _ (fun _ => none) (env_at KX hns hb hbb hlim hg ha (fun b u z => nomatch z) (fun _ _ => rfl) ok) ?_) (fin _ ok fun b u z => nomatch z)
    exact .inr ⟨_, vs.toArray, _, hk, rfl, rfl, rfl, by rw [List.size_toArray, hi.length]; exact hl, by simpa using rv⟩
  | none =>
    let o : Obj := { cls := .type "list", data := .seq vs.toArray }
    have at_ : ∀ b u, (if b = a then some (HO.frz o (.lst (ns.map V.int))) else none) = some u → b = a ∧ u = HO.frz o (.lst (ns.map V.int)) := by
      intro b u z
      by_cases hb : b = a
      · rw [if_pos hb] at z
        exact ⟨hb, (Option.some.inj z).symm⟩
      · rw [if_neg hb] at z
        cases z
    have ok : HOk P w (fun b => if b = a then some (HO.frz o (.lst (ns.map V.int))) else none) s1.heap := by
      intro b u z
      obtain ⟨rfl, rfl⟩ := at_ b u z
      exact ⟨ha, by rw [List.length_map]; exact hl, vs, _, rv, ha⟩
    refine codeAny_mono (run _ _ (env_at KX hns hb hbb hlim hg ha (fun b u z => (at_ b u z).1) (fun o' e => absurd (hk.symm.trans e) (fun z => nomatch z)) ok) ?_) (fin _ ok fun b u z => ⟨_, _, (at_ b u z).2⟩)
    exact .inl (.inr ⟨o, if_pos rfl⟩)
theorem walkG {l : PySem.W.OpenLaw} {n : Nat} {q : Program} {loose : List Str} {XP : (Str → Option Value) → Heap → Prop} {YP : World → Heap → Prop} {d : DefRec} {K : Params → PySem.W.Frag}
    (hn : l.most = some n) (hn2 : n ≤ sizeLine) (hdf : d.params.defaults = []) (hY : ∀ (w : World) (h : Heap), YP w h → (K w.params).In h)
    (F : ∀ (w : World) (mg : Str → Option Value) (fa : Addr) (h : Heap), (K w.params).In h → h.Ns mainGlobals mg → mg d.name = some (.ref fa) →
      ∀ (s : Shared) (a : Addr) (ns : List Int) (base : Heap) (H : Hp), ns.length ≤ n → (∀ z ∈ ns, Builtin.Int.intBits z ≤ 1048576) → Env0 l.prog w (K w.params) mg base callerA [] s H → SqL (K w.params) H a (ns.map V.int) →
        codeAny (model l.prog w) callerA (.call (.ref fa) ⟨[.ref a], []⟩) (CR CX0 [] l.prog w H s (fun v _ => v = .bl true) E0) s) :
    PySem.W.WalkO q loose XP YP l.row.toRowW d [] (fun f vs => PySem.call f vs) := by
  apply Att.attach_callB hn hdf
  intro w s0 s1 mg mb fa o pm cd doc a vs ns G Y ho hd hcd hmg hobj hints hlen hbits hg
  have KX := hY w _ Y
  exact law_end KX G.T.g G.T.b G.T.builtins G.T.nolimit hg hobj hints (Nat.le_trans hlen hn2) fun base H e0 hS => F w mg fa _ KX G.T.g hmg s1 a ns base H hlen hbits e0 hS
section
variable {X : Cx}
/-- what a value reads, whatever the state -/
def Rz (X : Cx) (H : Hp) (v : V) (d : PyData) : Prop := ∀ pins σ s u, Inv X pins σ H s → RelV v u → ∃ as, Reads s.heap u d as ∧ sysModules ∉ as
def rRepr (X : Cx) : List V → Hp → VK → Prop := fun xs H Q => ∃ (x : V) (d : PyData), xs = [x] ∧ (Rz X H x d ∨ (Dp X.K H x d ∧ d.hasDict = false)) ∧ d.showable = true ∧ d.depth ≤ 40 ∧ d.shown.length ≤ sizeLine ∧ Q (.str d.shown) H
theorem call_repr (hg : X.A.guards = some []) (hu : X.A.units + 64 < cLine) : CallR X (.builtin "repr") (rRepr X) := by
  intro pins s σ H xs us Q I r h
  obtain ⟨x, d, rfl, hd, hs, hp, hz, q⟩ := h
  match us, r with
  | [u], .cons rx .nil =>
    have rd : ∃ as, Reads s.heap u d as ∧ (d.hasDict = true → sysModules ∉ as) := by
      rcases hd with hd | ⟨hd, hn⟩
      · obtain ⟨as, h1, h2⟩ := hd pins σ s u I rx
        exact ⟨as, h1, fun _ => h2⟩
      · obtain ⟨as, h1⟩ := Dp.reads I d x u hd rx
        exact ⟨as, h1, fun z => by rw [hn] at z; cases z⟩
    obtain ⟨as, h1, h2⟩ := rd
    cases h1 with
    | none => exact PySem.P.repr_of_none ⟨.str _, H, I.tok _, ⟨_, rfl⟩, q⟩
    | bool b => exact PySem.P.repr_of_bool ⟨.str _, H, I.tok _, ⟨_, rfl⟩, by have q' := q; simp only [PyData.shown] at q'; cases b <;> exact q'⟩
    | int i t => exact PySem.P.repr_of_int (by simpa [PyData.showable] using hs) ⟨.str _, H, I.tok _, ⟨_, rfl⟩, by simpa only [PyData.shown] using q⟩
    | str x t => exact PySem.P.repr_of_str ⟨.str _, H, I.tok _, ⟨_, rfl⟩, by simpa only [PyData.shown] using q⟩ (by simpa only [PyData.shown] using hz)
    | list a b c e => exact repr_of_reads' (Reads.list a b c e) hs h2 hg (by omega) (fun _ _ e => e) (fun h' u tk k => ⟨.str _, H, I.kept k, ⟨_, rfl⟩, q⟩) hz
    | tuple a b c e => exact repr_of_reads' (Reads.tuple a b c e) hs h2 hg (by omega) (fun _ _ e => e) (fun h' u tk k => ⟨.str _, H, I.kept k, ⟨_, rfl⟩, q⟩) hz
    | dict a b c e f => exact repr_of_reads' (Reads.dict a b c e f) hs h2 hg (by omega) (fun _ _ e => e) (fun h' u tk k => ⟨.str _, H, I.kept k, ⟨_, rfl⟩, q⟩) hz
theorem Rz.int (H : Hp) (i : Int) : Rz X H (.int i) (.int i) := by
  rintro pins σ s u I ⟨t, rfl⟩
  exact ⟨_, Reads.int i t, (fun z => nomatch z)⟩
theorem Rz.str (H : Hp) (x : Str) : Rz X H (.str x) (.str x) := by
  rintro pins σ s u I ⟨t, rfl⟩
  exact ⟨_, Reads.str x t, (fun z => nomatch z)⟩
theorem rz_all {H : Hp} : ∀ {vs : List V} {ds : List PyData}, Paired (Rz X H) vs ds → ∀ {pins σ s us}, Inv X pins σ H s → Vals vs us → ∃ as, ReadsAll s.heap us ds as ∧ sysModules ∉ as
  | _, _, .nil, _, _, _, _, _, .nil => ⟨_, ReadsAll.nil, (fun z => nomatch z)⟩
  | _, _, .cons h t, _, _, _, _, I, .cons r rs => by
    obtain ⟨as, a1, a2⟩ := h _ _ _ _ I r
    obtain ⟨bs, b1, b2⟩ := rz_all t I rs
    exact ⟨_, ReadsAll.cons a1 b1, fun z => (List.mem_append.mp z).elim a2 b2⟩
theorem Rz.tup {H : Hp} {a : Addr} {xs : List V} {ds : List PyData} (h : SqT X.K H a xs) (hs : Paired (Rz X H) xs ds) : Rz X H (.ref a) (.tuple ds) := by
  intro pins σ s u I r
  obtain rfl : u = Value.ref a := r
  obtain ⟨its, rv, ⟨o, ho, hc, n, hd⟩, _⟩ := I.tuple h
  obtain ⟨as, h1, h2⟩ := rz_all hs I rv
  exact ⟨_, Reads.tuple ho hc hd h1, h2⟩
end
end AW
namespace AW
open PySem PySem.Spec PyProof.Rows L2
def tMid (t u : TS) : TS := fun D σ H => ∃ M : L2.St → Hp → Prop, t { D with nx := M } σ H ∧ ∀ σ2 H2, M σ2 H2 → u D σ2 H2
theorem pss_mid {X : Cx} {st : Stmt} {r : List Stmt} {t u : TS} (a : PS X st t) (b : PSs X r u) : PSs X (st :: r) (tMid t u) := by
  constructor
  rintro pins s σ H D I ⟨M, h1, h2⟩
  apply wpAny_execs_cons
  refine thn (a.run pins s σ H _ I h1) ?_
  intro fl s2 z
  match fl, z with
  | .next, ⟨σ2, H2, I2, m⟩ => exact b.run pins s2 σ2 H2 D I2 (h2 σ2 H2 m)
  | .ret _, z => exact z
  | .brk, z => exact z
  | .cont, z => exact z
def WL (H : Hp) (a c : Addr) : Prop := a ≠ c ∧ ∃ (cs : List Int) (r s : Int), H a = some (.lst [.ref c, .int r, .int s]) ∧ H c = some (.lst (cs.map V.int))
/-- all but the well stands as it stood -/
def Kp (a c : Addr) (H H' : Hp) : Prop := ∀ b o, b ≠ a → b ≠ c → H b = some o → H' b = some o
theorem Kp.refl (a c : Addr) (H : Hp) : Kp a c H H := fun _ _ _ _ h => h
theorem Kp.trans {a c : Addr} {H H1 H2 : Hp} (h : Kp a c H H1) (k : Kp a c H1 H2) : Kp a c H H2 := fun b o n1 n2 e => k b o n1 n2 (h b o n1 n2 e)
theorem Kp.tup {a c : Addr} {H H' : Hp} (w : WL H a c) (k : Kp a c H H') {b : Addr} {xs : List V} (h : H b = some (.tup xs)) : H' b = some (.tup xs) := by
  obtain ⟨_, cs, r, s, e1, e2⟩ := w
  exact k b _ (ne_of h e1 (fun z => nomatch z)) (ne_of h e2 (fun z => nomatch z)) h
theorem Kp.same {a c : Addr} {H H1 H2 : Hp} (ha : H a = none) (hc : H c = none) (s : Same H H1) (k : Kp a c H1 H2) : Same H H2 := fun b o e => k b o (ne_of_none e ha) (ne_of_none e hc) (s b o e)
theorem same_new {H : Hp} {p : Addr} {o : HO} (h : H p = none) : Same H (upd H p o) := fun b x e => by
  rw [upd_ne (ne_of_none e h)]
  exact e
theorem WL.same {H H' : Hp} {a c : Addr} (w : WL H a c) (k : Same H H') : WL H' a c := by
  obtain ⟨n, cs, r, s, e1, e2⟩ := w
  exact ⟨n, cs, r, s, k _ _ e1, k _ _ e2⟩
theorem WL.ne_new {H : Hp} {a c p : Addr} (w : WL H a c) (h : H p = none) : p ≠ a ∧ p ≠ c := by
  obtain ⟨n, cs, r, s, e1, e2⟩ := w
  exact ⟨(ne_of_none e1 h).symm, (ne_of_none e2 h).symm⟩
theorem WL.upd {H : Hp} {a c p : Addr} {o : HO} (w : WL H a c) (h1 : p ≠ a) (h2 : p ≠ c) : WL (upd H p o) a c := by
  obtain ⟨n, cs, r, s, e1, e2⟩ := w
  exact ⟨n, cs, r, s, by rw [upd_ne h1.symm]; exact e1, by rw [upd_ne h2.symm]; exact e2⟩
theorem Same.kp {a c : Addr} {H H' : Hp} (s : Same H H') : Kp a c H H' := fun b o _ _ e => s b o e
theorem dp_ints {K : PySem.W.Frag} {H : Hp} : ∀ cs : List Int, DpAll K H (cs.map V.int) (cs.map PyData.int)
  | [] => .nil
  | c :: cs => .cons (.int c) (dp_ints cs)
theorem lay_ints : ∀ cs : List Int, PyData.canLayAll0 (cs.map PyData.int) = true ∧ PyData.depthAll (cs.map PyData.int) = 0
  | [] => ⟨by simp only [List.map_nil, PyData.canLayAll0], by simp only [List.map_nil, PyData.depthAll]⟩
  | c :: cs => by
    obtain ⟨h1, h2⟩ := lay_ints cs
    exact ⟨by simp only [List.map_cons, PyData.canLayAll0, PyData.canLay0, h1, Bool.and_self], by simp only [List.map_cons, PyData.depthAll, PyData.depth, h2, Nat.max_self]⟩
/-- a deed: its word and its numbers -/
abbrev Deed := Str × List Int
def dV (d : Deed) : List V := .str d.1 :: d.2.map V.int
theorem awSnoc {α β : Type} {F : α → β → Prop} {x : α} {y : β} (h : F x y) : ∀ {l : List α} {l2 : List β}, Paired F l l2 → Paired F (l ++ [x]) (l2 ++ [y])
  | _, _, .nil => .cons h .nil
  | _, _, .cons r t => .cons r (awSnoc h t)
theorem awMap {α β : Type} {F G : α → β → Prop} (f : ∀ a b, F a b → G a b) : ∀ {l : List α} {l2 : List β}, Paired F l l2 → Paired G l l2
  | _, _, .nil => .nil
  | _, _, .cons r t => .cons (f _ _ r) (awMap f t)
theorem awLen {α β : Type} {F : α → β → Prop} : ∀ {l : List α} {l2 : List β}, Paired F l l2 → l.length = l2.length
  | _, _, .nil => rfl
  | _, _, .cons _ t => congrArg (· + 1) (awLen t)
theorem awGet {α β : Type} {F : α → β → Prop} : ∀ {l : List α} {l2 : List β} {i : Nat} {x : α}, Paired F l l2 → l[i]? = some x → ∃ y, l2[i]? = some y ∧ F x y
  | _, _, _, _, .nil, e => by simp at e
  | _, _, 0, _, .cons r _, e => by
    simp only [List.getElem?_cons_zero, Option.some.injEq] at e
    subst e
    exact ⟨_, rfl, r⟩
  | _, _, i + 1, x, .cons _ t, e => by
    simp only [List.getElem?_cons_succ] at e ⊢
    exact awGet t e
theorem awGet2 {α β : Type} {F : α → β → Prop} {l : List α} {l2 : List β} {i : Nat} {y : β} (h : Paired F l l2) (e : l2[i]? = some y) : ∃ x, l[i]? = some x ∧ F x y := by
  have hi : i < l.length := by
    rw [awLen h]
    exact (List.getElem?_eq_some_iff.mp e).1
  obtain ⟨y2, e2, f⟩ := awGet h (List.getElem?_eq_getElem hi)
  rw [e] at e2
  obtain rfl := Option.some.inj e2
  exact ⟨_, List.getElem?_eq_getElem hi, f⟩
/-- deeds that stand in the heap as tuples -/
abbrev DsAt (H : Hp) : List Addr → List Deed → Prop := Paired fun r d => H r = some (.tup (dV d))
def RowAt (H : Hp) (R : Addr) (m : Int) (ds : List Deed) (o : Int) : Prop := ∃ D rs, H R = some (.tup [.int m, .ref D, .int o]) ∧ H D = some (.tup (rs.map V.ref)) ∧ DsAt H rs ds
/-- all tuples stand -/
def TupsStay (H H' : Hp) : Prop := ∀ b xs, H b = some (.tup xs) → H' b = some (.tup xs)
theorem Same.tups {H H' : Hp} (s : Same H H') : TupsStay H H' := fun b xs e => s b _ e
theorem Kp.tups {a c : Addr} {H H' : Hp} (k : Kp a c H H') (w : WL H a c) : TupsStay H H' := fun b xs e => k.tup w e
theorem TupsStay.trans {H H1 H2 : Hp} (a : TupsStay H H1) (b : TupsStay H1 H2) : TupsStay H H2 := fun c xs e => b c xs (a c xs e)
theorem tups_put {H : Hp} {l : Addr} {xs : List V} {o : HO} (h : H l = some (.lst xs)) : TupsStay H (upd H l o) := fun b ys e => by
  rw [upd_ne (ne_of e h (fun z => nomatch z))]
  exact e
theorem TupsStay.ds {H H' : Hp} (t : TupsStay H H') {rs : List Addr} {ds : List Deed} (h : DsAt H rs ds) : DsAt H' rs ds := awMap (fun r d e => t r _ e) h
theorem TupsStay.row {H H' : Hp} (t : TupsStay H H') {R : Addr} {m o : Int} {ds : List Deed} (h : RowAt H R m ds o) : RowAt H' R m ds o := by
  obtain ⟨D, rs, e1, e2, e3⟩ := h
  exact ⟨D, rs, t _ _ e1, t _ _ e2, t.ds e3⟩
structure Nice (b k : Nat) (d : PyData) : Prop where
  sh : d.showable = true
  lv : d.leavesShort 21 = true
  bk : d.bulk ≤ b
  dp : d.depth ≤ k
theorem Nice.fits {b k : Nat} {d : PyData} (h : Nice b k d) (hb : b ≤ 100000) : d.shown.length ≤ sizeLine := by
  have h1 := PyData.shown_le_bulk 21 (by decide) d h.lv
  have h2 := h.bk
  rw [sizeLine_eq]
  omega
theorem Nice.mono {b b2 k k2 : Nat} {d : PyData} (h : Nice b k d) (hb : b ≤ b2) (hk : k ≤ k2) : Nice b2 k2 d := ⟨h.sh, h.lv, Nat.le_trans h.bk hb, Nat.le_trans h.dp hk⟩
theorem nice_int {i : Int} (h : i.natAbs < 10 ^ 20) : Nice 0 0 (.int i) := by
  refine ⟨?_, ?_, ?_, ?_⟩
  · simp only [PyData.showable, decide_eq_true_eq]
    have : i.natAbs < 2 ^ 70 := Nat.lt_trans h (by decide)
    by_cases e : i.natAbs = 0
    · rw [e]; decide
    · have := (Nat.log2_lt e).mpr this
      omega
  · simp only [PyData.leavesShort, decide_eq_true_eq]
    have e := int_text_length_le10 (k := 20) (by decide) h
    simp only [PyData.shown]
    rw [PySem.ofString_length]
    exact e
  · simp only [PyData.bulk, Nat.le_refl]
  · simp only [PyData.depth, Nat.le_refl]
theorem nice_all {b k : Nat} : ∀ {xs : List PyData}, (∀ x ∈ xs, Nice b k x) → PyData.showableAll xs = true ∧ PyData.leavesShortAll 21 xs = true ∧ PyData.bulkAll xs ≤ xs.length * (b + 1) ∧ PyData.depthAll xs ≤ k
  | [], _ => ⟨by simp only [PyData.showableAll], by simp only [PyData.leavesShortAll], by simp only [PyData.bulkAll, Nat.zero_le], by simp only [PyData.depthAll, Nat.zero_le]⟩
  | x :: xs, h => by
    obtain ⟨h1, h2, h3, h4⟩ := nice_all fun y hy => h y (List.mem_cons_of_mem _ hy)
    obtain ⟨g1, g2, g3, g4⟩ := h x List.mem_cons_self
    refine ⟨by simp only [PyData.showableAll, g1, h1, Bool.and_self], by simp only [PyData.leavesShortAll, g2, h2, Bool.and_self], ?_, ?_⟩
    · simp only [PyData.bulkAll, List.length_cons, Nat.add_mul, Nat.one_mul]
      omega
    · simp only [PyData.depthAll]
      omega
theorem nice_tup {b k n : Nat} {xs : List PyData} (h : ∀ x ∈ xs, Nice b k x) (hn : xs.length * (b + 1) ≤ n) : Nice n (k + 1) (.tuple xs) := by
  obtain ⟨h1, h2, h3, h4⟩ := nice_all h
  exact ⟨by simpa only [PyData.showable] using h1, by simpa only [PyData.leavesShort] using h2, by simp only [PyData.bulk]; omega, by simp only [PyData.depth]; omega⟩
theorem nice_lst {b k n : Nat} {xs : List PyData} (h : ∀ x ∈ xs, Nice b k x) (hn : xs.length * (b + 1) ≤ n) : Nice n (k + 1) (.list xs) := by
  obtain ⟨h1, h2, h3, h4⟩ := nice_all h
  exact ⟨by simpa only [PyData.showable] using h1, by simpa only [PyData.leavesShort] using h2, by simp only [PyData.bulk]; omega, by simp only [PyData.depth]; omega⟩
theorem atI_ints {l : List Int} {o : Int} (h0 : 0 ≤ o) (h1 : o < l.length) : atI (l.map V.int) o = some (.int (l.getD o.toNat 0)) := by
  obtain ⟨k, rfl⟩ := Int.eq_ofNat_of_zero_le h0
  have hk : k < l.length := by omega
  apply atI_nat
  rw [List.getElem?_map, List.getElem?_eq_getElem hk, Int.toNat_natCast, List.getD_eq_getElem?_getD, List.getElem?_eq_getElem hk]
  rfl
theorem pw_cast (n : Nat) : (2 : Int) ^ n = ((2 ^ n : Nat) : Int) := (PySem.W.kbt_cast n).symm
section
variable {X : Cx}
def rCatZ : R2 := fun x y H Q => ∃ a b xs ys, x = .ref a ∧ y = .ref b ∧ H a = some (.tup xs) ∧ H b = some (.tup ys) ∧ xs.length + ys.length ≤ sizeLine ∧ ∀ p H2, Same H H2 → H2 p = some (.tup (xs ++ ys)) → Q (.ref p) H2
theorem op_catZ : OpR X (binaryOp .Add) rCatZ := by
  intro pins s σ H x y v u Q I rx ry h
  obtain ⟨a, b, xs, ys, rfl, rfl, ha, hb, hz, q⟩ := h
  refine op_catA pins s σ H _ _ v u Q I rx ry ⟨a, b, xs, ys, rfl, rfl, SqT.of ha, SqT.of hb, hz, fun e => ?_, fun _ e => ?_, fun _ _ p hp => ?_⟩
  · subst e
    exact q b H (Same.refl H) hb
  · subst e
    exact q a H (Same.refl H) (by rw [List.append_nil]; exact ha)
  · exact q p _ (same_new hp) upd_same
end
/-- all but one stands as it stood -/
def But (f : Addr) (H H2 : Hp) : Prop := ∀ b o, b ≠ f → H b = some o → H2 b = some o
theorem But.trans {f : Addr} {H H1 H2 : Hp} (a : But f H H1) (b : But f H1 H2) : But f H H2 := fun c o n e => b c o n (a c o n e)
theorem But.same {f : Addr} {H H2 : Hp} (s : Same H H2) : But f H H2 := fun b o _ e => s b o e
theorem But.put {f : Addr} {H : Hp} {o : HO} : But f H (upd H f o) := fun b u n e => by
  rw [upd_ne n]
  exact e
theorem But.tups {f : Addr} {H H2 : Hp} {xs : List V} (h : But f H H2) (e : H f = some (.lst xs)) : TupsStay H H2 := fun b ys z => h b _ (ne_of z e (fun q => nomatch q)) z
def TP (H : Hp) (a : Addr) : Prop := ∃ x y : Int, H a = some (.lst [.int x, .int y])
theorem TP.same {H H2 : Hp} {a : Addr} (h : TP H a) (s : Same H H2) : TP H2 a := by
  obtain ⟨x, y, e⟩ := h
  exact ⟨x, y, s _ _ e⟩
theorem TP.ne_new {H : Hp} {a p : Addr} (h : TP H a) (e : H p = none) : p ≠ a := by
  obtain ⟨x, y, e1⟩ := h
  exact (ne_of_none e1 e).symm
theorem TP.upd {H : Hp} {a p : Addr} {o : HO} (h : TP H a) (n : p ≠ a) : TP (upd H p o) a := by
  obtain ⟨x, y, e1⟩ := h
  exact ⟨x, y, by rw [upd_ne n.symm]; exact e1⟩
theorem But.tape {a : Addr} {H H2 : Hp} (h : But a H H2) (t : TP H a) : TupsStay H H2 := by
  obtain ⟨x, y, e⟩ := t
  exact h.tups e
theorem But.refl (a : Addr) (H : Hp) : But a H H := fun _ _ _ e => e
def twC : List Str := ["add", "sub", "twice", "neg", "one"]
abbrev Bit (x : Int) : Prop := x = 0 ∨ x = 1
theorem bit0 : Bit 0 := .inl rfl
theorem bit1 : Bit 1 := .inr rfl
end AW
namespace KK
open PySem PySem.Spec PyProof.Rows L2 AW
def topS (i : Nat) : Stmt := PySem.Challenge.pw_anywide_k44_states_parted.main.body.getD i (.Pass ⟨0, 0, 0, 0⟩)
abbrev s_all_bits : Stmt := topS 1
abbrev N_all_bits : List Str := ["many", "choices", "place", "bits", "bit"]
theorem sc_all_bits : FnScope N_all_bits ["many"] (defScope s_all_bits) := ⟨rfl, rfl, rfl, by decide +kernel, rfl, by decide +kernel, by decide +kernel⟩
abbrev s_both_steps : Stmt := topS 4
abbrev N_both_steps : List Str := ["ones", "others", "bit", "after", "others_bit", "others_after"]
theorem sc_both_steps : FnScope N_both_steps ["ones", "others"] (defScope s_both_steps) := ⟨rfl, rfl, rfl, by decide +kernel, rfl, by decide +kernel, by decide +kernel⟩
abbrev s_leader_of : Stmt := topS 6
abbrev N_leader_of : List Str := ["leaders", "state"]
theorem sc_leader_of : FnScope N_leader_of ["leaders", "state"] (defScope s_leader_of) := ⟨rfl, rfl, rfl, by decide +kernel, rfl, by decide +kernel, by decide +kernel⟩
abbrev s_join_states : Stmt := topS 7
abbrev N_join_states : List Str := ["leaders", "one", "other"]
theorem sc_join_states : FnScope N_join_states ["leaders", "one", "other"] (defScope s_join_states) := ⟨rfl, rfl, rfl, by decide +kernel, rfl, by decide +kernel, by decide +kernel⟩
abbrev s_parting : Stmt := topS 8
abbrev N_parting : List Str := ["machine", "one", "other", "choices", "leaders", "walk", "at", "first", "second", "bits", "bit", "others_bit", "after"]
theorem sc_parting : FnScope N_parting ["machine", "one", "other"] (defScope s_parting) := ⟨rfl, rfl, rfl, by decide +kernel, rfl, by decide +kernel, by decide +kernel⟩
abbrev s_law_tape : Stmt := topS 10
abbrev N_law_tape : List Str := ["script", "start", "cell"]
theorem sc_law_tape : FnScope N_law_tape ["script", "start"] (defScope s_law_tape) := ⟨rfl, rfl, rfl, by decide +kernel, rfl, by decide +kernel, by decide +kernel⟩
abbrev s_law_digit : Stmt := topS 11
abbrev N_law_digit : List Str := ["tape", "many", "found", "more"]
theorem sc_law_digit : FnScope N_law_digit ["tape", "many"] (defScope s_law_digit) := ⟨rfl, rfl, rfl, by decide +kernel, rfl, by decide +kernel, by decide +kernel⟩
abbrev s_law_drawn : Stmt := topS 12
abbrev N_law_drawn : List Str := ["tape", "many", "size", "found", "k", "state", "number"]
theorem sc_law_drawn : FnScope N_law_drawn ["tape", "many"] (defScope s_law_drawn) := ⟨rfl, rfl, rfl, by decide +kernel, rfl, by decide +kernel, by decide +kernel⟩
abbrev s_law_all_bits : Stmt := topS 13
abbrev N_law_all_bits : List Str := ["many", "found", "k", "some"]
theorem sc_law_all_bits : FnScope N_law_all_bits ["many"] (defScope s_law_all_bits) := ⟨rfl, rfl, rfl, by decide +kernel, rfl, by decide +kernel, by decide +kernel⟩
abbrev s_law_parted : Stmt := topS 14
abbrev N_law_parted : List Str := ["machine", "many", "one", "other", "every", "met", "layer", "ends", "later", "way", "pair", "number", "bits", "here", "there"]
theorem sc_law_parted : FnScope N_law_parted ["machine", "many", "one", "other"] (defScope s_law_parted) := ⟨rfl, rfl, rfl, by decide +kernel, rfl, by decide +kernel, by decide +kernel⟩
abbrev s_law_chain_right : Stmt := topS 15
abbrev N_law_chain_right : List Str := ["tape", "many", "size", "machine", "two", "one", "k"]
theorem sc_law_chain_right : FnScope N_law_chain_right ["tape", "many"] (defScope s_law_chain_right) := ⟨rfl, rfl, rfl, by decide +kernel, rfl, by decide +kernel, by decide +kernel⟩
abbrev s_law : Stmt := topS 16
abbrev N_law : List Str := ["script", "start", "tape", "many", "machine", "kept", "turn", "one", "other", "due", "again", "found"]
theorem sc_law : FnScope N_law ["script"] (defScope s_law) := ⟨rfl, rfl, rfl, by decide +kernel, rfl, by decide +kernel, by decide +kernel⟩
abbrev c_Walk : Stmt := topS 3
section
variable {P : Program} {w : World} {K : PySem.W.Frag} {mg : Str → Option Value} {base : Heap}
mutual
inductive NkAt (H : Hp) : NestedKey → V → Prop
  | num (i : Int) : NkAt H (.num i) (.int i)
  | tup {a : Addr} {xs : List V} {ks : List NestedKey} : H a = some (.tup xs) → NkAll H ks xs → NkAt H (.tup ks) (.ref a)
inductive NkAll (H : Hp) : List NestedKey → List V → Prop
  | nil : NkAll H [] []
  | cons {k : NestedKey} {v : V} {ks : List NestedKey} {vs : List V} : NkAt H k v → NkAll H ks vs → NkAll H (k :: ks) (v :: vs)
end
section nds
variable {X : Cx}
mutual
theorem nk_is {pins : List (Addr × Obj)} {σ : L2.St} {H : Hp} {s : Shared} (I : Inv X pins σ H s) : ∀ (k : NestedKey) (v : V) (u : Value), NkAt H k v → RelV v u → NestedIs s.heap k u
  | .none, _, _, h, _ => nomatch h
  | .text _, _, _, h, _ => nomatch h
  | .num i, _, _, h, r => by
    cases h
    obtain ⟨t, rfl⟩ := r
    exact .int _ _
  | .tup ks, _, _, h, r => by
    cases h with
    | tup e hs =>
      cases r
      obtain ⟨_, its, rv, o, ho, hc, n, hd⟩ := I.hok _ _ e
      exact .tup ho hc hd (by simpa using nks_is I ks _ _ hs rv)
theorem nks_is {pins : List (Addr × Obj)} {σ : L2.St} {H : Hp} {s : Shared} (I : Inv X pins σ H s) : ∀ (ks : List NestedKey) (vs : List V) (us : List Value), NkAll H ks vs → Vals vs us → NestedAll s.heap ks us
  | [], _, _, h, r => by
    cases h
    cases r
    exact .nil
  | k :: ks, _, _, h, r => by
    cases h with
    | cons h1 h2 =>
      cases r with
      | cons r1 r2 => exact .cons (nk_is I k _ _ h1 r1) (nks_is I ks _ _ h2 r2)
end
mutual
theorem nk_stay {H H' : Hp} (t : TupsStay H H') : ∀ (k : NestedKey) (v : V), NkAt H k v → NkAt H' k v
  | .none, _, h => nomatch h
  | .text _, _, h => nomatch h
  | .num i, _, h => by
    cases h
    exact .num i
  | .tup ks, _, h => by
    cases h with
    | tup e hs => exact .tup (t _ _ e) (nks_stay t ks _ hs)
theorem nks_stay {H H' : Hp} (t : TupsStay H H') : ∀ (ks : List NestedKey) (vs : List V), NkAll H ks vs → NkAll H' ks vs
  | [], _, h => by
    cases h
    exact .nil
  | k :: ks, _, h => by
    cases h with
    | cons h1 h2 => exact .cons (nk_stay t k _ h1) (nks_stay t ks _ h2)
end
abbrev NE := NestedKey × Addr × V
abbrev NRel : List NE → List (NestedKey × Addr × Value) → Prop := Paired fun p q => p.1 = q.1 ∧ p.2.1 = q.2.1 ∧ RelV p.2.2 q.2.2
def NDO (P : Program) (w : World) (a : Addr) (xs : List NE) : HO := .ext fun h => xs.length ≤ sizeLine ∧ (a == sysModules) = false ∧ ∃ ys, NRel xs ys ∧ ∃ o es ep, h.get? a = some o ∧ o.ExactDict ∧ o.data = .dict es ep ∧ es.toList = ys.map (entryOfKey (nestedKind P w)) ∧ (ys.map (·.1)).Nodup
theorem ndo_ok {P : Program} {w : World} {H : Hp} {h : Heap} {a : Addr} {xs : List NE} {ys : List (NestedKey × Addr × Value)} (hz : xs.length ≤ sizeLine) (hd : (a == sysModules) = false) (r : NRel xs ys) (dd : h.DictOfH (nestedKind P w) a ys) : ObjOk P w H h a (NDO P w a xs) := by
  obtain ⟨o, es, ep, h1, h2, h3, h4, _, h5⟩ := dd
  refine ⟨⟨hz, hd, ys, r, o, es, ep, h1, h2, h3, h4, h5⟩, ⟨o, h1⟩, ?_⟩
  rintro g1 g2 ⟨z1, z2, ys, z3, o, es, ep, z4, z5⟩ k
  exact ⟨z1, z2, ys, z3, o, es, ep, k o z4, z5⟩
structure ND (P : Program) (w : World) (H : Hp) (a : Addr) (xs : List NE) : Prop where
  ob : H a = some (NDO P w a xs)
  ks : ∀ p ∈ xs, NkAt H p.1 (.ref p.2.1) ∧ p.1.depth ≤ 8
theorem ND.full {pins : List (Addr × Obj)} {σ : L2.St} {H : Hp} {s : Shared} {a : Addr} {xs : List NE} (I : Inv X pins σ H s) (h : ND X.prog X.w H a xs) : xs.length ≤ sizeLine ∧ (a == sysModules) = false ∧ ∃ ys, NRel xs ys ∧ s.heap.DictOfH (nestedKind X.prog X.w) a ys := by
  obtain ⟨⟨z1, z2, ys, z3, o, es, ep, z4, z5, z6, z7, z8⟩, _⟩ := I.hok a _ h.ob
  refine ⟨z1, z2, ys, z3, o, es, ep, z4, z5, z6, z7, fun y hy => ?_, z8⟩
  obtain ⟨i, hi⟩ := List.mem_iff_getElem?.mp hy
  obtain ⟨p, hp, e1, e2, _⟩ := awGet2 z3 hi
  obtain ⟨k1, k2⟩ := h.ks p (List.mem_of_getElem? hp)
  rw [e1, e2] at k1
  rw [e1] at k2
  exact ⟨nk_is I _ _ _ k1 rfl, k2⟩
def getN (xs : List NE) (k : NestedKey) : Option V := (xs.find? fun x => decide (x.1 = k)).map (·.2.2)
theorem getN_rel {k : NestedKey} : ∀ {xs : List NE} {ys : List (NestedKey × Addr × Value)}, NRel xs ys → RelO (getN xs k) ((atKey ys k).map (·.2))
  | _, _, .nil => trivial
  | x :: _, y :: _, .cons ⟨e1, _, e3⟩ t => by
    have ih := getN_rel (k := k) t
    unfold getN atKey at *
    rw [List.find?_cons, List.find?_cons, ← e1]
    by_cases h : x.1 = k
    · rw [decide_eq_true h]
      exact e3
    · rw [decide_eq_false h]
      exact ih
theorem getN_none {k : NestedKey} {xs : List NE} : getN xs k = none ↔ ∀ p ∈ xs, p.1 ≠ k := by
  unfold getN
  rw [Option.map_eq_none_iff, List.find?_eq_none]
  simp
theorem getN_some {k : NestedKey} {xs : List NE} {v : V} (h : getN xs k = some v) : ∃ b, (k, b, v) ∈ xs := by
  unfold getN at h
  cases e : xs.find? fun x => decide (x.1 = k) with
  | none => rw [e] at h; cases h
  | some p =>
    rw [e] at h
    have h2 : p.1 = k := of_decide_eq_true (List.find?_some (p := fun x : NE => decide (x.1 = k)) e)
    obtain rfl : p.2.2 = v := Option.some.inj h
    exact ⟨p.2.1, h2 ▸ List.mem_of_find?_eq_some e⟩
theorem nd_stay {P : Program} {w : World} {H H' : Hp} {a : Addr} {xs : List NE} (h : ND P w H a xs) (e : H' a = some (NDO P w a xs)) (t : TupsStay H H') : ND P w H' a xs := ⟨e, fun p hp => ⟨nk_stay t _ _ (h.ks p hp).1, (h.ks p hp).2⟩⟩
/-- what is asked of a key -/
def KeyN (H : Hp) (y : V) (k : NestedKey) : Prop := NkAt H k y ∧ k.depth ≤ 8 ∧ ∃ b, y = .ref b
def tNGet (P : Program) (w : World) (td ty : TE) : TE := fun σ H Q => td σ H fun x H1 => ty σ H1 fun y H2 => ∃ a xs k v, x = .ref a ∧ ND P w H2 a xs ∧ KeyN H2 y k ∧ getN xs k = some v ∧ Q v H2
def tNNotIn (P : Program) (w : World) (ty td : TE) : TE := fun σ H Q => ty σ H fun y H1 => td σ H1 fun x H2 => ∃ a xs k, x = .ref a ∧ ND P w H2 a xs ∧ KeyN H2 y k ∧ Q (.bl (!(getN xs k).isSome)) H2
def sNPut (P : Program) (w : World) (td ty tv : TE) : TS := fun D σ H => tv σ H fun v H1 => td σ H1 fun x H2 => ty σ H2 fun y H3 => ∃ a xs k b, x = .ref a ∧ ND P w H3 a xs ∧ y = .ref b ∧ KeyN H3 y k ∧ getN xs k = none ∧ xs.length < sizeLine ∧ D.nx σ (upd H3 a (NDO P w a (xs ++ [(k, b, v)])))
theorem nd_put {P : Program} {w : World} {H : Hp} {a b : Addr} {xs : List NE} {k : NestedKey} {v : V} (h : ND P w H a xs) (hk : KeyN H (.ref b) k) : ND P w (upd H a (NDO P w a (xs ++ [(k, b, v)]))) a (xs ++ [(k, b, v)]) := by
  have t : TupsStay H (upd H a (NDO P w a (xs ++ [(k, b, v)]))) := fun c ys e => by
    rw [upd_ne (ne_of e h.ob (fun z => nomatch z))]
    exact e
  refine ⟨upd_same, fun p hp => ?_⟩
  rcases List.mem_append.mp hp with hp | hp
  · exact ⟨nk_stay t _ _ (h.ks p hp).1, (h.ks p hp).2⟩
  · rw [List.mem_singleton.mp hp]
    exact ⟨nk_stay t _ _ hk.1, hk.2.1⟩
theorem nd_at {pins : List (Addr × Obj)} {σ : L2.St} {H : Hp} {s : Shared} {y : V} {k : NestedKey} {u : Value} (I : Inv X pins σ H s) (hk : KeyN H y k) (r : RelV y u) : ∃ b, u = .ref b ∧ y = .ref b ∧ (nestedKind X.prog X.w).is s.heap k b := by
  obtain ⟨h1, h2, b, rfl⟩ := hk
  obtain rfl : u = Value.ref b := r
  exact ⟨b, rfl, rfl, nk_is I _ _ _ h1 rfl, h2⟩
theorem nrel_none {k : NestedKey} {xs : List NE} {ys : List (NestedKey × Addr × Value)} (r : NRel xs ys) (h : getN xs k = none) : atKey ys k = none := by
  have z := getN_rel (k := k) r
  rw [h] at z
  cases e : atKey ys k with
  | none => rfl
  | some p => rw [e] at z; exact z.elim
theorem pe_ndget {P : Program} {w : World} (hP : X.prog = P) (hw : X.w = w) {o i : Expr} {td ty : TE} {pos : Pos} (hu : X.A.units + 64 < cLine) (ho : PE X o td) (hi : PE X i ty) (hs : NoSl i) : PE X (.Subscript o i pos) (tNGet P w td ty) := by
  subst hP hw
  constructor
  intro pins s σ H Q I h
  refine subD_of PySem.F.slot_dict_getitem.lookup hs (thn (ho.run pins s σ H _ I h) ?_)
  rintro u s1 ⟨x, H1, I1, rx, q1⟩
  refine thn (hi.run pins s1 σ H1 _ I1 q1) ?_
  rintro iv s2 ⟨y, H2, I2, ry, a, xs, k, v, rfl, hn, hk, hv, q2⟩
  obtain rfl : u = Value.ref a := rx
  obtain ⟨b, rfl, rfl, hb⟩ := nd_at I2 hk ry
  obtain ⟨_, hd, ys, r, dd⟩ := hn.full I2
  have z := getN_rel (k := k) r
  rw [hv] at z
  cases e : atKey ys k with
  | none => rw [e] at z; exact z.elim
  | some p =>
    rw [e] at z
    exact ⟨dd.typeIs, wpAny_getItem_heap (knd := nestedKind X.prog X.w) (show X.A.in1.units + 8 < cLine by show X.A.units + 1 + 8 < cLine; omega) hb dd e ⟨v, H2, I2.tok _, z, q2⟩⟩
theorem pc_ndnotin {P : Program} {w : World} (hP : X.prog = P) (hw : X.w = w) {o i : Expr} {td ty : TE} (hu : X.A.units + 64 < cLine) (hi : PE X i ty) (ho : PE X o td) : PC X .NotIn i o (tNNotIn P w ty td) := by
  subst hP hw
  constructor
  intro pins s σ H Q I h
  refine thn (hi.run pins s σ H _ I h) ?_
  rintro iv s1 ⟨y, H1, I1, ry, q1⟩
  refine thn (ho.run pins s1 σ H1 _ I1 q1) ?_
  rintro u s2 ⟨x, H2, I2, rx, a, xs, k, rfl, hn, hk, q2⟩
  obtain rfl : u = Value.ref a := rx
  obtain ⟨b, rfl, rfl, hb⟩ := nd_at I2 hk ry
  obtain ⟨_, hd, ys, r, dd⟩ := hn.full I2
  have z := (getN_rel (k := k) r).isSome_eq
  rw [Option.isSome_map] at z
  refine notIn_keyed (knd := nestedKind X.prog X.w) (show X.A.in1.units + 8 < cLine by show X.A.units + 1 + 8 < cLine; omega) hb hd ⟨ys, dd, rfl⟩ ⟨.bl (!(getN xs k).isSome), H2, I2.tok _, ?_, q2⟩
  rw [valueAt_pairsH, Option.isSome_map, ← z]
  rfl
theorem nd_write {pins : List (Addr × Obj)} {σ : L2.St} {H : Hp} {s : Shared} {a b : Addr} {xs : List NE} {ys : List (NestedKey × Addr × Value)} {k : NestedKey} {v : V} {r : Value} {h' : Heap} {tk : Nat} (I : Inv X pins σ H s) (hn : ND X.prog X.w H a xs) (hl : xs.length < sizeLine) (rel : NRel xs ys) (hd : (a == sysModules) = false)
    (h0 : atKey ys k = none) (rv : RelV v r) (dd : h'.DictOfH (nestedKind X.prog X.w) a (storedH ys k b r)) (hs : Heap.SameBut a s.heap h') : Inv X pins σ (upd H a (NDO X.prog X.w a (xs ++ [(k, b, v)]))) { s with heap := h', toks := tk } := by
  rw [storedH_new h0] at dd
  have he : ∃ o, h'.get? a = some o := dd.elim fun o z => ⟨o, z.choose_spec.choose_spec.1⟩
  refine d_write I (by rw [hn.ob]; exact True.intro) hs he (ndo_ok ?_ hd (awSnoc (F := fun (p : NE) (q : NestedKey × Addr × Value) => p.1 = q.1 ∧ p.2.1 = q.2.1 ∧ RelV p.2.2 q.2.2) ⟨rfl, rfl, rv⟩ rel) dd)
  rw [List.length_append]
  exact hl
theorem ps_ndput {P : Program} {w : World} (hP : X.prog = P) (hw : X.w = w) {o i value : Expr} {td ty tv : TE} {pos pos' : Pos} (hu : X.A.units + 64 < cLine) (ho : PE X o td) (hi : PE X i ty) (hv : PE X value tv) (hs : swapsWith value (some (.Subscript o i pos')) pos.line X.env = pure false) :
    PS X (.Assign [.Subscript o i pos'] value pos) (sNPut P w td ty tv) := by
  subst hP hw
  constructor
  intro pins s σ H D I h
  refine wpAny_Assign_Subscript (thn (hv.run pins s σ H _ I h) ?_) hs
  rintro r s1 ⟨v, H1, I1, rv, q1⟩
  refine thn (ho.run pins s1 σ H1 _ I1 q1) ?_
  rintro u s2 ⟨x, H2, I2, rx, q2⟩
  refine thn (hi.run pins s2 σ H2 _ I2 q2) ?_
  rintro iv s3 ⟨y, H3, I3, ry, a, xs, k, b, rfl, hn, rfl, hk, hg, hl, q3⟩
  obtain rfl : u = Value.ref a := rx
  obtain ⟨b', rfl, eb, hb⟩ := nd_at I3 hk ry
  obtain rfl : b = b' := V.ref.inj eb
  obtain ⟨_, hd, ys, rel, dd⟩ := hn.full I3
  have hz : ys.length ≤ sizeLine := by
    have := awLen rel
    omega
  exact wpAny_setItem_heap (knd := nestedKind X.prog X.w) (hsz := hz) (show X.A.in1.units + 8 < cLine by show X.A.units + 1 + 8 < cLine; omega) hb dd fun h' dd' hs' => ⟨σ, _, nd_write I3 hn hl rel hd (nrel_none rel hg) rv dd' hs', q3⟩
/-- {t: v} -/
def tNDisp (P : Program) (w : World) (tk tv : TE) : TE := fun σ H Q => ∀ p, H p = none → tk σ (upd H p (NDO P w p [])) fun x H1 => tv σ H1 fun v H2 => ∃ b k, x = .ref b ∧ KeyN H2 x k ∧ H2 p = some (NDO P w p []) ∧ Q (.ref p) (upd H2 p (NDO P w p [(k, b, v)]))
theorem pe_ndisp {P : Program} {w : World} (hP : X.prog = P) (hw : X.w = w) {ek ev : Expr} {tk tv : TE} {pos : Pos} (hu : X.A.units + 64 < cLine) (hk : PE X ek tk) (hv : PE X ev tv) : PE X (.Dict [some ek] [ev] pos) (tNDisp P w tk tv) := by
  subst hP hw
  constructor
  intro pins s σ H Q I q
  have hn := I.hok.fresh (Nat.le_refl s.heap.objs.size)
  have ok : ObjOk X.prog X.w (upd H s.heap.objs.size (NDO X.prog X.w s.heap.objs.size [])) (s.heap.push { cls := .type "dict", data := .dict #[] }) s.heap.objs.size (NDO X.prog X.w s.heap.objs.size []) :=
    ndo_ok (Nat.zero_le _) (beq_eq_false_iff_ne.mpr (Ne.symm (Nat.ne_of_lt I.big))) .nil (Heap.DictOfH.new s.heap)
  have I1 := I.laid (t' := s.toks) (fun _ _ z => Heap.get?_push_of_some _ z) (Nat.le_refl _) ok
  rw [arm_eval_Dict, zip_pairTrees [some ek] [ev] X.env pos rfl rfl, dictDisplay_pairs (pairTrees [some ek] [ev] X.env pos) (by simp [pairTrees]) (by simp [pairTrees])]
  apply wpAny_bind
  apply wpAny_standAt
  apply wpAny_bind
  refine wpAny_subDictH (knd := nestedKind X.prog X.w) (show X.A.units + 8 < cLine by omega) (by show 1 ≤ 15; decide) ?_
  refine thn ((pps_cons (pos := pos) hk hv pps_nil).run pins _ σ _ (fun ps H2 => match ps with | [(x, v)] => ∃ b k, x = .ref b ∧ KeyN H2 x k ∧ H2 s.heap.objs.size = some (NDO X.prog X.w s.heap.objs.size []) ∧ Q (.ref s.heap.objs.size) (upd H2 s.heap.objs.size (NDO X.prog X.w s.heap.objs.size [(k, b, v)])) | _ => False) I1 (q _ hn)) ?_
  rintro ws s2 ⟨ps, H2, I2, rel, hq⟩
  cases rel with
  | nil => exact hq.elim
  | cons r t =>
    cases t with
    | cons _ _ => exact hq.elim
    | nil =>
    rename_i p0 w0
    obtain ⟨x, v⟩ := p0
    obtain ⟨u1, u2⟩ := w0
    obtain ⟨r1, r2⟩ := r
    obtain ⟨b, k, e, hk2, hp, q2⟩ := hq
    subst e
    obtain ⟨b', rfl, eb, hb⟩ := nd_at I2 hk2 r1
    obtain rfl : b = b' := V.ref.inj eb
    have hN : ND X.prog X.w H2 s.heap.objs.size [] := ⟨hp, (fun _ z => nomatch z)⟩
    obtain ⟨_, hd, ys, r0, dd⟩ := hN.full I2
    cases r0
    refine ⟨[(k, b, u2)], ⟨rfl, rfl, hb, trivial⟩, dd, fun h' tk dd' hs => ?_⟩
    exact wpAny_pure ⟨.ref s.heap.objs.size, _, nd_write I2 hN (by show 0 < sizeLine; decide) .nil hd rfl r2 dd' hs, rfl, q2⟩
end nds
abbrev sWalk___init__ : Stmt := inClass c_Walk 0
abbrev sWalk_meet : Stmt := inClass c_Walk 1
theorem scWi : FnScope ["self", "first"] ["self", "first"] (defScope sWalk___init__) := ⟨rfl, rfl, rfl, by decide +kernel, rfl, by decide +kernel, by decide +kernel⟩
theorem scWm : FnScope ["self", "thing", "ahead", "bits"] ["self", "thing", "ahead", "bits"] (defScope sWalk_meet) := ⟨rfl, rfl, rfl, by decide +kernel, rfl, by decide +kernel, by decide +kernel⟩
theorem w_mn : ¬ ("met" : Str) = "numbers" := by decide +kernel
theorem w_mw : ¬ ("met" : Str) = "ways" := by decide +kernel
theorem w_nw : ¬ ("numbers" : Str) = "ways" := by decide +kernel
def wF (M N W : Addr) : List (Str × V) := putF "ways" (.ref W) (putF "numbers" (.ref N) (putF "met" (.ref M) []))
theorem wF_met (M N W : Addr) : (wF M N W).lookup ("met" : Str) = some (.ref M) := by
  unfold wF
  rw [lookup_putF, if_neg w_mw, lookup_putF, if_neg w_mn, lookup_putF, if_pos rfl]
theorem wF_num (M N W : Addr) : (wF M N W).lookup ("numbers" : Str) = some (.ref N) := by
  unfold wF
  rw [lookup_putF, if_neg w_nw, lookup_putF, if_pos rfl]
theorem wF_ways (M N W : Addr) : (wF M N W).lookup ("ways" : Str) = some (.ref W) := by
  unfold wF
  rw [lookup_putF, if_pos rfl]
theorem wF_no (M N W : Addr) {m : Str} (h1 : ¬ m = "ways") (h2 : ¬ m = "numbers") (h3 : ¬ m = "met") : (wF M N W).lookup m = none := by
  unfold wF
  rw [lookup_putF, if_neg h1, lookup_putF, if_neg h2, lookup_putF, if_neg h3]
  rfl
theorem wF_meet (M N W : Addr) : (wF M N W).lookup ("meet" : Str) = none := wF_no M N W (by decide +kernel) (by decide +kernel) (by decide +kernel)
structure WCls (K : PySem.W.Frag) (mg : Str → Option Value) (C : Addr) : Prop where
  cl : Cls K C
  nM : NoAttr K C "met"
  nN : NoAttr K C "numbers"
  nW : NoAttr K C "ways"
  mgC : mg "Walk" = some (.ref C)
abbrev WT := NestedKey × Addr
def numE (ts : List WT) : List NE := ts.mapIdx fun i t => (t.1, t.2, .int (i : Nat))
theorem numE_snoc (ts : List WT) (t : WT) : numE (ts ++ [t]) = numE ts ++ [(t.1, t.2, .int (ts.length : Nat))] := by
  unfold numE
  rw [List.mapIdx_append]
  simp
theorem numE_len (ts : List WT) : (numE ts).length = ts.length := List.length_mapIdx ..
theorem numE_mem {ts : List WT} {e : NE} (h : e ∈ numE ts) : ∃ i t, ts[i]? = some t ∧ e = (t.1, t.2, .int (i : Nat)) := by
  obtain ⟨i, hi, rfl⟩ := List.mem_mapIdx.mp h
  exact ⟨i, ts[i], List.getElem?_eq_getElem hi, rfl⟩
theorem numE_some {ts : List WT} {i : Nat} {k : NestedKey} {b : Addr} (nd : (ts.map (·.1)).Nodup) (h : ts[i]? = some (k, b)) : getN (numE ts) k = some (.int (i : Nat)) := by
  cases e : getN (numE ts) k with
  | none =>
    exfalso
    have hi := (List.getElem?_eq_some_iff.mp h).1
    have := getN_none.mp e (k, b, .int (i : Nat)) (List.mem_mapIdx.mpr ⟨i, hi, by rw [List.getElem?_eq_getElem hi] at h; rw [Option.some.inj h]⟩)
    exact this rfl
  | some v =>
    obtain ⟨c, hc⟩ := getN_some e
    obtain ⟨j, t, ht, he⟩ := numE_mem hc
    have e1 : t.1 = k := (Prod.mk.inj he).1.symm
    have e2 : v = .int (j : Nat) := (Prod.mk.inj (Prod.mk.inj he).2).2
    have ij : i = j := by
      have a1 : (ts.map (·.1))[i]? = some k := by rw [List.getElem?_map, h]; rfl
      have a2 : (ts.map (·.1))[j]? = some k := by rw [List.getElem?_map, ht, ← e1]; rfl
      exact (List.getElem?_inj (List.getElem?_eq_some_iff.mp a1).1 nd).mp (a1.trans a2.symm)
    rw [e2, ij]
abbrev WayAt (H : Hp) : List Addr → List (Int × List Int) → Prop := Paired fun q e => ∃ bb, H q = some (.tup [.int e.1, .ref bb]) ∧ H bb = some (.tup (e.2.map V.int))
structure WalkAt (P : Program) (w : World) (C : Addr) (H : Hp) (p M N W : Addr) (ts : List WT) (wy : List (Int × List Int)) : Prop where
  ob : ∃ dx, H p = some (.ins C dx (wF M N W))
  met : H M = some (.lst (ts.map fun t => V.ref t.2))
  num : ND P w H N (numE ts)
  ways : ∃ ws, H W = some (.lst (ws.map V.ref)) ∧ WayAt H ws wy
  nd : (ts.map (·.1)).Nodup
  keys : ∀ t ∈ ts, KeyN H (.ref t.2) t.1
  len : wy.length = ts.length
  nMW : M ≠ W
theorem keyn_stay {H H' : Hp} (t : TupsStay H H') {y : V} {k : NestedKey} (h : KeyN H y k) : KeyN H' y k := ⟨nk_stay t _ _ h.1, h.2⟩
theorem WalkAt.stay {C : Addr} {H H' : Hp} {p M N W : Addr} {ts : List WT} {wy : List (Int × List Int)} (h : WalkAt P w C H p M N W ts wy) (t : TupsStay H H') (k : ∀ c o, (c = p ∨ c = M ∨ c = N ∨ c = W) → H c = some o → H' c = some o) : WalkAt P w C H' p M N W ts wy := by
  obtain ⟨⟨dx, ob⟩, met, num, ⟨ws, e1, e2⟩, nd, keys, len, ne⟩ := h
  exact ⟨⟨dx, k _ _ (.inl rfl) ob⟩, k _ _ (.inr (.inl rfl)) met, nd_stay num (k _ _ (.inr (.inr (.inl rfl))) num.ob) t, ⟨ws, k _ _ (.inr (.inr (.inr rfl))) e1, awMap (fun q e z => z.elim fun bb y => ⟨bb, t _ _ y.1, t _ _ y.2⟩) e2⟩, nd, fun x hx => keyn_stay t (keys x hx), len, ne⟩
theorem WalkAt.same {C : Addr} {H H' : Hp} {p M N W : Addr} {ts : List WT} {wy : List (Int × List Int)} (h : WalkAt P w C H p M N W ts wy) (s : Same H H') : WalkAt P w C H' p M N W ts wy := h.stay (Same.tups s) fun c o _ e => s c o e
def spWi (P : Program) (w : World) (C : Addr) : Sp := fun vs H Q _ => ∃ (p dx b : Addr) (k : NestedKey), vs = [.ref p, .ref b] ∧ H p = some (.ins C dx []) ∧ KeyN H (.ref b) k ∧
  ∀ H' M N W, WalkAt P w C H' p M N W [(k, b)] [(0, [])] → H M = none → H N = none → H W = none → (∀ c o, c ≠ p → H c = some o → H' c = some o) → Q .non H'
theorem ok_wi {f C : Addr} {fd : FuncData} {k : Nat} (F : Fun K "__init__" "Walk.__init__" sWalk___init__ f fd) (T : WCls K mg C) : FnOk P w K mg base CX0 (k + 1) f fd ["self", "first"] (spWi P w C) := by
  refine F.ok scWi (fun vs H Q E h => ?_) (fun cdv A outer s H vs Q E hr h => ?_)
  · obtain ⟨p, dx, b, k, rfl, _⟩ := h
    rfl
  · obtain ⟨p, dx, b, key, rfl, hp, hk, q⟩ := h
    refine ⟨_, pss_cons (ps_fld (pv 0) (pe_lst (pa_cons (pv 1) pa_nil)) rfl)
      (pss_cons (ps_fld (pv 0) (pe_ndisp (P := P) (w := w) rfl rfl hr.units (pv 1) pe_int) rfl)
      (pss_one (ps_fld (pv 0) (pe_lst (pa_cons (pe_tup (pa_cons pe_int (pa_cons (pe_tup pa_nil) pa_nil))) pa_nil)) rfl))), ?_⟩
    refine ⟨.ref b, rfl, by show 1 ≤ sizeLine; decide, fun M hM => ?_⟩
    have sM := same_new (o := .lst [.ref b]) hM
    have npM : p ≠ M := ne_of_none hp hM
    refine ⟨.ref p, rfl, p, C, dx, [], rfl, sM _ _ hp, T.cl, T.nM, (by show 0 < 1000; decide), ?_⟩
    -- the heap with met
    have t1 : TupsStay H (upd (upd H M (.lst [.ref b])) p (.ins C dx (putF "met" (.ref M) []))) := fun c xs e => by
      rw [upd_ne (ne_of e hp (fun z => nomatch z))]
      exact sM _ _ e
    have k1 : ∀ c o, c ≠ p → H c = some o → upd (upd H M (.lst [.ref b])) p (.ins C dx (putF "met" (.ref M) [])) c = some o := fun c o n e => by
      rw [upd_ne n]
      exact sM _ _ e
    have ep1 : upd (upd H M (.lst [.ref b])) p (.ins C dx (putF "met" (.ref M) [])) p = some (.ins C dx (putF "met" (.ref M) [])) := upd_same
    have eM1 : upd (upd H M (.lst [.ref b])) p (.ins C dx (putF "met" (.ref M) [])) M = some (.lst [.ref b]) := by
      rw [upd_ne npM.symm]
      exact upd_same
    generalize upd (upd H M (.lst [.ref b])) p (.ins C dx (putF "met" (.ref M) [])) = H1 at t1 k1 ep1 eM1
    intro N hN
    have sN := same_new (o := NDO P w N []) hN
    have npN : p ≠ N := ne_of_none ep1 hN
    have nMN : M ≠ N := ne_of_none eM1 hN
    refine ⟨.ref b, rfl, b, key, rfl, keyn_stay (t1.trans (Same.tups sN)) hk, upd_same, ?_⟩
    rw [upd_upd]
    have sN2 := same_new (o := NDO P w N [(key, b, .int 0)]) hN
    refine ⟨.ref p, rfl, p, C, dx, _, rfl, sN2 _ _ ep1, T.cl, T.nN, (by show 1 < 1000; decide), ?_⟩
    have k2 : ∀ c o, c ≠ p → H1 c = some o → upd (upd H1 N (NDO P w N [(key, b, .int 0)])) p (.ins C dx (putF "numbers" (.ref N) (putF "met" (.ref M) []))) c = some o := fun c o n e => by
      rw [upd_ne n]
      exact sN2 _ _ e
    have t2 : TupsStay H1 (upd (upd H1 N (NDO P w N [(key, b, .int 0)])) p (.ins C dx (putF "numbers" (.ref N) (putF "met" (.ref M) [])))) := fun c xs e => k2 c _ (ne_of e ep1 (fun z => nomatch z)) e
    have ep2 : upd (upd H1 N (NDO P w N [(key, b, .int 0)])) p (.ins C dx (putF "numbers" (.ref N) (putF "met" (.ref M) []))) p = some (.ins C dx (putF "numbers" (.ref N) (putF "met" (.ref M) []))) := upd_same
    have eN2 : upd (upd H1 N (NDO P w N [(key, b, .int 0)])) p (.ins C dx (putF "numbers" (.ref N) (putF "met" (.ref M) []))) N = some (NDO P w N [(key, b, .int 0)]) := by
      rw [upd_ne npN.symm]
      exact upd_same
    generalize upd (upd H1 N (NDO P w N [(key, b, .int 0)])) p (.ins C dx (putF "numbers" (.ref N) (putF "met" (.ref M) []))) = H2 at k2 t2 ep2 eN2
    have eM2 := k2 _ _ npM.symm eM1
    refine ⟨by show 0 ≤ sizeLine; decide, fun E0 hE0 => ⟨by show 2 ≤ sizeLine; decide, fun T0 hT0 => ⟨by show 1 ≤ sizeLine; decide, fun W hW => ?_⟩⟩⟩
    have s1 := same_new (o := .tup []) hE0
    have s2 := same_new (o := .tup [.int 0, .ref E0]) hT0
    have s3 := same_new (o := .lst [.ref T0]) hW
    have s123 := (s1.trans s2).trans s3
    have npW : p ≠ W := ne_of_none ((s1.trans s2) _ _ ep2) hW
    have nMW : M ≠ W := ne_of_none ((s1.trans s2) _ _ eM2) hW
    have nNW : N ≠ W := ne_of_none ((s1.trans s2) _ _ eN2) hW
    refine ⟨.ref p, rfl, p, C, dx, _, rfl, s123 _ _ ep2, T.cl, T.nW, (by show 2 < 1000; decide), ?_⟩
    have k3 : ∀ c o, c ≠ p → H2 c = some o → upd (upd (upd (upd H2 E0 (.tup [])) T0 (.tup [.int 0, .ref E0])) W (.lst [.ref T0])) p (.ins C dx (putF "ways" (.ref W) (putF "numbers" (.ref N) (putF "met" (.ref M) [])))) c = some o := fun c o n e => by
      rw [upd_ne n]
      exact s123 _ _ e
    have t3 : TupsStay H2 (upd (upd (upd (upd H2 E0 (.tup [])) T0 (.tup [.int 0, .ref E0])) W (.lst [.ref T0])) p (.ins C dx (putF "ways" (.ref W) (putF "numbers" (.ref N) (putF "met" (.ref M) []))))) := fun c xs e => k3 c _ (ne_of e ep2 (fun z => nomatch z)) e
    have tA := (t1.trans t2).trans t3
    refine q _ M N W ⟨⟨dx, upd_same⟩, k3 _ _ npM.symm eM2, ⟨k3 _ _ npN.symm eN2, fun e he => ?_⟩, ⟨[T0], ?_, .cons ⟨E0, ?_, ?_⟩ .nil⟩, by simp, fun x hx => ?_, rfl, nMW⟩ hM ?_ ?_ fun c o n e => k3 c o n (k2 c o n (k1 c o n e))
    · rw [List.mem_singleton.mp he]
      exact ⟨nk_stay tA _ _ hk.1, hk.2.1⟩
    · rw [upd_ne npW.symm]
      exact upd_same
    · have : T0 ≠ p := fun z => by rw [z] at hT0; rw [s1 _ _ ep2] at hT0; cases hT0
      rw [upd_ne this]
      exact s3 _ _ upd_same
    · have : E0 ≠ p := fun z => by rw [z, ep2] at hE0; cases hE0
      rw [upd_ne this]
      exact s3 _ _ (s2 _ _ upd_same)
    · rw [List.mem_singleton.mp hx]
      exact keyn_stay tA hk
    · cases e : H N with
      | none => rfl
      | some o =>
        by_cases z : N = p
        · exact absurd z npN.symm
        · rw [k1 _ _ z e] at hN
          cases hN
    · cases e : H W with
      | none => rfl
      | some o =>
        by_cases z : W = p
        · exact absurd z npW.symm
        · rw [(s1.trans s2) _ _ (k2 _ _ z (k1 _ _ z e))] at hW
          cases hW
def spWm (P : Program) (w : World) (C : Addr) : Sp := fun vs H Q _ => ∃ (p M N W b bb : Addr) (ts : List WT) (wy : List (Int × List Int)) (k : NestedKey) (ah : Int) (bs : List Int), vs = [.ref p, .ref b, .int ah, .ref bb] ∧ WalkAt P w C H p M N W ts wy ∧ KeyN H (.ref b) k ∧ H bb = some (.tup (bs.map V.int)) ∧ ts.length ≤ 1000000 ∧
  ∀ H' ts' wy' i, WalkAt P w C H' p M N W ts' wy' → (∃ b', ts'[i]? = some (k, b')) → ((ts' = ts ∧ wy' = wy) ∨ (ts' = ts ++ [(k, b)] ∧ wy' = wy ++ [(ah, bs)] ∧ i = ts.length ∧ ∀ t ∈ ts, t.1 ≠ k)) → (∀ c o, c ≠ M → c ≠ N → c ≠ W → H c = some o → H' c = some o) → Q (.int (i : Nat)) H'
theorem ok_wm {f C : Addr} {fd : FuncData} {k : Nat} (F : Fun K "meet" "Walk.meet" sWalk_meet f fd) (T : WCls K mg C) (mn : mg "len" = none) : FnOk P w K mg base CX0 (k + 1) f fd ["self", "thing", "ahead", "bits"] (spWm P w C) := by
  refine F.ok scWm (fun vs H Q E h => ?_) (fun cdv A outer s H vs Q E hr h => ?_)
  · obtain ⟨p, M, N, W, b, bb, ts, wy, k, ah, bs, rfl, _⟩ := h
    rfl
  · obtain ⟨p, M, N, W, b, bb, ts, wy, key, ah, bs, rfl, hw, hk, hbb, hl, q⟩ := h
    refine ⟨_, pss_mid (ps_if (pt_cmp (pc_ndnotin (P := P) (w := w) rfl rfl hr.units (pv 1) (pe_fld (pv 0) rfl)))
        (pss_cons (ps_ndput (P := P) (w := w) rfl rfl hr.units (pe_fld (pv 0) rfl) (pv 1) (pe_callB call_len_seq (by rfl) mn PySem.boot_len (pa_cons (pe_fld (pv 0) rfl) pa_nil)) rfl)
        (pss_cons (ps_expr (pe_bm PySem.F.plainAttrs_list PySem.F.slot_list_append PySem.F.type_list_append mt_append (pe_fld (pv 0) rfl) (pa_cons (pv 1) pa_nil)))
        (pss_one (ps_expr (pe_bm PySem.F.plainAttrs_list PySem.F.slot_list_append PySem.F.type_list_append mt_append (pe_fld (pv 0) rfl) (pa_cons (pe_tup (pa_cons (pv 2) (pa_cons (pv 3) pa_nil))) pa_nil)))))) pss_nil)
      (pss_one (ps_ret (pe_ndget (P := P) (w := w) rfl rfl hr.units (pe_fld (pv 0) rfl) (pv 1) (fun _ _ => rfl)))), ?_⟩
    obtain ⟨⟨dx, ob⟩, met, num, ⟨ws, ways, wat⟩, nd, keys, len, nMW⟩ := id hw
    have npM : p ≠ M := ne_of ob met (fun z => nomatch z)
    have npN : p ≠ N := ne_of ob num.ob (fun z => nomatch z)
    have npW : p ≠ W := ne_of ob ways (fun z => nomatch z)
    have nMN : M ≠ N := ne_of met num.ob (fun z => nomatch z)
    have nNW : N ≠ W := ne_of num.ob ways (fun z => nomatch z)
    have sl : (1000000 : Nat) < sizeLine := by rw [sizeLine_eq]; decide
    refine ⟨fun σ2 H2 => ∃ ts' wy' i, σ2 = [some (.ref p), some (.ref b), some (.int ah), some (.ref bb)] ∧ WalkAt P w C H2 p M N W ts' wy' ∧ (∃ b', ts'[i]? = some (key, b')) ∧ ((ts' = ts ∧ wy' = wy) ∨ (ts' = ts ++ [(key, b)] ∧ wy' = wy ++ [(ah, bs)] ∧ i = ts.length ∧ ∀ t ∈ ts, t.1 ≠ key)) ∧ (∀ c o, c ≠ M → c ≠ N → c ≠ W → H c = some o → H2 c = some o), ?_, ?_⟩
    · refine ⟨.ref b, rfl, .ref p, rfl, p, C, dx, _, _, rfl, ob, T.cl, T.nN, wF_num _ _ _, N, _, key, rfl, num, hk, _, rfl, ?_⟩
      cases e : getN (numE ts) key with
      | some v =>
        refine iteF ?_
        obtain ⟨c, hc⟩ := getN_some e
        obtain ⟨i, t, ht, he⟩ := numE_mem hc
        have e1 : t.1 = key := (Prod.mk.inj he).1.symm
        exact ⟨ts, wy, i, rfl, hw, ⟨t.2, by rw [ht, ← e1]⟩, .inl ⟨rfl, rfl⟩, fun c o _ _ _ z => z⟩
      | none =>
        refine iteT ?_
        have fresh : ∀ t ∈ ts, t.1 ≠ key := fun t ht z => by
          obtain ⟨i, hi⟩ := List.mem_iff_getElem?.mp ht
          have : ts[i]? = some (key, t.2) := by rw [hi, ← z]
          rw [numE_some nd this] at e
          cases e
        have nl : (numE ts).length < sizeLine := by rw [numE_len]; omega
        refine ⟨.ref p, rfl, p, C, dx, _, _, rfl, ob, T.cl, T.nM, wF_met _ _ _, M, _, rfl, .inl (.inl (.inl met)), .ref p, rfl, p, C, dx, _, _, rfl, ob, T.cl, T.nN, wF_num _ _ _, .ref b, rfl, N, _, key, b, rfl, num, rfl, hk, e, nl, ?_⟩
        have ml : ((ts.map fun t => V.ref t.2).length : Int) = ((ts.length : Nat) : Int) := by rw [List.length_map]
        rw [ml]
        have num1 := nd_put (v := .int ((ts.length : Nat) : Int)) num hk
        rw [← numE_snoc ts (key, b)] at num1 ⊢
        have k1 : ∀ c o, c ≠ N → H c = some o → upd H N (NDO P w N (numE (ts ++ [(key, b)]))) c = some o := fun c o n z => by
          rw [upd_ne n]
          exact z
        have t1 : TupsStay H (upd H N (NDO P w N (numE (ts ++ [(key, b)])))) := fun c xs z => k1 c _ (ne_of z num.ob (fun y => nomatch y)) z
        generalize upd H N (NDO P w N (numE (ts ++ [(key, b)]))) = H1 at num1 k1 t1
        have ob1 := k1 _ _ npN ob
        have met1 := k1 _ _ nMN met
        refine ⟨.ref p, rfl, p, C, dx, _, _, rfl, ob1, T.cl, T.nM, wF_met _ _ _, .inl ⟨rfl, _, .inl (.inl met1)⟩, .ref b, rfl, M, _, _, rfl, rfl, met1, ?_, ?_⟩
        · rw [List.length_map]
          omega
        have e2 : (ts.map fun t => V.ref t.2) ++ [V.ref b] = (ts ++ [(key, b)]).map fun t => V.ref t.2 := by rw [List.map_append]; rfl
        rw [e2]
        have k2 : ∀ c o, c ≠ M → H1 c = some o → upd H1 M (.lst ((ts ++ [(key, b)]).map fun t => V.ref t.2)) c = some o := fun c o n z => by
          rw [upd_ne n]
          exact z
        have t2 : TupsStay H1 (upd H1 M (.lst ((ts ++ [(key, b)]).map fun t => V.ref t.2))) := fun c xs z => k2 c _ (ne_of z met1 (fun y => nomatch y)) z
        have met2 : upd H1 M (.lst ((ts ++ [(key, b)]).map fun t => V.ref t.2)) M = some (.lst ((ts ++ [(key, b)]).map fun t => V.ref t.2)) := upd_same
        generalize upd H1 M (.lst ((ts ++ [(key, b)]).map fun t => V.ref t.2)) = H2 at k2 t2 met2
        have ob2 := k2 _ _ npM ob1
        have ways2 := k2 _ _ nMW.symm (k1 _ _ nNW.symm ways)
        refine ⟨.ref p, rfl, p, C, dx, _, _, rfl, ob2, T.cl, T.nW, wF_ways _ _ _, .inl ⟨rfl, _, .inl (.inl ways2)⟩, .int ah, rfl, .ref bb, rfl, by show 2 ≤ sizeLine; decide, fun U hU => ?_⟩
        have sU := same_new (o := .tup [.int ah, .ref bb]) hU
        have wl := awLen wat
        refine ⟨W, _, _, rfl, rfl, sU _ _ ways2, ?_, ?_⟩
        · rw [List.length_map]
          omega
        have e3 : ws.map V.ref ++ [V.ref U] = (ws ++ [U]).map V.ref := by rw [List.map_append]; rfl
        rw [e3]
        have k3 : ∀ c o, c ≠ W → H2 c = some o → upd (upd H2 U (.tup [.int ah, .ref bb])) W (.lst ((ws ++ [U]).map V.ref)) c = some o := fun c o n z => by
          rw [upd_ne n]
          exact sU _ _ z
        have t3 : TupsStay H2 (upd (upd H2 U (.tup [.int ah, .ref bb])) W (.lst ((ws ++ [U]).map V.ref))) := fun c xs z => k3 c _ (ne_of z ways2 (fun y => nomatch y)) z
        have tA := (t1.trans t2).trans t3
        have nUW : U ≠ W := fun z => by rw [z, ways2] at hU; cases hU
        have eU3 : upd (upd H2 U (.tup [.int ah, .ref bb])) W (.lst ((ws ++ [U]).map V.ref)) U = some (.tup [.int ah, .ref bb]) := by
          rw [upd_ne nUW]
          exact upd_same
        have eW3 : upd (upd H2 U (.tup [.int ah, .ref bb])) W (.lst ((ws ++ [U]).map V.ref)) W = some (.lst ((ws ++ [U]).map V.ref)) := upd_same
        generalize upd (upd H2 U (.tup [.int ah, .ref bb])) W (.lst ((ws ++ [U]).map V.ref)) = H3 at k3 t3 tA eU3 eW3
        refine ⟨ts ++ [(key, b)], wy ++ [(ah, bs)], ts.length, rfl, ⟨⟨dx, k3 _ _ npW ob2⟩, k3 _ _ nMW met2, nd_stay num1 (k3 _ _ nNW (k2 _ _ nMN.symm num1.ob)) (t2.trans t3), ⟨ws ++ [U], eW3, ?_⟩, ?_, fun x hx => ?_, ?_, nMW⟩, ⟨b, ?_⟩, .inr ⟨rfl, rfl, rfl, fresh⟩, fun c o n1 n2 n3 z => k3 _ _ n3 (k2 _ _ n1 (k1 _ _ n2 z))⟩
        · exact awSnoc (F := fun (q : Addr) (e : Int × List Int) => ∃ bb, H3 q = some (.tup [.int e.1, .ref bb]) ∧ H3 bb = some (.tup (e.2.map V.int))) ⟨bb, eU3, tA _ _ hbb⟩ (awMap (fun q e z => z.elim fun bb y => ⟨bb, tA _ _ y.1, tA _ _ y.2⟩) wat)
        · rw [List.map_append, List.nodup_append]
          refine ⟨nd, by simp, fun x hx y hy => ?_⟩
          obtain ⟨t, ht, rfl⟩ := List.mem_map.mp hx
          rw [List.mem_singleton.mp hy]
          exact fresh t ht
        · rcases List.mem_append.mp hx with hx | hx
          · exact keyn_stay tA (keys x hx)
          · rw [List.mem_singleton.mp hx]
            exact keyn_stay tA hk
        · rw [List.length_append, List.length_append, len]
          rfl
        · rw [List.getElem?_append_right (Nat.le_refl _), Nat.sub_self]
          rfl
    · rintro σ2 H2 ⟨ts', wy', i, rfl, hw2, ⟨b', hb'⟩, hcase, kp⟩
      obtain ⟨⟨dx2, ob2⟩, _, num2, _, nd2, _⟩ := id hw2
      have tS : TupsStay H H2 := fun c xs z => kp c _ (ne_of z met (fun y => nomatch y)) (ne_of z num.ob (fun y => nomatch y)) (ne_of z ways (fun y => nomatch y)) z
      exact ⟨.ref p, rfl, p, C, dx2, _, _, rfl, ob2, T.cl, T.nN, wF_num _ _ _, .ref b, rfl, N, _, key, .int (i : Nat), rfl, num2, keyn_stay tS hk, numE_some nd2 hb', q H2 ts' wy' i hw2 ⟨b', hb'⟩ hcase kp⟩
section lz
variable {A : Around} {E : Value → Shared → Prop} {s : Shared}
abbrev IsZ (h : Heap) (z TI TO : Addr) (f0 : Value) (b : Bool) : Prop := h.get? z = some { cls := .type "zip", dict := none, data := .fields #[f0, .bool b, .bool false, .ref TI, .ref TO], slots := #[] }
theorem z_free {z TI TO T : Addr} {f : Bool} {oT : Obj} {Q : Bool → Shared → Prop} (hz : IsZ s.heap z TI TO (rawInt T) f) (hT : s.heap.get? T = some oT) (q : ∀ h', IsZ h' z TI TO (rawInt T) true → Heap.SameBut z s.heap h' → Q false { s with heap := h' }) :
    wpAny (model P w) A (Builtin.SmallTypes.ownedTupleIsFree (.ref z)) Q E s := by
  unfold Builtin.SmallTypes.ownedTupleIsFree
  apply wpAny_bind
  refine wpAny_field hz rfl (x := rawInt T) rfl ?_
  show wpAny _ _ (loadIfAlive ((T : Int).toNat) >>= _) _ _ _
  rw [Int.toNat_natCast]
  apply wpAny_bind
  refine PySem.W.kdx_alive hT ?_
  simp only [Option.isNone_some, Bool.false_eq_true, if_false]
  apply wpAny_bind
  refine wpAny_field hz rfl (x := .bool f) rfl ?_
  cases f with
  | true =>
    rw [if_neg (show ¬ ((Value.bool true != Value.bool true) = true) from Bool.false_ne_true)]
    exact wpAny_pure (q s.heap hz (Heap.SameBut.refl _ _))
  | false =>
    rw [if_pos (show (Value.bool false != Value.bool true) = true from rfl)]
    apply wpAny_bind
    exact wpAny_setField_rec hz (by simp) fun h' hz' hs' => wpAny_pure (q h' hz' hs')
theorem z_next_out {z TI TO i1 i2 l1 l2 T : Addr} {k1 k2 : Nat} {xs ys : Array Value} {x y : Value} {f : Bool} {oT : Obj} {Q : Value → Shared → Prop} (D : ZipApart z TI TO i1 i2 l1 l2) (hz : IsZ s.heap z TI TO (rawInt T) f) (hT : s.heap.get? T = some oT)
    (hTI : IsPair s.heap TI (.ref i1) (.ref i2)) (h1 : s.heap.IsListIter i1 l1 k1) (h2 : s.heap.IsListIter i2 l2 k2) (hl1 : s.heap.IsList l1 xs) (hl2 : s.heap.IsList l2 ys) (hx : xs[k1]? = some x) (hy : ys[k2]? = some y)
    (q : ∀ h', IsZ h' z TI TO (rawInt T) true → h'.IsListIter i1 l1 (k1 + 1) → h'.IsListIter i2 l2 (k2 + 1) → IsPair h' s.heap.objs.size x y → h'.objs.size = s.heap.objs.size + 1 → (∀ c o, c ≠ z → c ≠ i1 → c ≠ i2 → s.heap.get? c = some o → h'.get? c = some o) → Q (.ref s.heap.objs.size) { s with heap := h' }) :
    wpAny (model P w) A (Builtin.«zip.__next__» ⟨[.ref z], []⟩) (fun fin s' => ∃ v, fin = .done (.ret v) ∧ Q v s') E s := by
  show wpAny _ _ (field (.ref z) 2 >>= _) _ _ _
  apply wpAny_bind
  refine wpAny_field hz rfl (x := .bool false) rfl ?_
  show wpAny _ _ (field (.ref z) 3 >>= _) _ _ _
  apply wpAny_bind
  refine wpAny_field hz rfl (x := .ref TI) rfl ?_
  apply wpAny_bind
  refine wpAny_seqItems hTI rfl ?_
  show wpAny _ _ (Builtin.SmallTypes.ownedTupleIsFree (.ref z) >>= _) _ _ _
  apply wpAny_bind
  refine z_free hz hT fun h₁ hz₁ hs₁ => ?_
  simp only [Bool.false_eq_true, if_false]
  apply wpAny_bind
  simp only [← Array.forIn_toList, List.forIn_cons, List.forIn_nil]
  apply wpAny_bind
  apply wpAny_bind
  apply wpAny_holding
  show wpAny _ _ (Builtin.SmallTypes.nextOf (.ref i1) >>= _) _ _ _
  apply wpAny_bind
  refine wpAny_nextOf_list_item (h1.extBut hs₁.extBut D.i1z) (hl1.extBut hs₁.extBut D.l1z) hx fun h₂ h1₂ hs₂ => wpAny_pure ?_
  refine wpAny_pure ?_
  apply wpAny_bind
  apply wpAny_bind
  apply wpAny_holding
  show wpAny _ _ (Builtin.SmallTypes.nextOf (.ref i2) >>= _) _ _ _
  apply wpAny_bind
  refine wpAny_nextOf_list_item ((h2.extBut hs₁.extBut D.i2z).extBut hs₂.extBut D.i12.symm) ((hl2.extBut hs₁.extBut D.l2z).extBut hs₂.extBut D.l2i1) hy fun h₃ h2₃ hs₃ => wpAny_pure ?_
  refine wpAny_pure (wpAny_pure ?_)
  have hsz : h₃.objs.size = s.heap.objs.size := by rw [hs₃.1, hs₂.1, hs₁.1]
  apply wpAny_bind
  refine wpAny_newTuple ?_ (by show 2 ≤ sizeLine; decide)
  have z3 : IsZ h₃ z TI TO (rawInt T) true := hs₃.extBut _ _ D.i2z.symm (hs₂.extBut _ _ D.i1z.symm hz₁)
  refine wpAny_pure ⟨_, rfl, ?_⟩
  show Q (.ref h₃.objs.size) _
  rw [hsz]
  refine q _ (Heap.get?_push_of_some _ z3) ((h1₂.extBut hs₃.extBut D.i12).at fun o e => Heap.get?_push_of_some _ e) (h2₃.at fun o e => Heap.get?_push_of_some _ e) ?_ ?_ fun c o c1 c2 c3 e => Heap.get?_push_of_some _ (hs₃.extBut _ _ c3 (hs₂.extBut _ _ c2 (hs₁.extBut _ _ c1 e)))
  · rw [← hsz]
    exact Heap.get?_push_size _ rfl
  · rw [Heap.size_push, hsz]
theorem z_pyNext_out {z TI TO i1 i2 l1 l2 T : Addr} {k1 k2 : Nat} {xs ys : Array Value} {x y : Value} {f : Bool} {oT : Obj} {Q : Option Value → Shared → Prop} (D : ZipApart z TI TO i1 i2 l1 l2) (hz : IsZ s.heap z TI TO (rawInt T) f) (hT : s.heap.get? T = some oT)
    (hTI : IsPair s.heap TI (.ref i1) (.ref i2)) (h1 : s.heap.IsListIter i1 l1 k1) (h2 : s.heap.IsListIter i2 l2 k2) (hl1 : s.heap.IsList l1 xs) (hl2 : s.heap.IsList l2 ys) (hx : xs[k1]? = some x) (hy : ys[k2]? = some y)
    (q : ∀ h', IsZ h' z TI TO (rawInt T) true → h'.IsListIter i1 l1 (k1 + 1) → h'.IsListIter i2 l2 (k2 + 1) → IsPair h' s.heap.objs.size x y → h'.objs.size = s.heap.objs.size + 1 → (∀ c o, c ≠ z → c ≠ i1 → c ≠ i2 → s.heap.get? c = some o → h'.get? c = some o) → Q (some (.ref s.heap.objs.size)) { s with heap := h' }) :
    wpAny (model P w) A (pyNext (.ref z)) Q E s := by
  have ty : s.TypeIs (.ref z) "zip" := ⟨_, hz, rfl⟩
  unfold pyNext
  apply wpAny_bind
  apply wpAny_attempt
  refine wpAny_callSpecial?_slot (name := Str.ofString "__next__") ty F.slot_zip_next ?_
  refine wpAny_call_entry F.slot_zip_next ty F.entry_zip_next ?_ (F.args_zip_next_1 _)
  exact z_next_out D hz hT hTI h1 h2 hl1 hl2 hx hy fun h' a1 a2 a3 a4 a5 a6 => wpAny_pure (q h' a1 a2 a3 a4 a5 a6)
theorem z_end_out {z TI TO i1 i2 l1 l2 T : Addr} {k1 : Nat} {xs : Array Value} {f : Bool} {oT : Obj} {Q : Option Value → Shared → Prop} (hh : A.handled = none) (D : ZipApart z TI TO i1 i2 l1 l2) (hz : IsZ s.heap z TI TO (rawInt T) f) (hT : s.heap.get? T = some oT)
    (hTI : IsPair s.heap TI (.ref i1) (.ref i2)) (h1 : s.heap.IsListIter i1 l1 k1) (hl1 : s.heap.IsList l1 xs) (hx : xs[k1]? = none)
    (q : ∀ h', (∀ c o, c ≠ z → c ≠ i1 → s.heap.get? c = some o → h'.get? c = some o) → Q none { s with heap := h' }) :
    wpAny (model P w) A (pyNext (.ref z)) Q E s := by
  have ty : s.TypeIs (.ref z) "zip" := ⟨_, hz, rfl⟩
  unfold pyNext
  apply wpAny_bind
  apply wpAny_attempt
  refine wpAny_callSpecial?_slot (name := Str.ofString "__next__") ty F.slot_zip_next ?_
  refine wpAny_call_entry F.slot_zip_next ty F.entry_zip_next ?_ (F.args_zip_next_1 _)
  show wpAny _ _ (field (.ref z) 2 >>= _) _ _ _
  apply wpAny_bind
  refine wpAny_field hz rfl (x := .bool false) rfl ?_
  show wpAny _ _ (field (.ref z) 3 >>= _) _ _ _
  apply wpAny_bind
  refine wpAny_field hz rfl (x := .ref TI) rfl ?_
  apply wpAny_bind
  refine wpAny_seqItems hTI rfl ?_
  show wpAny _ _ (Builtin.SmallTypes.ownedTupleIsFree (.ref z) >>= _) _ _ _
  apply wpAny_bind
  refine z_free hz hT fun h₁ hz₁ hs₁ => ?_
  simp only [Bool.false_eq_true, if_false]
  apply wpAny_bind
  simp only [← Array.forIn_toList, List.forIn_cons, List.forIn_nil]
  apply wpAny_bind
  apply wpAny_bind
  apply wpAny_holding
  show wpAny _ _ (Builtin.SmallTypes.nextOf (.ref i1) >>= _) _ _ _
  apply wpAny_bind
  refine wpAny_nextOf_list_end hh (h1.extBut hs₁.extBut D.i1z) (hl1.extBut hs₁.extBut D.l1z) hx fun h₂ e hs₂ he => ?_
  obtain ⟨o, ho, hc⟩ := he
  apply wpAny_bind
  refine wpAny_isInstance (T := "StopIteration") (b := true) ⟨o, ho, hc⟩ isSubtype_stop ?_
  exact wpAny_pure (q h₂ fun c o c1 c2 e => hs₂ c o c2 (hs₁.extBut c o c1 e))
/-- the pairs that were made -/
structure MadeZ (xs ys : Array Value) (lo : Addr) (h : Heap) (as : List Addr) : Prop where
  rise : as.Pairwise (· < ·)
  above : ∀ a ∈ as, lo < a
  pairs : ∀ (j : Nat) a, as[j]? = some a → ∃ x y, xs[j]? = some x ∧ ys[j]? = some y ∧ IsPair h a x y
/-- where the zip stands -/
def ZAt (h : Heap) (z TI TO i1 i2 : Addr) (l1 l2 : Addr) (i : Nat) (as : List Addr) : Prop := IsPair h TI (.ref i1) (.ref i2) ∧ (∃ a b, IsPair h TO a b) ∧ h.IsListIter i1 l1 i ∧ h.IsListIter i2 l2 i ∧
  ((i = 0 ∧ IsZ h z TI TO .none false) ∨ ∃ T f, T ∈ as ∧ IsZ h z TI TO (rawInt T) f)
theorem z_loop {S z TI TO i1 i2 l1 l2 : Addr} {xs ys : Array Value} (hh : A.handled = none) (D : ZipApart z TI TO i1 i2 l1 l2) (hxy : xs.size = ys.size) (hSz : S ≠ z) (hSI : S ≠ TI) (hSO : S ≠ TO) (hS1 : S ≠ i1) (hS2 : S ≠ i2) (hSa : S ≠ l1) (hSb : S ≠ l2)
    (lo : Addr) (hlo : z ≤ lo ∧ TI ≤ lo ∧ TO ≤ lo ∧ i1 ≤ lo ∧ i2 ≤ lo ∧ S ≤ lo) (hn : xs.size ≤ sizeLine) (res : Value) {h₁ : Heap} {R : Result → Shared → Prop}
    (hR : ∀ h' tk acc c as, (∀ b o, b ≠ S → b ≠ z → b ≠ TO → b ≠ i1 → b ≠ i2 → h₁.get? b = some o → h'.get? b = some o) → h'.get? S = some { cls := .type "list", dict := none, data := .seq acc c, slots := #[] } → as.length = xs.size → MadeZ xs ys lo h' as →
      acc.toList = as.map Value.ref → R (.ok (.ret res)) { s with heap := h', toks := tk }) :
    ∀ (k i : Nat) (h : Heap) (tk c : Nat) (acc : Array Value) (as : List Addr), xs.size - i = k → i ≤ xs.size → ZAt h z TI TO i1 i2 l1 l2 i as → h.IsList l1 xs → h.IsList l2 ys → (∀ b o, b ≠ S → b ≠ z → b ≠ TO → b ≠ i1 → b ≠ i2 → h₁.get? b = some o → h.get? b = some o) →
      h.get? S = some { cls := .type "list", dict := none, data := .seq acc c, slots := #[] } → acc.toList = as.map Value.ref → as.length = i → MadeZ xs ys lo h as → lo < h.objs.size →
      codeAny (model P w) A (.builtin "list.extend.loop" ⟨[.ref S, .ref z, res], []⟩) R { s with heap := h, toks := tk } := by
  have far : ∀ u : Addr, lo < u → u ≠ z ∧ u ≠ TO ∧ u ≠ i1 ∧ u ≠ i2 ∧ u ≠ S := fun u hu => ⟨Nat.ne_of_gt (Nat.lt_of_le_of_lt hlo.1 hu), Nat.ne_of_gt (Nat.lt_of_le_of_lt hlo.2.2.1 hu), Nat.ne_of_gt (Nat.lt_of_le_of_lt hlo.2.2.2.1 hu), Nat.ne_of_gt (Nat.lt_of_le_of_lt hlo.2.2.2.2.1 hu), Nat.ne_of_gt (Nat.lt_of_le_of_lt hlo.2.2.2.2.2 hu)⟩
  intro k
  induction k with
  | zero =>
    intro i h tk c acc as hk hi hz hl1 hl2 keep hS hacc hal hG hls
    obtain ⟨hTI, ⟨a, b, hTO⟩, g1, g2, st⟩ := hz
    have xe : xs[i]? = none := Array.getElem?_eq_none (by omega)
    have fin : ∀ h', (∀ c o, c ≠ z → c ≠ TO → c ≠ i1 → c ≠ i2 → h.get? c = some o → h'.get? c = some o) → R (.ok (.ret res)) { s with heap := h', toks := tk } := fun h' kp => by
      refine hR h' tk acc c as (fun b o n1 n2 n3 n4 n5 e => kp b o n2 n3 n4 n5 (keep b o n1 n2 n3 n4 n5 e)) (kp S _ hSz hSO hS1 hS2 hS) (by omega) ⟨hG.rise, hG.above, fun j a hj => ?_⟩ hacc
      obtain ⟨x, y, e1, e2, e3⟩ := hG.pairs j a hj
      obtain ⟨f1, f2, f3, f4, _⟩ := far a (hG.above a (List.mem_of_getElem? hj))
      exact ⟨x, y, e1, e2, kp a _ f1 f2 f3 f4 e3⟩
    refine codeAny_builtin F.entry_extend_loop ?_
    rw [Around.under_plainId F.plain_extend_loop _]
    show wpAny _ A.in1 (pyNext (.ref z) >>= _) _ _ _
    apply wpAny_bind
    rcases st with ⟨rfl, hz0⟩ | ⟨T, f, hT, hz1⟩
    · exact wpAny_pyNext_zip_end (s := { s with heap := h, toks := tk }) (A := A.in1) hh D hz0 hTI hTO g1 g2 hl1 hl2 (.inl xe) fun h' kp => wpAny_pure (fin h' kp)
    · obtain ⟨j, hj⟩ := List.mem_iff_getElem?.mp hT
      obtain ⟨x, y, _, _, e3⟩ := hG.pairs j T hj
      exact z_end_out (s := { s with heap := h, toks := tk }) (A := A.in1) hh D hz1 e3 hTI g1 hl1 xe fun h' kp => wpAny_pure (fin h' fun c o n1 _ n3 _ e => kp c o n1 n3 e)
  | succ k ih =>
    intro i h tk c acc as hk hi hz hl1 hl2 keep hS hacc hal hG hls
    obtain ⟨hTI, ⟨a, b, hTO⟩, g1, g2, st⟩ := hz
    have hlt : i < xs.size := by omega
    have hx := Array.getElem?_eq_getElem hlt
    have hy := Array.getElem?_eq_getElem (show i < ys.size by omega)
    have hsz : acc.size = i := by rw [← Array.length_toList, hacc, List.length_map, hal]
    have hSl : S < h.objs.size := Heap.lt_size hS
    refine codeAny_builtin F.entry_extend_loop ?_
    rw [Around.under_plainId F.plain_extend_loop _]
    show wpAny _ A.in1 (pyNext (.ref z) >>= _) _ _ _
    apply wpAny_bind
    -- one more pair
    have more : ∀ (h' : Heap) (f : Bool) (T : Addr), T ∈ as ++ [h.objs.size] → IsZ h' z TI TO (rawInt T) f → (∃ a b, IsPair h' TO a b) → h'.IsListIter i1 l1 (i + 1) → h'.IsListIter i2 l2 (i + 1) → IsPair h' h.objs.size xs[i] (ys[i]'(by omega)) → h'.objs.size = h.objs.size + 1 →
        (∀ c o, c ≠ z → c ≠ TO → c ≠ i1 → c ≠ i2 → h.get? c = some o → h'.get? c = some o) →
        wpAny (model P w) A.in1 (updateSeq S (·.push (Value.ref h.objs.size)) >>= fun _ => again (.builtin "list.extend.loop" ⟨[.ref S, .ref z, res], []⟩)) (fun fin s' => match fin with | .done f => R (.ok f) s' | .again c' => c'.quiet = true ∧ codeAny (model P w) A c' R s') (fun e s' => R (.error e) s') { s with heap := h', toks := tk } := by
      intro h' f T hT hz' hTO' g1' g2' hp hsz' kp
      have hS' := kp S _ hSz hSO hS1 hS2 hS
      have up : ∀ b o, b ≠ S → h'.get? b = some o → (h'.update S (Obj.mapSeq (·.push (Value.ref h.objs.size)))).get? b = some o := fun b o hb e => (Heap.get?_update_other _ _ (Ne.symm hb)).trans e
      apply wpAny_bind
      refine wpAny_updateSeq hS' rfl (wpAny_pure ⟨plainId_quiet F.plain_extend_loop _, ?_⟩) (by rw [hsz]; omega) (by show (acc.push (Value.ref h.objs.size)).size ≤ sizeLine + 1; rw [Array.size_push, hsz]; omega)
      refine ih (i + 1) _ tk _ (acc.push (Value.ref h.objs.size)) (as ++ [h.objs.size]) (by omega) hlt ?_ ?_ ?_ (fun b o n1 n2 n3 n4 n5 e => up b o n1 (kp b o n2 n3 n4 n5 (keep b o n1 n2 n3 n4 n5 e))) (Heap.get?_update_self _ hS' rfl) (by rw [Array.toList_push, hacc, List.map_append]; rfl) (by rw [List.length_append, hal]; rfl) ⟨?_, ?_, ?_⟩ ?_
      · obtain ⟨p, q, hpq⟩ := hTO'
        exact ⟨up _ _ hSI.symm (kp _ _ D.TIz D.TITO D.TIi1 D.TIi2 hTI), ⟨p, q, up _ _ hSO.symm hpq⟩, g1'.at fun o e => up _ o hS1.symm e, g2'.at fun o e => up _ o hS2.symm e, .inr ⟨T, f, hT, up _ _ hSz.symm hz'⟩⟩
      · exact hl1.at fun o e => up _ o hSa.symm (kp _ o D.l1z D.l1TO D.l1i1 D.l1i2 e)
      · exact hl2.at fun o e => up _ o hSb.symm (kp _ o D.l2z D.l2TO D.l2i1 D.l2i2 e)
      · refine List.pairwise_append.mpr ⟨hG.rise, List.pairwise_singleton _ _, fun u hu v hv => ?_⟩
        rw [List.mem_singleton.mp hv]
        obtain ⟨j, hj⟩ := List.mem_iff_getElem?.mp hu
        obtain ⟨_, _, _, _, e3⟩ := hG.pairs j u hj
        exact Heap.lt_size e3
      · intro u hu
        rcases List.mem_append.mp hu with hu | hu
        · exact hG.above u hu
        · rw [List.mem_singleton.mp hu]
          exact hls
      · intro j u hj
        by_cases hjl : j < as.length
        · rw [List.getElem?_append_left hjl] at hj
          obtain ⟨x, y, e1, e2, e3⟩ := hG.pairs j u hj
          obtain ⟨f1, f2, f3, f4, f5⟩ := far u (hG.above u (List.mem_of_getElem? hj))
          exact ⟨x, y, e1, e2, up u _ f5 (kp u _ f1 f2 f3 f4 e3)⟩
        · rw [List.getElem?_append_right (by omega)] at hj
          have hj2 := (List.getElem?_eq_some_iff.mp hj).1
          have ej : j = as.length := by
            simp only [List.length_cons, List.length_nil] at hj2
            omega
          subst ej
          rw [Nat.sub_self] at hj
          obtain rfl := Option.some.inj hj
          subst hal
          exact ⟨_, _, hx, hy, up _ _ (Nat.ne_of_gt hSl) hp⟩
      · have e := up _ _ (Nat.ne_of_gt hSl) hp
        exact Nat.lt_trans hls (Heap.lt_size e)
    rcases st with ⟨rfl, hz0⟩ | ⟨T, f, hT, hz1⟩
    · refine wpAny_pyNext_zip_item (s := { s with heap := h, toks := tk }) (A := A.in1) D hz0 hTI hTO g1 g2 hl1 hl2 hx hy fun h' b1 b2 b3 b4 b5 b6 b7 => ?_
      exact more h' false h.objs.size (List.mem_append_right _ List.mem_cons_self) b1 ⟨_, _, b2⟩ b3 b4 b5 b6 b7
    · obtain ⟨j, hj⟩ := List.mem_iff_getElem?.mp hT
      obtain ⟨x, y, _, _, e3⟩ := hG.pairs j T hj
      refine z_pyNext_out (s := { s with heap := h, toks := tk }) (A := A.in1) D hz1 e3 hTI g1 g2 hl1 hl2 hx hy fun h' b1 b2 b3 b4 b5 b6 => ?_
      exact more h' true T (List.mem_append_left _ hT) b1 ⟨_, _, b6 _ _ D.TOz D.TOi1 D.TOi2 hTO⟩ b2 b3 b4 b5 fun c o n1 _ n3 n4 e => b6 c o n1 n3 n4 e
theorem z_nolen : typeLookup (.type "zip") "__len__" = pure none := by
  rw [typeLookup_type, builtinLookup_eq_fast]
  kernel_rfl
theorem z_nohint : typeLookup (.type "zip") "__length_hint__" = pure none := by
  rw [typeLookup_type, builtinLookup_eq_fast]
  kernel_rfl
theorem z_hint {z : Addr} {Q : Bool → Shared → Prop} (hT : s.TypeIs (.ref z) "zip") (q : Q true s) : wpAny (model P w) A (Builtin.List.listLengthHint (.ref z)) Q E s := by
  unfold Builtin.List.listLengthHint
  apply wpAny_bind
  refine wpAny_specialOf hT z_nolen ?_
  refine wpAny_ite_split (fun h => absurd h (by decide)) (fun _ => ?_)
  refine wpAny_ite_split (fun h => absurd h (by decide)) (fun _ => ?_)
  apply wpAny_bind
  refine wpAny_specialOf hT z_nohint ?_
  exact wpAny_pure q
theorem z_extend {S z TI TO i1 i2 l1 l2 : Addr} {xs ys : Array Value} (hh : A.handled = none) (D : ZipApart z TI TO i1 i2 l1 l2) (hxy : xs.size = ys.size) (hSz : S ≠ z) (hSI : S ≠ TI) (hSO : S ≠ TO) (hS1 : S ≠ i1) (hS2 : S ≠ i2) (hSa : S ≠ l1) (hSb : S ≠ l2)
    (lo : Addr) (hlo : z ≤ lo ∧ TI ≤ lo ∧ TO ≤ lo ∧ i1 ≤ lo ∧ i2 ≤ lo ∧ S ≤ lo) (hls : lo < s.heap.objs.size) (hn : xs.size ≤ sizeLine) (res : Value) {R : Result → Shared → Prop} {c₀ : Nat}
    (hz : ZAt s.heap z TI TO i1 i2 l1 l2 0 []) (hz0 : IsZ s.heap z TI TO .none false) (hl1 : s.heap.IsList l1 xs) (hl2 : s.heap.IsList l2 ys) (hS : s.heap.get? S = some { cls := .type "list", data := .seq #[] c₀ })
    (hR : ∀ h' tk acc c as, (∀ b o, b ≠ S → b ≠ z → b ≠ TO → b ≠ i1 → b ≠ i2 → s.heap.get? b = some o → h'.get? b = some o) → h'.get? S = some { cls := .type "list", dict := none, data := .seq acc c, slots := #[] } → as.length = xs.size → MadeZ xs ys lo h' as →
      acc.toList = as.map Value.ref → R (.ok (.ret res)) { s with heap := h', toks := tk }) :
    wpAny (model P w) A.in1 (Builtin.List.listExtendWith (.ref S) (.ref z) res)
      (fun fin s' => match fin with | .done f => R (.ok f) s' | .again c' => c'.quiet = true ∧ codeAny (model P w) A c' R s') (fun e s' => R (.error e) s') s := by
  have ty : s.TypeIs (.ref z) "zip" := ⟨_, hz0, rfl⟩
  have go : ∀ (h : Heap) (c₁ tk : Nat), (∀ b o, b ≠ S → s.heap.get? b = some o → h.get? b = some o) → lo < h.objs.size → h.get? S = some { cls := .type "list", data := .seq #[] c₁ } →
      codeAny (model P w) A (.builtin "list.extend.loop" ⟨[.ref S, .ref z, res], []⟩) R { s with heap := h, toks := tk } := by
    intro h c₁ tk kp hl hS₁
    obtain ⟨hTI, ⟨a, b, hTO⟩, g1, g2, _⟩ := hz
    refine z_loop (s := s) (h₁ := s.heap) hh D hxy hSz hSI hSO hS1 hS2 hSa hSb lo hlo hn res hR xs.size 0 h tk c₁ #[] [] (Nat.sub_zero _) (Nat.zero_le _) ?_ (hl1.at fun o e => kp _ o hSa.symm e) (hl2.at fun o e => kp _ o hSb.symm e) (fun b o n1 _ _ _ _ e => kp b o n1 e) hS₁ rfl rfl ⟨List.Pairwise.nil, (fun _ z => nomatch z), (fun j a hj => by simp at hj)⟩ hl
    exact ⟨kp _ _ hSI.symm hTI, ⟨a, b, kp _ _ hSO.symm hTO⟩, g1.at fun o e => kp _ o hS1.symm e, g2.at fun o e => kp _ o hS2.symm e, .inl ⟨rfl, kp _ _ hSz.symm hz0⟩⟩
  unfold Builtin.List.listExtendWith
  apply wpAny_bind
  refine wpAny_typeOf (T := "zip") ty ?_
  have e1 : Builtin.List.listSameRef (.ref S) (.ref z) = false := by simp [Builtin.List.listSameRef, hSz]
  have e2 : (Value.type "zip" == Value.type "list") = false := by decide
  have e3 : (Value.type "zip" == Value.type "tuple") = false := by decide
  simp only [e1, e2, e3, Bool.or_false, Bool.false_eq_true, if_false]
  apply wpAny_bind
  refine wpAny_pyIter_slot ty F.slot_zip_iter ?_
  refine wpAny_call_entry F.slot_zip_iter ty F.entry_zip_iter ?_ (F.args_zip_iter_1 _)
  show wpAny _ _ (ret (.ref z)) _ _ s
  refine wpAny_pure ⟨_, rfl, "zip", _, ty, F.slot_zip_next.lookup, ?_⟩
  apply wpAny_bind
  apply wpAny_holding
  refine z_hint ty ?_
  refine wpAny_ite_split (fun _ => ?_) (fun _ => wpAny_pure ⟨plainId_quiet F.plain_extend_loop _, go _ c₀ _ (fun b o _ e => e) hls hS⟩)
  apply wpAny_bind
  apply wpAny_rule
  apply wpAny_bind
  show wpAny _ _ (updateSeq S (·.push .none) >>= fun _ => updateSeq S (·.pop)) _ _ _
  apply wpAny_bind
  refine wpAny_updateSeq hS rfl ?_
  have hS₂ := Heap.get?_update_self (Obj.mapSeq (·.push Value.none)) hS rfl
  refine wpAny_updateSeq (hz := by seq_fits) hS₂ rfl ?_
  have hS₃ := Heap.get?_update_self (Obj.mapSeq (·.pop)) hS₂ rfl
  refine wpAny_pure ⟨plainId_quiet F.plain_extend_loop _, go _ _ _ (fun b o hb e => ?_) ?_ hS₃⟩
  · exact (Heap.get?_update_other _ _ (Ne.symm hb)).trans ((Heap.get?_update_other _ _ (Ne.symm hb)).trans e)
  · rw [Heap.size_update, Heap.size_update]
    exact hls
theorem z_list {z TI TO i1 i2 l1 l2 : Addr} {xs ys : Array Value} (hh : A.handled = none) (D : ZipApart z TI TO i1 i2 l1 l2) (hxy : xs.size = ys.size) (hn : xs.size ≤ sizeLine) {Q : Value → Shared → Prop}
    (hz : ZAt s.heap z TI TO i1 i2 l1 l2 0 []) (hz0 : IsZ s.heap z TI TO .none false) (hl1 : s.heap.IsList l1 xs) (hl2 : s.heap.IsList l2 ys)
    (q : ∀ h' tk acc c as, (∀ b o, b ≠ z → b ≠ TO → b ≠ i1 → b ≠ i2 → s.heap.get? b = some o → h'.get? b = some o) → h'.get? s.heap.objs.size = some { cls := .type "list", dict := none, data := .seq acc c, slots := #[] } → as.length = xs.size → MadeZ xs ys s.heap.objs.size h' as →
      acc.toList = as.map Value.ref → Q (.ref s.heap.objs.size) { s with heap := h', toks := tk }) :
    wpAny (model P w) A (call (.type "list") [.ref z]) Q E s := by
  refine callType_codes (Q₁ := fun obj s₁ => obj = .ref s.heap.objs.size ∧ s₁ = { s with heap := s.heap.push { cls := .type "list", data := .seq #[] } }) F.called_list (F.typeCall_list_1 _) F.entry_list_init (code_list_new _ ⟨rfl, rfl⟩) ?_
  rintro obj s₁ ⟨rfl, rfl⟩
  have hS : (s.heap.push { cls := .type "list", data := .seq #[] }).get? s.heap.objs.size = some { cls := .type "list", data := .seq #[] } := Heap.get?_push_size _ rfl
  obtain ⟨hTI, ⟨a, b, hTO⟩, g1, g2, _⟩ := id hz
  have lt : ∀ {c : Addr} {o : Obj}, s.heap.get? c = some o → c < s.heap.objs.size := fun e => Heap.lt_size e
  have z1 : i1 < s.heap.objs.size := g1.elim fun o e => lt e.1
  have z2 : i2 < s.heap.objs.size := g2.elim fun o e => lt e.1
  have z3 : l1 < s.heap.objs.size := hl1.elim fun o e => lt e.1
  have z4 : l2 < s.heap.objs.size := hl2.elim fun o e => lt e.1
  refine ⟨⟨_, hS, rfl⟩, F.args_list_init_2 _ _, ?_⟩
  show wpAny _ _ (do let old ← Builtin.List.listItems (.ref s.heap.objs.size); Builtin.List.listUpdate (.ref s.heap.objs.size) (fun _ => #[]); letGo old.toList.reverse; Builtin.List.listExtendWith (.ref s.heap.objs.size) (.ref z) .none) _ _ _
  apply wpAny_bind
  unfold Builtin.List.listItems
  apply wpAny_bind
  refine wpAny_seqItems hS rfl (wpAny_pure ?_)
  show wpAny _ _ (updateSeq s.heap.objs.size (fun _ => #[]) >>= fun _ => letGo (#[] : Array Value).toList.reverse >>= fun _ => Builtin.List.listExtendWith (.ref s.heap.objs.size) (.ref z) .none) _ _ _
  apply wpAny_bind
  refine wpAny_updateSeq hS rfl ?_
  have hS₂ := Heap.get?_update_self (Obj.mapSeq (fun _ => (#[] : Array Value))) hS rfl
  have kp : ∀ b o, s.heap.get? b = some o → ((s.heap.push { cls := .type "list", data := .seq #[] }).update s.heap.objs.size (Obj.mapSeq (fun _ => (#[] : Array Value)))).get? b = some o := fun b o e => (Heap.get?_update_other _ _ (Nat.ne_of_gt (Heap.lt_size e))).trans (Heap.get?_push_of_some _ e)
  apply wpAny_bind
  apply wpAny_letGo
  refine z_extend (A := A.in1) (S := s.heap.objs.size) hh D hxy (Nat.ne_of_gt (lt hz0)) (Nat.ne_of_gt (lt hTI)) (Nat.ne_of_gt (lt hTO)) (Nat.ne_of_gt z1) (Nat.ne_of_gt z2) (Nat.ne_of_gt z3) (Nat.ne_of_gt z4) s.heap.objs.size ⟨Nat.le_of_lt (lt hz0), Nat.le_of_lt (lt hTI), Nat.le_of_lt (lt hTO), Nat.le_of_lt z1, Nat.le_of_lt z2, Nat.le_refl _⟩ ?_ hn .none ?_ (kp _ _ hz0) (hl1.at fun o e => kp _ o e) (hl2.at fun o e => kp _ o e) hS₂ ?_
  · show s.heap.objs.size < ((s.heap.push { cls := .type "list", data := .seq #[] }).update s.heap.objs.size (Obj.mapSeq (fun _ => (#[] : Array Value)))).objs.size
    rw [Heap.size_update, Heap.size_push]
    exact Nat.lt_succ_self _
  · exact ⟨kp _ _ hTI, ⟨a, b, kp _ _ hTO⟩, g1.at fun o e => kp _ o e, g2.at fun o e => kp _ o e, .inl ⟨rfl, kp _ _ hz0⟩⟩
  · intro h' tk acc c as k1 k2 k3 k4 k5
    exact ⟨rfl, q h' tk acc c as (fun b o n1 n2 n3 n4 e => k1 b o (Nat.ne_of_lt (Heap.lt_size e)) n1 n2 n3 n4 (kp b o e)) k2 k3 k4 k5⟩
end lz
theorem paired_of {α β : Type} {F : α → β → Prop} : ∀ {l : List α} {k : List β}, l.length = k.length → (∀ (j : Nat) x y, l[j]? = some x → k[j]? = some y → F x y) → Paired F l k
  | [], [], _, _ => .nil
  | [], _ :: _, h, _ => nomatch h
  | _ :: _, [], h, _ => nomatch h
  | x :: l, y :: k, h, f => .cons (f 0 x y rfl rfl) (paired_of (Nat.succ.inj h) fun j a b ha hb => f (j + 1) a b (by simpa using ha) (by simpa using hb))
def spTape (K : PySem.W.Frag) : Sp := fun vs H Q _ => ∃ (S : Addr) (ns : List Int) (st : Int), vs = [.ref S, .int st] ∧ SqL K H S (ns.map V.int) ∧ 0 ≤ st ∧ st ≤ 1000 ∧ ∀ H' p, Same H H' → H p = none → TP H' p → Q (.ref p) H'
theorem ok_tape {f : Addr} {fd : FuncData} {k : Nat} (F : Fun K "_law_tape" "_law_tape" s_law_tape f fd) (ma : mg "abs" = none) (mn : mg "len" = none) : FnOk P w K mg base CX0 (k + 1) f fd ["script", "start"] (spTape K) := by
  refine F.ok sc_law_tape (fun vs H Q E h => ?_) (fun cdv A outer s H vs Q E hr h => ?_)
  · obtain ⟨S, ns, st, rfl, _⟩ := h
    rfl
  · obtain ⟨S, ns, st, rfl, hS, h0, h1, q⟩ := h
    refine ⟨_, pss_cons (ps_set (i := 2) sc_law_tape.nd rfl (.inl rfl) pe_int)
      (pss_mid (ps_if (pt_cmpR op_lt (pv 1) (pe_callB call_len_seq (by rfl) mn PySem.boot_len (pa_cons (pv 0) pa_nil)) (nomark _))
        (pss_one (ps_set (i := 2) sc_law_tape.nd rfl (.inl rfl) (pe_callB call_abs (by rfl) ma (by decide +kernel) (pa_cons (pe_ix ix_list (pv 0) (pv 1) (fun _ _ => rfl)) pa_nil))))
        (pss_one (ps_if (pt_cmpR op_gt (pe_callB call_len_seq (by rfl) mn PySem.boot_len (pa_cons (pv 0) pa_nil)) pe_int (nomark _))
          (pss_one (ps_set (i := 2) sc_law_tape.nd rfl (.inl rfl) (pe_op op_add (pe_op op_mod (pe_callB call_abs (by rfl) ma (by decide +kernel) (pa_cons (pe_ix ix_list (pv 0) (pe_op op_mod (pv 1) (pe_callB call_len_seq (by rfl) mn PySem.boot_len (pa_cons (pv 0) pa_nil))) (fun _ _ => rfl)) pa_nil)) (pe_op op_pow pe_int pe_int)) (pe_op op_mul (pv 1) pe_int)))) pss_nil)))
      (pss_one (ps_ret (pe_lst (pa_cons (pv 2) (pa_cons (pe_op op_add (pe_op op_mod (pe_op op_add (pe_op op_mul (pv 1) pe_int) (pv 2)) pe_int) pe_int) pa_nil)))))), ?_⟩
    refine ⟨fun σ2 H2 => ∃ c : Int, σ2 = [some (.ref S), some (.int st), some (.int c)] ∧ H2 = H, ?_, ?_⟩
    · refine ⟨.int st, rfl, .ref S, rfl, S, _, rfl, .inl hS, st, _, rfl, rfl, _, rfl, ite2 (fun e => ?_) (fun e => ?_)⟩
      · have hl := of_decide_eq_true e
        rw [List.length_map] at hl
        refine ⟨.ref S, rfl, .int st, rfl, S, _, st, _, rfl, rfl, hS, atI_ints h0 hl, _, rfl, ?_⟩
        exact ⟨_, rfl, rfl⟩
      · refine ⟨.ref S, rfl, S, _, rfl, .inl hS, _, 0, rfl, rfl, _, rfl, ite2 (fun e2 => ?_) (fun e2 => ?_)⟩
        · have hpos := of_decide_eq_true e2
          have hp2 : (0 : Int) < ns.length := by
            rw [List.length_map] at hpos
            exact hpos
          refine ⟨.ref S, rfl, .int st, rfl, .ref S, rfl, S, _, rfl, .inl hS, st, _, rfl, rfl, hpos, S, _, _, _, rfl, rfl, hS, atI_ints (Int.emod_nonneg _ (by omega)) (by rw [List.length_map]; exact Int.emod_lt_of_pos _ hp2), _, rfl, ?_⟩
          refine ⟨10, 9, rfl, rfl, ⟨by decide, by decide, by decide⟩, _, _, rfl, rfl, (by show (0 : Int) < 10 ^ 9; decide), .int st, rfl, st, 1000003, rfl, rfl, .inr ⟨by decide, by decide⟩, _, _, rfl, rfl, _, rfl, rfl⟩
        · exact ⟨_, rfl, rfl⟩
    · rintro σ2 H2 ⟨c, rfl, rfl⟩
      refine ⟨.int c, rfl, .int st, rfl, st, 7919, rfl, rfl, .inr ⟨by decide, by decide⟩, .int c, rfl, _, c, rfl, rfl, _, 998244353, rfl, rfl, (by show (0 : Int) < 998244353; decide), _, 1, rfl, rfl, by show 2 ≤ sizeLine; decide, fun p hp => ?_⟩
      exact q _ p (same_new hp) hp ⟨_, _, upd_same⟩
def spDigit : Sp := fun vs H Q _ => ∃ (a : Addr) (m : Int), vs = [.ref a, .int m] ∧ 0 < m ∧ m ≤ 2 ^ 80 ∧ TP H a ∧ ∀ H' z, 0 ≤ z → z < m → TP H' a → But a H H' → Q (.int z) H'
theorem ok_digit {f : Addr} {fd : FuncData} {k : Nat} (F : Fun K "_law_digit" "_law_digit" s_law_digit f fd) : FnOk P w K mg base CX0 (k + 1) f fd ["tape", "many"] spDigit := by
  refine F.ok sc_law_digit (fun vs H Q E h => ?_) (fun cdv A outer s H vs Q E hr h => ?_)
  · obtain ⟨a, m, rfl, _⟩ := h
    rfl
  · obtain ⟨a, m, rfl, hm, hm2, ⟨x, y, ea⟩, q⟩ := h
    refine ⟨_, pss_cons (ps_if (pt_cmpR op_gt (pe_ix ix_list (pv 0) pe_int (fun _ _ => rfl)) pe_int (nomark _))
        (pss_cons (ps_set (i := 2) sc_law_digit.nd rfl (.inl rfl) (pe_op op_mod (pe_ix ix_list (pv 0) pe_int (fun _ _ => rfl)) (pv 1)))
        (pss_cons (ps_asg (pe_op op_fdivW (pe_ix ix_list (pv 0) pe_int (fun _ _ => rfl)) (pv 1)) (pg_sub (pv 0) pe_int set_list))
        (pss_one (ps_ret (pv 2))))) pss_nil)
      (pss_cons (ps_asg (pe_op op_mod (pe_op op_add (pe_op op_mul (pe_ix ix_list (pv 0) pe_int (fun _ _ => rfl)) pe_int) pe_int) pe_int) (pg_sub (pv 0) pe_int set_list))
      (pss_cons (ps_set (i := 3) sc_law_digit.nd rfl (.inl rfl) (pe_op op_mod (pe_op op_mul (pe_ix ix_list (pv 0) pe_int (fun _ _ => rfl)) pe_int) pe_int))
      (pss_one (ps_ret (pe_op op_mod (pe_op op_add (pe_op op_mul (pe_op op_mod (pe_op op_mul (pe_ix ix_list (pv 0) pe_int (fun _ _ => rfl)) (pe_ix ix_list (pv 0) pe_int (fun _ _ => rfl))) pe_int) pe_int) (pv 3)) (pv 1)))))), ?_⟩
    have lA : SqL K H a [.int x, .int y] := .inl (.inl ea)
    have put : ∀ o, But a H (upd H a o) := fun o => But.put
    refine ⟨.ref a, rfl, a, _, 0, .int x, rfl, rfl, lA, rfl, x, 0, rfl, rfl, _, rfl, ite2 (fun e => ?_) (fun e => ?_)⟩
    · refine ⟨.ref a, rfl, a, _, 0, .int x, rfl, rfl, lA, rfl, .int m, rfl, x, m, rfl, rfl, hm, ?_⟩
      refine ⟨.ref a, rfl, a, _, 0, .int x, rfl, rfl, lA, rfl, .int m, rfl, x, m, rfl, rfl, wide_div (b := 81) hm (by omega) (by decide) (by decide), ?_⟩
      refine ⟨.ref a, rfl, a, _, 0, 0, rfl, rfl, ea, rfl, .int (x % m), rfl, ?_⟩
      exact q _ _ (Int.emod_nonneg _ (by omega)) (Int.emod_lt_of_pos _ hm) ⟨x / m, y, upd_same⟩ (put _)
    · refine ⟨.ref a, rfl, a, _, 1, .int y, rfl, rfl, lA, rfl, y, 48271, rfl, rfl, .inr ⟨by decide, by decide⟩, _, 11, rfl, rfl, _, 2147483647, rfl, rfl, (by show (0 : Int) < 2147483647; decide), ?_⟩
      have l0 := Int.emod_nonneg (y * 48271 + 11) (show (2147483647 : Int) ≠ 0 by decide)
      have l1 := Int.emod_lt_of_pos (y * 48271 + 11) (show (0 : Int) < 2147483647 by decide)
      obtain ⟨z, hz⟩ : ∃ z : Int, (y * 48271 + 11) % 2147483647 = z := ⟨_, rfl⟩
      rw [hz] at l0 l1
      refine ⟨.ref a, rfl, a, _, 1, 1, rfl, rfl, ea, rfl, ?_⟩
      refine ⟨.ref a, rfl, a, _, 1, .int z, rfl, rfl, .inl (.inl upd_same), (by rw [← hz]; rfl), z, 40692, rfl, rfl, .inr ⟨by decide, by decide⟩, _, 2147483399, rfl, rfl, (by show (0 : Int) < 2147483399; decide), ?_⟩
      refine ⟨.ref a, rfl, a, _, 1, .int z, rfl, rfl, .inl (.inl upd_same), (by rw [← hz]; rfl), .ref a, rfl, a, _, 1, .int z, rfl, rfl, .inl (.inl upd_same), (by rw [← hz]; rfl), z, z, rfl, rfl, .inr ⟨by omega, by omega⟩, _, 2147483629, rfl, rfl, (by show (0 : Int) < 2147483629; decide), _, 2147483399, rfl, rfl, .inr ⟨by decide, by decide⟩, _, rfl, _, _, rfl, rfl, .int m, rfl, _, m, rfl, rfl, hm, ?_⟩
      exact q _ _ (Int.emod_nonneg _ (by omega)) (Int.emod_lt_of_pos _ hm) ⟨x, z, by rw [← hz]; exact upd_same⟩ (put _)
/-- bits, none where nothing carries -/
def Shp : List Deed → List Int → Prop
  | [], [] => True
  | d :: ds, c :: cs => Bit c ∧ (d.1 ∉ twC → c = 0) ∧ Shp ds cs
  | _, _ => False
theorem Shp.len : ∀ {ds : List Deed} {cs : List Int}, Shp ds cs → cs.length = ds.length
  | [], [], _ => rfl
  | [], _ :: _, h => h.elim
  | _ :: _, [], h => h.elim
  | _ :: _, _ :: _, h => congrArg (· + 1) (Shp.len h.2.2)
theorem Shp.bits : ∀ {ds : List Deed} {cs : List Int}, Shp ds cs → ∀ c ∈ cs, Bit c
  | [], [], _ => (fun _ z => nomatch z)
  | [], _ :: _, h => h.elim
  | _ :: _, [], h => h.elim
  | _ :: _, _ :: _, h => fun c hc => by
    rcases List.mem_cons.mp hc with rfl | hc
    · exact h.1
    · exact Shp.bits h.2.2 c hc
theorem pigeon {α : Type} [DecidableEq α] : ∀ (l D : List α), l.Nodup → (∀ x ∈ l, x ∈ D) → l.length ≤ D.length
  | [], _, _, _ => Nat.zero_le _
  | x :: l, D, nd, h => by
    rw [List.nodup_cons] at nd
    have hx := h x List.mem_cons_self
    have ih := pigeon l (D.erase x) nd.2 fun y hy => (List.mem_erase_of_ne (fun e : y = x => nd.1 (by rw [← e]; exact hy))).mpr (h y (List.mem_cons_of_mem _ hy))
    rw [List.length_erase_of_mem hx] at ih
    have := List.length_pos_of_mem hx
    rw [List.length_cons]
    omega
theorem walk_gen {J : It} {n : Nat} {G : Hp → Prop} {Y : Nat → Hp → V → Hp → Prop} (w : Walk J n G Y) {g : TG} {σ0 : L2.St} {B : (Hp → Prop) → L2.St → Hp → Prop} {H0 : Hp} {Qd : Hp → Prop} (Pv : Nat → Hp → Prop) (h0 : Pv 0 H0)
    (hG : ∀ i H, i ≤ n → Pv i H → G H) (hs : ∀ i x H H', i < n → Pv i H → Y i H x H' → g x σ0 H' fun σ2 H2 => B (Pv (i + 1)) σ2 H2) (hd : ∀ H, Pv n H → Qd H) :
    ∃ W : Nat → Nat → Hp → Prop, (∃ m, W 0 m H0) ∧ ∀ i m H, W i m H → (J.stop i H ∧ Qd H) ∨ (J.go i H ∧ ∃ Nx : Hp → Prop, (∀ H', Nx H' → ∃ m', m' < m ∧ W (i + 1) m' H') ∧ ∀ x H', J.yld i H x H' → g x σ0 H' fun σ2 H2 => B Nx σ2 H2) := by
  refine ⟨fun i m H => m = n - i ∧ i ≤ n ∧ Pv i H, ⟨n, by simp, Nat.zero_le _, h0⟩, ?_⟩
  rintro i m H ⟨rfl, hi, q⟩
  by_cases lt : i < n
  · exact .inr ⟨w.goes i H lt (hG i H hi q), Pv (i + 1), fun H' z => ⟨n - (i + 1), by omega, rfl, lt, z⟩, fun x H' y => hs i x H H' lt q (w.yields i H x H' lt (hG i H hi q) y)⟩
  · obtain rfl : i = n := by omega
    exact .inl ⟨w.stops H (hG i H hi q), hd H q⟩
def ext2 (l : List (List Int)) : List (List Int) := l.flatMap fun b => [b ++ [0], b ++ [1]]
def allB : Nat → List (List Int)
  | 0 => [[]]
  | m + 1 => ext2 (allB m)
theorem ext2_len (l : List (List Int)) : (ext2 l).length = 2 * l.length := by
  unfold ext2
  induction l with
  | nil => rfl
  | cons b l ih => rw [List.flatMap_cons, List.length_append, ih, List.length_cons]; simp; omega
theorem allB_len : ∀ m, (allB m).length = 2 ^ m
  | 0 => rfl
  | m + 1 => by
    show (ext2 (allB m)).length = _
    rw [ext2_len, allB_len m, Nat.pow_succ]
    omega
theorem allB_ok : ∀ m, ∀ bs ∈ allB m, bs.length = m ∧ ∀ x ∈ bs, Bit x
  | 0, bs, h => by
    rw [List.mem_singleton.mp h]
    exact ⟨rfl, (fun _ z => nomatch z)⟩
  | m + 1, bs, h => by
    obtain ⟨b, hb, h2⟩ := List.mem_flatMap.mp h
    obtain ⟨h3, h4⟩ := allB_ok m b hb
    simp only [List.mem_cons, List.not_mem_nil, or_false] at h2
    rcases h2 with rfl | rfl
    · refine ⟨by rw [List.length_append, h3]; rfl, fun x hx => ?_⟩
      rcases List.mem_append.mp hx with hx | hx
      · exact h4 x hx
      · rw [List.mem_singleton.mp hx]
        exact bit0
    · refine ⟨by rw [List.length_append, h3]; rfl, fun x hx => ?_⟩
      rcases List.mem_append.mp hx with hx | hx
      · exact h4 x hx
      · rw [List.mem_singleton.mp hx]
        exact bit1
/-- tuples of ints -/
abbrev TAt (H : Hp) : List Addr → List (List Int) → Prop := Paired fun f bs => H f = some (.tup (bs.map V.int))
theorem tat_stay {H H' : Hp} (t : TupsStay H H') {fs : List Addr} {l : List (List Int)} (h : TAt H fs l) : TAt H' fs l := awMap (fun f b e => t f _ e) h
def spAll : Sp := fun vs H Q _ => ∃ m : Nat, vs = [.int (m : Int)] ∧ m ≤ 3 ∧ ∀ H' p fs, Same H H' → H p = none → H' p = some (.lst (fs.map V.ref)) → TAt H' fs (allB m) → Q (.ref p) H'
theorem ok_all {f : Addr} {fd : FuncData} {k : Nat} (F : Fun K "all_bits" "all_bits" s_all_bits f fd) (mr : mg "range" = none) : FnOk P w K mg base CX0 (k + 1) f fd ["many"] spAll := by
  refine F.ok sc_all_bits (fun vs H Q E h => ?_) (fun cdv A outer s H vs Q E hr h => ?_)
  · obtain ⟨m, rfl, _⟩ := h
    rfl
  · obtain ⟨m, rfl, m3, q⟩ := h
    refine ⟨_, pss_cons (ps_set (i := 1) sc_all_bits.nd rfl (.inl rfl) (pe_lst (pa_cons (pe_tup pa_nil) pa_nil)))
      (pss_cons (ps_for PassesOwn.never rfl (pi_range1 (by rfl) mr (pa_cons (pv 0) pa_nil)) (pg_name (i := 2) sc_all_bits.nd rfl (.inl rfl))
        (pss_one (ps_setLc2 (i := 1) (own := [("bits", 3), ("bit", 4)]) (vs1 := [4]) (g := gName 3) (g1 := gName 4) (wi1 := iTup K (tTup (tCons (tC (.int 0)) (tCons (tC (.int 1)) tNil)))) (by rfl) sc_all_bits.nd rfl rfl (sw_true rfl rfl rfl (by decide +kernel)) (pi_list (pv 1)) (blkOk_by (own := [("bits", 3), ("bit", 4)]) (N := N_all_bits) (sc := defScope s_all_bits) (by decide +kernel)) (by decide)
          (fun _ _ _ _ _ => pg_name (i := 3) sc_all_bits.nd rfl (Or.inl rfl)) (fun _ _ _ _ _ => pts_nil) (fun _ _ _ _ _ => pi_tup (pe_tup (pa_cons pe_int (pa_cons pe_int pa_nil))))
          (fun _ _ _ _ _ => pg_name (i := 4) sc_all_bits.nd rfl (Or.inl rfl)) (fun _ _ _ _ _ => pts_nil) (fun _ _ _ _ _ => pe_op op_catZ (pv 3) (pe_tup (pa_cons (pv 4) pa_nil))))))
      (pss_one (ps_ret (pv 1)))), ?_⟩
    refine ⟨by show 0 ≤ sizeLine; decide, fun T hT => ⟨by show 1 ≤ sizeLine; decide, fun L hL => ?_⟩⟩
    have s1 := same_new (o := .tup []) hT
    have s2 := same_new (o := .lst [.ref T]) hL
    refine ⟨.int m, rfl, m, rfl, by omega, by omega, for_range (lo := 0) (n := m) (fun i σ H3 => ∃ y2 F1 fs, σ = [some (.int (m : Int)), some (.ref F1), y2, none, none] ∧ H F1 = none ∧ H3 F1 = some (.lst (fs.map V.ref)) ∧ TAt H3 fs (allB i) ∧ Same H H3) ⟨none, L, [T], rfl, s1.free hL, upd_same, .cons (s2 _ _ upd_same) .nil, s1.trans s2⟩ (fun i σ H3 hi hp => ?_) (fun σ H3 hp => ?_)⟩
    · obtain ⟨y2, F1, fs, rfl, nF, eF, hf, sm⟩ := hp
      have fl : fs.length ≤ 8 := by
        rw [awLen hf, allB_len]
        exact Nat.le_trans (Nat.pow_le_pow_right (by decide) (show i ≤ 3 by omega)) (by decide)
      refine ⟨.ref F1, rfl, F1, rfl, ⟨_, .inl (.inl eF)⟩, fun M hM => ?_⟩
      refine walk_gen (walk_list (K := K) (a := F1) (xs := fs.map V.ref)) (fun j H4 => ∃ gs, H4 M = some (.lst (gs.map V.ref)) ∧ TAt H4 gs (ext2 ((allB i).take j)) ∧ Same H3 H4) ⟨[], upd_same, .nil, same_new hM⟩ (fun j H4 _ hp => ?_) (fun j x H4 H5 hj hp hy => ?_) (fun H4 hp => ?_)
      · obtain ⟨_, _, _, s4⟩ := hp
        exact .inl (.inl (s4 _ _ eF))
      · obtain ⟨gs, eM, hg, s4⟩ := hp
        obtain ⟨rfl, hx⟩ := hy
        have hj2 : j < fs.length := by rwa [List.length_map] at hj
        have hx' : x = .ref fs[j] := by
          rw [List.getElem?_map, List.getElem?_eq_getElem hj2] at hx
          exact (Option.some.inj hx).symm
        subst hx'
        obtain ⟨b, hb1, hb2⟩ := awGet hf (List.getElem?_eq_getElem hj2)
        have bl : b.length = i := (allB_ok i b (List.mem_of_getElem? hb1)).1
        refine ⟨rfl, by show 2 ≤ sizeLine; decide, fun U hU => ?_⟩
        have sU := same_new (o := .tup [.int 0, .int 1]) hU
        refine ⟨U, rfl, ⟨_, SqT.of upd_same⟩, ?_⟩
        refine walk_gen (walk_tup (K := K) (a := U) (xs := [.int 0, .int 1])) (fun t H6 => ∃ gs, H6 M = some (.lst (gs.map V.ref)) ∧ TAt H6 gs (ext2 ((allB i).take j) ++ [b ++ [0], b ++ [1]].take t) ∧ TupsStay (upd H5 U (.tup [.int 0, .int 1])) H6 ∧ Same H3 H6) ⟨gs, sU _ _ eM, (by rw [List.take_zero, List.append_nil]; exact tat_stay (Same.tups sU) hg), (fun _ _ e => e), s4.trans sU⟩ (fun t H6 _ hp => ?_) (fun t x H6 H7 ht hp hy => ?_) (fun H6 hp => ?_)
        · obtain ⟨_, _, _, t6, _⟩ := hp
          exact SqT.of (t6 _ _ upd_same)
        · obtain ⟨gs, eM6, hg6, t6, s6⟩ := hp
          obtain ⟨rfl, hx⟩ := hy
          obtain ⟨z, rfl, hz⟩ : ∃ z : Int, x = .int z ∧ [b ++ [0], b ++ [1]].take (t + 1) = [b ++ [0], b ++ [1]].take t ++ [b ++ [z]] := by
            have ht2 : t = 0 ∨ t = 1 := by
              have : t < 2 := ht
              omega
            rcases ht2 with rfl | rfl
            · exact ⟨0, (Option.some.inj hx).symm, rfl⟩
            · exact ⟨1, (Option.some.inj hx).symm, rfl⟩
          have eb := s6 _ _ (hb2)
          refine ⟨rfl, .ref fs[j], rfl, .int z, rfl, by show 1 ≤ sizeLine; decide, fun U2 hU2 => ?_⟩
          have sU2 := same_new (o := .tup [.int z]) hU2
          refine ⟨fs[j], U2, _, _, rfl, rfl, sU2 _ _ eb, upd_same, by rw [List.length_map]; exact Nat.le_of_lt (small1000 (by show b.length + 1 ≤ 1000; omega)), fun p H8 s8 ep => ?_⟩
          have s78 := sU2.trans s8
          have eM8 := s78 _ _ eM6
          have gl := awLen hg6
          have gl2 : gs.length ≤ 18 := by
            rw [gl, List.length_append, ext2_len, List.length_take]
            have e1 : (allB i).length = fs.length := (awLen hf).symm
            have e2 : ([b ++ [0], b ++ [1]].take t).length ≤ 2 := by
              rw [List.length_take]
              exact Nat.min_le_right _ _
            omega
          have tp := tups_put (o := .lst (gs.map V.ref ++ [V.ref p])) eM8
          refine ⟨_, eM8, by rw [List.length_map]; exact small1000 (by omega), gs ++ [p], ?_, ?_, ?_, ?_⟩
          · rw [upd_same, List.map_append]
            rfl
          · rw [hz, ← List.append_assoc]
            refine tat_stay tp (awSnoc (F := fun f (bs : List Int) => H8 f = some (.tup (bs.map V.int))) ?_ (tat_stay (Same.tups s78) hg6))
            rw [ep, List.map_append]
            rfl
          · exact (t6.trans (Same.tups s78)).trans tp
          · intro c u e
            rw [upd_ne (ne_of_none e hM)]
            exact s78 c u (s6 c u e)
        · obtain ⟨gs, eM6, hg6, t6, s6⟩ := hp
          refine ⟨gs, eM6, ?_, s6⟩
          have e1 : ext2 ((allB i).take (j + 1)) = ext2 ((allB i).take j) ++ [b ++ [0], b ++ [1]] := by
            rw [List.take_add_one, hb1]
            unfold ext2
            rw [List.flatMap_append]
            rfl
          rw [e1]
          exact hg6
      · obtain ⟨gs, eM, hg, s4⟩ := hp
        refine ⟨some (.int (0 + i)), M, gs, rfl, sm.free hM, eM, ?_, sm.trans s4⟩
        rw [List.length_map, awLen hf, List.take_length] at hg
        exact hg
    · obtain ⟨y2, F1, fs, rfl, nF, eF, hf, sm⟩ := hp
      exact ⟨.ref F1, rfl, q _ F1 fs sm nF eF hf⟩
/-- things come in the order in which they are first met -/
def FOrd {L : Type} (nx : L → List (Int × L)) (cs : List L) : Prop := ∀ (k : Nat) (c : L), 0 < k → cs[k]? = some c → ∃ (p t : Nat) (a : L) (s : Int × L), p < k ∧ cs[p]? = some a ∧ (nx a)[t]? = some s ∧ s.2 = c ∧
  ∀ (p' t' : Nat) (a' : L) (s' : Int × L), (p' < p ∨ p' = p ∧ t' < t) → cs[p']? = some a' → (nx a')[t']? = some s' → ∃ j, j < k ∧ cs[j]? = some s'.2
theorem FOrd.push {L : Type} {nx : L → List (Int × L)} {cs : List L} (h : FOrd nx cs) {p t : Nat} {a : L} {s : Int × L} (hp : cs[p]? = some a) (hs : (nx a)[t]? = some s)
    (all : ∀ (p' t' : Nat) (a' : L) (s' : Int × L), (p' < p ∨ p' = p ∧ t' < t) → cs[p']? = some a' → (nx a')[t']? = some s' → ∃ j : Nat, cs[j]? = some s'.2) : FOrd nx (cs ++ [s.2]) := by
  have pl := (List.getElem?_eq_some_iff.mp hp).1
  have up : ∀ (i : Nat) (x : L), cs[i]? = some x → (cs ++ [s.2])[i]? = some x := fun i x e => by rw [List.getElem?_append_left (List.getElem?_eq_some_iff.mp e).1]; exact e
  have dn : ∀ (i : Nat) (x : L), i < cs.length → (cs ++ [s.2])[i]? = some x → cs[i]? = some x := fun i x hi e => by rwa [List.getElem?_append_left hi] at e
  intro k c hk hc
  by_cases hl : k < cs.length
  · obtain ⟨p1, t1, a1, s1, e1, e2, e3, e4, e5⟩ := h k c hk (dn k c hl hc)
    refine ⟨p1, t1, a1, s1, e1, up _ _ e2, e3, e4, fun p' t' a' s' h1 h2 h3 => ?_⟩
    obtain ⟨j, g1, g2⟩ := e5 p' t' a' s' h1 (dn p' a' (by omega) h2) h3
    exact ⟨j, g1, up _ _ g2⟩
  · have kl := (List.getElem?_eq_some_iff.mp hc).1
    rw [List.length_append] at kl
    simp only [List.length_cons, List.length_nil] at kl
    have ek : k = cs.length := by omega
    subst ek
    rw [List.getElem?_append_right (Nat.le_refl _), Nat.sub_self] at hc
    refine ⟨p, t, a, s, pl, up _ _ hp, hs, Option.some.inj hc, fun p' t' a' s' h1 h2 h3 => ?_⟩
    obtain ⟨j, g⟩ := all p' t' a' s' h1 (dn p' a' (by omega) h2) h3
    exact ⟨j, (List.getElem?_eq_some_iff.mp g).1, up _ _ g⟩
theorem nd_idx {L : Type} {cs : List L} (nd : cs.Nodup) {i j : Nat} {x : L} (h1 : cs[i]? = some x) (h2 : cs[j]? = some x) : i = j := by
  have l1 := (List.getElem?_eq_some_iff.mp h1).1
  exact (List.getElem?_inj l1 nd).mp (h1.trans h2.symm)
abbrev MRow := List (Int × Int)
abbrev PrAt (H : Hp) : List Addr → MRow → Prop := Paired fun q e => H q = some (.tup [.int e.1, .int e.2])
theorem prat_stay {H H' : Hp} (t : TupsStay H H') {qs : List Addr} {r : MRow} (h : PrAt H qs r) : PrAt H' qs r := awMap (fun q e z => t _ _ z) h
def RowL (H : Hp) (l : Addr) (row : MRow) : Prop := ∃ qs, H l = some (.lst (qs.map V.ref)) ∧ PrAt H qs row
abbrev MacL (H : Hp) : List Addr → List MRow → Prop := Paired (RowL H)
theorem macl_stay {H H' : Hp} (t : TupsStay H H') : ∀ {ls : List Addr} {mac : List MRow}, (∀ l ∈ ls, ∀ xs, H l = some (.lst xs) → H' l = some (.lst xs)) → MacL H ls mac → MacL H' ls mac
  | _, _, _, .nil => .nil
  | _, _, k, .cons ⟨qs, h1, h2⟩ h => .cons ⟨qs, k _ List.mem_cons_self _ h1, prat_stay t h2⟩ (macl_stay t (fun l hl => k l (List.mem_cons_of_mem _ hl)) h)
def kC (c : List Int) : NestedKey := .tup (c.map .num)
theorem nums_inj : ∀ {a b : List Int}, a.map NestedKey.num = b.map NestedKey.num → a = b
  | [], [], _ => rfl
  | [], _ :: _, h => nomatch h
  | _ :: _, [], h => nomatch h
  | x :: a, y :: b, h => by
    rw [List.map_cons, List.map_cons, List.cons.injEq] at h
    rw [NestedKey.num.inj h.1, nums_inj h.2]
theorem kC_inj {a b : List Int} (h : kC a = kC b) : a = b := nums_inj (NestedKey.tup.inj h)
theorem nums_depth : ∀ c : List Int, NestedKey.depthAll (c.map .num) = 0
  | [] => by simp [NestedKey.depthAll]
  | x :: c => by simp [NestedKey.depthAll, NestedKey.depth, nums_depth c]
theorem kC_depth (c : List Int) : (kC c).depth ≤ 8 := by
  unfold kC
  simp [NestedKey.depth, nums_depth c]
theorem nks_ints (H : Hp) : ∀ c : List Int, NkAll H (c.map .num) (c.map V.int)
  | [] => .nil
  | x :: c => .cons (.num x) (nks_ints H c)
theorem nks_eq {H : Hp} : ∀ {c : List Int} {xs : List V}, NkAll H (c.map .num) xs → xs = c.map V.int
  | [], _, h => by
    cases h
    rfl
  | x :: c, _, h => by
    cases h with
    | cons h1 h2 =>
      cases h1
      rw [nks_eq h2]
      rfl
theorem keyC {H : Hp} {b : Addr} {c : List Int} (h : H b = some (.tup (c.map V.int))) : KeyN H (.ref b) (kC c) := ⟨.tup h (nks_ints H c), kC_depth c, b, rfl⟩
structure NumOf (ks : List NestedKey) (ns : List Nat) : Prop where
  len : ns.length = ks.length
  inj : ∀ (i j a : Nat) x y, ns[i]? = some a → ns[j]? = some a → ks[i]? = some x → ks[j]? = some y → x = y
  rg : ∀ i v : Nat, ns[i]? = some (v + 1) → ∃ j, j < i ∧ ns[j]? = some v
  same : ∀ (i j : Nat), ks[i]? = ks[j]? → ns[i]? = ns[j]?
structure FI (ks : List NestedKey) (i : Nat) (us : List NestedKey) : Prop where
  nd : us.Nodup
  all : ∀ (j : Nat) k, j < i → ks[j]? = some k → k ∈ us
  src : ∀ k ∈ us, ∃ j, j < i ∧ ks[j]? = some k
  rg : ∀ (v j : Nat) k, us[v + 1]? = some k → ks[j]? = some k → ∃ j' k', j' < j ∧ us[v]? = some k' ∧ ks[j']? = some k'
  len : us.length ≤ i
theorem FI.old {ks us : List NestedKey} {i : Nat} {k : NestedKey} (h : FI ks i us) (hk : ks[i]? = some k) (hm : k ∈ us) : FI ks (i + 1) us := by
  refine ⟨h.nd, fun j k' hj e => ?_, fun k' hk' => ?_, h.rg, Nat.le_succ_of_le h.len⟩
  · by_cases hji : j = i
    · rw [hji, hk] at e
      exact Option.some.inj e ▸ hm
    · exact h.all j k' (by omega) e
  · obtain ⟨j, h1, h2⟩ := h.src k' hk'
    exact ⟨j, by omega, h2⟩
theorem FI.new {ks us : List NestedKey} {i : Nat} {k : NestedKey} (h : FI ks i us) (hk : ks[i]? = some k) (hm : k ∉ us) : FI ks (i + 1) (us ++ [k]) := by
  refine ⟨?_, fun j k' hj e => ?_, fun k' hk' => ?_, fun v j k' hv e => ?_, by rw [List.length_append]; exact Nat.succ_le_succ h.len⟩
  · rw [List.nodup_append]
    refine ⟨h.nd, by simp, fun a ha b hb => ?_⟩
    rw [List.mem_singleton.mp hb]
    exact fun z => hm (z ▸ ha)
  · by_cases hji : j = i
    · rw [hji, hk] at e
      rw [← Option.some.inj e]
      simp
    · exact List.mem_append_left _ (h.all j k' (by omega) e)
  · rcases List.mem_append.mp hk' with h1 | h1
    · obtain ⟨j, h2, h3⟩ := h.src k' h1
      exact ⟨j, by omega, h3⟩
    · rw [List.mem_singleton.mp h1]
      exact ⟨i, by omega, hk⟩
  · by_cases hl : v + 1 < us.length
    · rw [List.getElem?_append_left hl] at hv
      obtain ⟨j', k2, h1, h2, h3⟩ := h.rg v j k' hv e
      exact ⟨j', k2, h1, by rw [List.getElem?_append_left (by omega)]; exact h2, h3⟩
    · rw [List.getElem?_append_right (by omega)] at hv
      have hv0 : v + 1 - us.length = 0 := by
        have := (List.getElem?_eq_some_iff.mp hv).1
        simp at this
        exact this
      rw [hv0] at hv
      have hkk : k = k' := by simpa using hv
      subst hkk
      have hlv : v < us.length := by omega
      obtain ⟨j', h1, h2⟩ := h.src us[v] (List.getElem_mem hlv)
      refine ⟨j', us[v], ?_, by rw [List.getElem?_append_left hlv, List.getElem?_eq_getElem hlv], h2⟩
      by_cases hji : j < i
      · exact absurd (h.all j k hji e) hm
      · omega
def idxN (us : List NestedKey) (k : NestedKey) : Nat := us.findIdx fun u => decide (u = k)
theorem idxN_at {us : List NestedKey} {k : NestedKey} (h : k ∈ us) : us[idxN us k]? = some k := by
  have hl : idxN us k < us.length := List.findIdx_lt_length_of_exists ⟨k, h, by simp⟩
  rw [List.getElem?_eq_getElem hl]
  exact congrArg some (of_decide_eq_true (List.findIdx_getElem (w := hl)))
theorem FI.done {ks us : List NestedKey} (h : FI ks ks.length us) : NumOf ks (ks.map (idxN us)) := by
  have key : ∀ (i a : Nat), (ks.map (idxN us))[i]? = some a → ∃ x, ks[i]? = some x ∧ us[a]? = some x := fun i a e => by
    rw [List.getElem?_map] at e
    cases hx : ks[i]? with
    | none => rw [hx] at e; cases e
    | some x =>
      rw [hx] at e
      have e' : idxN us x = a := Option.some.inj e
      exact ⟨x, rfl, e' ▸ idxN_at (h.all i x (List.getElem?_eq_some_iff.mp hx).1 hx)⟩
  refine ⟨List.length_map _, fun i j a x y h1 h2 h3 h4 => ?_, fun i v e => ?_, fun i j e => by rw [List.getElem?_map, List.getElem?_map, e]⟩
  · obtain ⟨x', e1, e2⟩ := key i a h1
    obtain ⟨y', e3, e4⟩ := key j a h2
    rw [h3] at e1
    rw [h4] at e3
    rw [Option.some.inj e1, Option.some.inj e3]
    exact Option.some.inj (e2.symm.trans e4)
  · obtain ⟨x, e1, e2⟩ := key i _ e
    obtain ⟨j', k', h1, h2, h3⟩ := h.rg v i x e2 e1
    refine ⟨j', h1, ?_⟩
    rw [List.getElem?_map, h3]
    have hk' := h.all j' k' (List.getElem?_eq_some_iff.mp h3).1 h3
    have := idxN_at hk'
    exact congrArg some ((List.getElem?_inj (List.getElem?_eq_some_iff.mp this).1 h.nd).mp (this.trans h2.symm))
abbrev RG (ns : List Nat) : Prop := ∀ i v : Nat, ns[i]? = some (v + 1) → ∃ j, j < i ∧ ns[j]? = some v
abbrev Finer (ns ps : List Nat) : Prop := ∀ i j a x y : Nat, ns[i]? = some a → ns[j]? = some a → ps[i]? = some x → ps[j]? = some y → x = y
theorem rg_down {ps : List Nat} (rg : RG ps) : ∀ d v i : Nat, ps[i]? = some (v + d) → ∃ j : Nat, ps[j]? = some v
  | 0, v, i, h => ⟨i, h⟩
  | d + 1, v, i, h => by
    obtain ⟨j, _, h2⟩ := rg i (v + d) h
    exact rg_down rg d v j h2
theorem coarse {ps ns : List Nat} {M m : Nat} (hl : ps.length = ns.length) (rgp : RG ps) (hM : M ∈ ps) (hm : ∀ x ∈ ns, x ≤ m) (hle : m ≤ M) (ref : Finer ns ps) : Finer ps ns := by
  have at_ : ∀ v, v ≤ M → ∃ i : Nat, ps[i]? = some v := fun v hv => by
    obtain ⟨i, hi⟩ := List.mem_iff_getElem?.mp hM
    exact rg_down rgp (M - v) v i (by rw [hi]; congr 1; omega)
  let r : Nat → Nat := fun v => ps.findIdx fun u => decide (u = v)
  have hr : ∀ v, v ≤ M → ps[r v]? = some v := fun v hv => by
    obtain ⟨i, hi⟩ := at_ v hv
    have hlt : r v < ps.length := List.findIdx_lt_length_of_exists ⟨v, List.mem_of_getElem? hi, by simp⟩
    rw [List.getElem?_eq_getElem hlt]
    exact congrArg some (of_decide_eq_true (List.findIdx_getElem (w := hlt)))
  have hn : ∀ v, v ≤ M → ∃ a, ns[r v]? = some a ∧ ns.getD (r v) 0 = a := fun v hv => by
    have hlt : r v < ns.length := by
      rw [← hl]
      exact (List.getElem?_eq_some_iff.mp (hr v hv)).1
    exact ⟨ns[r v], List.getElem?_eq_getElem hlt, by simp [List.getD, List.getElem?_eq_getElem hlt]⟩
  have nd : ((List.range (M + 1)).map fun v => ns.getD (r v) 0).Nodup := by
    refine List.pairwise_map.mpr (List.Pairwise.imp_of_mem (fun {a b} ha hb hab z => hab ?_) List.nodup_range)
    rw [List.mem_range] at ha hb
    obtain ⟨x, h1, h2⟩ := hn a (by omega)
    obtain ⟨y, h3, h4⟩ := hn b (by omega)
    rw [h2, h4] at z
    subst z
    exact ref _ _ x a b h1 h3 (hr a (by omega)) (hr b (by omega))
  have cov : ∀ x, x ∈ ns → ∃ v, v ≤ M ∧ ns[r v]? = some x := fun x hx => by
    by_cases h : x ∈ (List.range (M + 1)).map fun v => ns.getD (r v) 0
    · obtain ⟨v, h1, h2⟩ := List.mem_map.mp h
      rw [List.mem_range] at h1
      obtain ⟨a, h3, h4⟩ := hn v (by omega)
      exact ⟨v, by omega, by rw [h3, ← h4, ← h2]⟩
    · exfalso
      have := pigeon (x :: (List.range (M + 1)).map fun v => ns.getD (r v) 0) (List.range (M + 1)) (List.nodup_cons.mpr ⟨h, nd⟩) fun y hy => by
        rw [List.mem_range]
        rcases List.mem_cons.mp hy with rfl | hy
        · have := hm _ hx
          omega
        · obtain ⟨v, h1, h2⟩ := List.mem_map.mp hy
          rw [List.mem_range] at h1
          obtain ⟨a, h3, h4⟩ := hn v (by omega)
          have := hm a (List.mem_of_getElem? h3)
          have h2' : ns.getD (r v) 0 = y := h2
          omega
      rw [List.length_cons, List.length_map, List.length_range] at this
      omega
  intro i j a x y h1 h2 h3 h4
  obtain ⟨v, v1, v2⟩ := cov x (List.mem_of_getElem? h3)
  obtain ⟨u, u1, u2⟩ := cov y (List.mem_of_getElem? h4)
  have e1 := ref i (r v) x a v h3 v2 h1 (hr v v1)
  have e2 := ref j (r u) y a u h4 u2 h2 (hr u u1)
  have : v = u := by omega
  subst this
  rw [v2] at u2
  exact Option.some.inj u2
abbrev beh (ns : List Nat) (row : MRow) : List Int := row.map fun e => ((ns.getD e.2.toNat 0 : Nat) : Int)
structure MacOk (mac : List MRow) : Prop where
  pos : 0 < mac.length
  few : mac.length ≤ 256
  rows : ∀ row ∈ mac, row.length ≤ 8
  ends : ∀ row ∈ mac, ∀ e ∈ row, ∃ j : Nat, e.2 = (j : Int) ∧ j < mac.length
/-- states that tell alike for ever -/
def Alk (mac : List MRow) (R : Nat → Nat → Prop) : Prop := ∀ i j, R i j → ∃ r s, mac[i]? = some r ∧ mac[j]? = some s ∧ Paired (fun (e e' : Int × Int) => e.1 = e'.1 ∧ R e.2.toNat e'.2.toNat) r s
theorem alk_bits {R : Nat → Nat → Prop} : ∀ {r s : MRow}, Paired (fun (e e' : Int × Int) => e.1 = e'.1 ∧ R e.2.toNat e'.2.toNat) r s → r.map (·.1) = s.map (·.1)
  | _, _, .nil => rfl
  | _, _, .cons h1 h2 => by rw [List.map_cons, List.map_cons, h1.1, alk_bits h2]
structure KOk (mac : List MRow) (ns : List Nat) : Prop where
  len : ns.length = mac.length
  rg : RG ns
  bits : ∀ (i j a : Nat) r s, ns[i]? = some a → ns[j]? = some a → mac[i]? = some r → mac[j]? = some s → r.map (·.1) = s.map (·.1)
  next : ∀ (i j a : Nat) r s, ns[i]? = some a → ns[j]? = some a → mac[i]? = some r → mac[j]? = some s → beh ns r = beh ns s
  crs : ∀ R, Alk mac R → ∀ i j, R i j → ns[i]? = ns[j]?
structure KInv (mac : List MRow) (ns : List Nat) (many : Nat) : Prop where
  len : ns.length = mac.length
  rg : RG ns
  bits : ∀ (i j a : Nat) r s, ns[i]? = some a → ns[j]? = some a → mac[i]? = some r → mac[j]? = some s → r.map (·.1) = s.map (·.1)
  prev : many = 0 ∨ ∃ (ps : List Nat) (M : Nat), ps.length = mac.length ∧ RG ps ∧ M ∈ ps ∧ many = M + 1 ∧ Finer ns ps ∧ ∀ (i j a : Nat) r s, ns[i]? = some a → ns[j]? = some a → mac[i]? = some r → mac[j]? = some s → beh ps r = beh ps s
  crs : ∀ R, Alk mac R → ∀ i j, R i j → ns[i]? = ns[j]?
theorem KInv.done {mac : List MRow} {ns : List Nat} {many m : Nat} (h : KInv mac ns many) (ok : MacOk mac) (hm : ∀ x ∈ ns, x ≤ m) (hle : m + 1 ≤ many) : KOk mac ns := by
  refine ⟨h.len, h.rg, h.bits, fun i j a r s h1 h2 h3 h4 => ?_, h.crs⟩
  rcases h.prev with e | ⟨ps, M, lp, rgp, hM, rfl, fin, nx⟩
  · omega
  have co := coarse (lp.trans h.len.symm) rgp hM hm (by omega) fin
  have e1 := nx i j a r s h1 h2 h3 h4
  apply List.ext_getElem?
  intro t
  have lr := congrArg List.length (h.bits i j a r s h1 h2 h3 h4)
  rw [List.length_map, List.length_map] at lr
  have e2 := congrArg (fun l : List Int => l[t]?) e1
  rw [List.getElem?_map, List.getElem?_map]
  by_cases ht : t < r.length
  · have ht2 : t < s.length := by omega
    have e3 : (beh ps r)[t]? = (beh ps s)[t]? := e2
    rw [List.getElem?_map, List.getElem?_map, List.getElem?_eq_getElem ht, List.getElem?_eq_getElem ht2] at e3
    rw [List.getElem?_eq_getElem ht, List.getElem?_eq_getElem ht2]
    obtain ⟨x, hx, lx⟩ := ok.ends r (List.mem_of_getElem? h3) r[t] (List.getElem_mem ht)
    obtain ⟨y, hy, ly⟩ := ok.ends s (List.mem_of_getElem? h4) s[t] (List.getElem_mem ht2)
    have e4 : ((ps.getD r[t].2.toNat 0 : Nat) : Int) = ((ps.getD s[t].2.toNat 0 : Nat) : Int) := Option.some.inj e3
    show some ((ns.getD r[t].2.toNat 0 : Nat) : Int) = some ((ns.getD s[t].2.toNat 0 : Nat) : Int)
    rw [hx, hy, Int.toNat_natCast, Int.toNat_natCast] at e4 ⊢
    have hl := h.len
    have px : ps[x]? = some ps[x] := List.getElem?_eq_getElem (by omega)
    have py : ps[y]? = some ps[y] := List.getElem?_eq_getElem (by omega)
    have nx : ns[x]? = some ns[x] := List.getElem?_eq_getElem (by omega)
    have ny : ns[y]? = some ns[y] := List.getElem?_eq_getElem (by omega)
    rw [List.getD_eq_getElem?_getD, List.getD_eq_getElem?_getD, px, py] at e4
    rw [List.getD_eq_getElem?_getD, List.getD_eq_getElem?_getD, nx, ny]
    have e6 : ((ps[x] : Nat) : Int) = ((ps[y] : Nat) : Int) := by simpa using e4
    have e5 : ps[x] = ps[y] := by omega
    have := co x y _ _ _ px (e5 ▸ py) nx ny
    simp [this]
  · rw [List.getElem?_eq_none (by omega), List.getElem?_eq_none (by omega)]
theorem KInv.first {mac : List MRow} {ns : List Nat} (h : NumOf (mac.map fun row => kC (row.map (·.1))) ns) : KInv mac ns 0 := by
  refine ⟨by rw [h.len, List.length_map], h.rg, fun i j a r s h1 h2 h3 h4 => ?_, .inl rfl, fun R hR i j hij => ?_⟩
  · exact kC_inj (h.inj i j a _ _ h1 h2 (by rw [List.getElem?_map, h3]; rfl) (by rw [List.getElem?_map, h4]; rfl))
  · obtain ⟨r, s, h1, h2, h3⟩ := hR i j hij
    exact h.same i j (by rw [List.getElem?_map, List.getElem?_map, h1, h2, Option.map_some, Option.map_some, alk_bits h3])
theorem macl_same {H H' : Hp} (s : Same H H') {ls : List Addr} {mac : List MRow} (h : MacL H ls mac) : MacL H' ls mac := macl_stay (Same.tups s) (fun l _ xs e => s _ _ e) h
abbrev low (ns : List Nat) (row : MRow) : MRow := row.map fun e => (e.1, ((ns.getD e.2.toNat 0 : Nat) : Int))
structure LInv (mac : List MRow) (ns : List Nat) (lm : List MRow) (i : Nat) : Prop where
  each : ∀ (k : Nat) row, lm[k]? = some row → ∃ (i0 : Nat) (r : MRow), ns[i0]? = some k ∧ mac[i0]? = some r ∧ row = low ns r
  all : ∀ j k : Nat, j < i → ns[j]? = some k → k < lm.length
  len : lm.length ≤ i
theorem LInv.new {mac lm : List MRow} {ns : List Nat} {i : Nat} {r : MRow} (h : LInv mac ns lm i) (hk : ns[i]? = some lm.length) (hr : mac[i]? = some r) : LInv mac ns (lm ++ [low ns r]) (i + 1) := by
  refine ⟨fun k row e => ?_, fun j k hj e => ?_, by rw [List.length_append]; exact Nat.succ_le_succ h.len⟩
  · by_cases hl : k < lm.length
    · rw [List.getElem?_append_left hl] at e
      exact h.each k row e
    · rw [List.getElem?_append_right (by omega)] at e
      have h2 := (List.getElem?_eq_some_iff.mp e).1
      simp only [List.length_cons, List.length_nil] at h2
      have ek : k = lm.length := by omega
      subst ek
      rw [Nat.sub_self] at e
      exact ⟨i, r, hk, hr, (Option.some.inj e).symm⟩
  · rw [List.length_append]
    show k < lm.length + 1
    by_cases hji : j = i
    · subst hji
      rw [hk] at e
      have := Option.some.inj e
      omega
    · have := h.all j k (by omega) e
      omega
theorem LInv.old {mac lm : List MRow} {ns : List Nat} {i k : Nat} (h : LInv mac ns lm i) (rg : RG ns) (hk : ns[i]? = some k) (hn : k ≠ lm.length) : LInv mac ns lm (i + 1) := by
  refine ⟨h.each, fun j k' hj e => ?_, Nat.le_succ_of_le h.len⟩
  by_cases hji : j = i
  · subst hji
    rw [hk] at e
    obtain rfl := Option.some.inj e
    cases k with
    | zero => omega
    | succ v =>
      obtain ⟨j', h1, h2⟩ := rg j v hk
      have := h.all j' v h1 h2
      omega
  · exact h.all j k' (by omega) e
def atb (bs : List Int) : Int := bs.foldl (fun a b => 2 * a + b) 0
theorem atb_snoc (bs : List Int) (b : Int) : atb (bs ++ [b]) = 2 * atb bs + b := by
  unfold atb
  rw [List.foldl_append]
  rfl
theorem ext2_at : ∀ {l : List (List Int)} {j : Nat} {b : List Int}, l[j]? = some b → (ext2 l)[2 * j]? = some (b ++ [0]) ∧ (ext2 l)[2 * j + 1]? = some (b ++ [1])
  | [], j, b, h => by simp at h
  | x :: l, 0, b, h => by
    have : x = b := by simpa using h
    subst this
    exact ⟨rfl, rfl⟩
  | x :: l, j + 1, b, h => by
    have h' : l[j]? = some b := by simpa using h
    have ih := ext2_at h'
    have e : ext2 (x :: l) = (x ++ [0]) :: (x ++ [1]) :: ext2 l := rfl
    rw [e]
    have e1 : 2 * (j + 1) = 2 * j + 1 + 1 := by omega
    have e2 : 2 * (j + 1) + 1 = 2 * j + 1 + 1 + 1 := by omega
    constructor
    · rw [e1, List.getElem?_cons_succ, List.getElem?_cons_succ]
      exact ih.1
    · rw [e2, List.getElem?_cons_succ, List.getElem?_cons_succ]
      exact ih.2
theorem allB_at : ∀ (m : Nat) (bs : List Int), bs.length = m → (∀ x ∈ bs, Bit x) → ∃ j : Nat, atb bs = (j : Int) ∧ (allB m)[j]? = some bs
  | 0, bs, h, _ => by
    rw [List.eq_nil_of_length_eq_zero h]
    exact ⟨0, rfl, rfl⟩
  | m + 1, bs, h, hb => by
    have hne : bs ≠ [] := fun e => by rw [e] at h; simp at h
    have e := List.dropLast_concat_getLast hne
    obtain ⟨j, h1, h2⟩ := allB_at m bs.dropLast (by rw [List.length_dropLast, h]; rfl) fun x hx => hb x ((List.dropLast_sublist bs).subset hx)
    obtain ⟨h3, h4⟩ := ext2_at h2
    rcases hb _ (List.getLast_mem hne) with z | z
    · refine ⟨2 * j, ?_, ?_⟩
      · rw [← e, atb_snoc, h1, z]
        omega
      · rw [← e, z]
        exact h3
    · refine ⟨2 * j + 1, ?_, ?_⟩
      · rw [← e, atb_snoc, h1, z]
        omega
      · rw [← e, z]
        exact h4
section revs
variable {X : Cx} {e st : Expr} {te ts : TE} {pos p2 : Pos}
theorem range_get {α : Type} : ∀ l : List α, (List.range l.length).filterMap (l[·]?) = l
  | [] => rfl
  | x :: l => by
    rw [List.length_cons, List.range_succ_eq_map, List.filterMap_cons]
    show x :: ((List.range l.length).map Nat.succ).filterMap _ = _
    rw [List.filterMap_map]
    congr 1
    exact range_get l
theorem fm_congr {α β : Type} {f g : α → Option β} : ∀ l : List α, (∀ x ∈ l, f x = g x) → l.filterMap f = l.filterMap g
  | [], _ => rfl
  | x :: l, h => by
    rw [List.filterMap_cons, List.filterMap_cons, h x List.mem_cons_self, fm_congr l fun y hy => h y (List.mem_cons_of_mem _ hy)]
theorem slicePick_rev (its : List Value) : slicePick its.toArray none none (some (-1)) = its.reverse.toArray := by
  unfold slicePick
  congr 1
  have hb : sliceBounds none none (some (-1)) its.toArray.size = ((its.length : Int) - 1, -1, -1) := by
    simp [sliceBounds]
  rw [hb]
  unfold sliceRange
  have hc : (if (-1 : Int) > 0 then (if ((its.length : Int) - 1) < -1 then (-1 - ((its.length : Int) - 1) + -1 - 1) / -1 else 0) else (if ((its.length : Int) - 1) > -1 then (((its.length : Int) - 1) - -1 - -1 - 1) / (- -1) else 0)) = (its.length : Int) := by
    rw [if_neg (by decide)]
    by_cases h : ((its.length : Int) - 1) > -1
    · rw [if_pos h, show (- -1 : Int) = 1 by decide, Int.ediv_one]
      omega
    · rw [if_neg h]
      omega
  show ((List.range (if (-1 : Int) > 0 then (if ((its.length : Int) - 1) < -1 then (-1 - ((its.length : Int) - 1) + -1 - 1) / -1 else 0) else (if ((its.length : Int) - 1) > -1 then (((its.length : Int) - 1) - -1 - -1 - 1) / (- -1) else 0)).toNat).map fun (k : Nat) => ((its.length : Int) - 1 + -1 * (k : Int)).toNat).filterMap (its.toArray[·]?) = its.reverse
  rw [hc, Int.toNat_natCast, List.filterMap_map]
  have e := range_get its.reverse
  rw [List.length_reverse] at e
  refine Eq.trans (fm_congr _ fun k hk => ?_) e
  have hk' := List.mem_range.mp hk
  show its.toArray[((its.length : Int) - 1 + -1 * (k : Int)).toNat]? = its.reverse[k]?
  rw [List.getElem?_toArray, List.getElem?_reverse hk']
  congr 1
  omega
def tRev (K : PySem.W.Frag) (te ts : TE) : TE := fun σ H Q => te σ H fun x H1 => ts σ H1 fun y H2 => ∃ a xs, y = .int (-1) ∧ x = .ref a ∧ SqL K H2 a xs ∧ ∀ p, H2 p = none → Q (.ref p) (upd H2 p (.lst xs.reverse))
theorem pe_rev (he : PE X e te) (hs : PE X st ts) : PE X (.Subscript e (.Slice none none (some st) p2) pos) (tRev X.K te ts) := by
  refine ⟨fun pins s σ H Q I h => ?_⟩
  refine Subscript_ (thn (he.run pins s σ H _ I h) ?_)
  rintro v s1 ⟨x, H1, I1, r1, q1⟩
  apply wpAny_Slice
  rw [evalPart_none]
  refine wpAny_pure ?_
  refine wpAny_pure ?_
  rw [evalPart_some]
  refine thn (hs.run pins s1 σ H1 _ I1 q1) ?_
  rintro vs s3 ⟨y, H3, I3, ry, a, xs, rfl, rfl, hx, q3⟩
  obtain ⟨tk, rfl⟩ := ry
  cases r1
  have I4 : Inv X pins σ H3 { s3 with heap := s3.heap.push { cls := .type "slice", data := .fields #[.none, .none, .int (-1) tk] } } := I3.kept (t' := s3.toks) fun b ob q => Heap.get?_push_of_some _ q
  obtain ⟨its, r, ht, hz⟩ := I4.list hx
  have hlen := r.length
  show wpAny (model X.prog X.w) X.A (subscriptTail e (.Slice none none (some st) p2) (.ref a) (.ref s3.heap.objs.size)) (EP X pins σ Q) X.xe { s3 with heap := s3.heap.push { cls := .type "slice", data := .fields #[.none, .none, .int (-1) tk] } }
  refine tail_any (ops := [.ref a, .ref s3.heap.objs.size]) ht.isList.typeIs slot_list_getitem.lookup ?_ (by with_unfolding_all rfl)
  refine wpAny_getItem_list_slice ht.isList (Heap.IsSliceOf.new ..) .none .none (.int (-1) tk) (by decide) ?_ (by rw [List.size_toArray] <;> omega)
  rw [slicePick_rev]
  refine ⟨.ref _, _, I4.laid (t' := s3.toks) (o := .lst xs.reverse) (fun b ob q => Heap.get?_push_of_some _ q) (Nat.le_refl _) ?_, rfl, q3 _ ?_⟩
  · exact ⟨by rw [List.length_reverse]; exact hz, _, 0, r.reverse, Heap.get?_push_size _ rfl⟩
  · exact I4.hok.fresh (Nat.le_refl _)
end revs
abbrev sWalk_bits_to : Stmt := inClass c_Walk 2
theorem scWb : FnScope ["self", "number", "told", "bits"] ["self", "number"] (defScope sWalk_bits_to) := ⟨rfl, rfl, rfl, by decide +kernel, rfl, by decide +kernel, by decide +kernel⟩
/-- the bits on the way to a number: each way's own ahead is less -/
def pth (wy : List (Int × List Int)) : Nat → Nat → List (List Int)
  | 0, _ => []
  | f + 1, i => if i = 0 then [] else match wy[i]? with | some e => pth wy f e.1.toNat ++ [e.2] | none => []
def WayOk (wy : List (Int × List Int)) : Prop := ∀ (j : Nat) e, wy[j]? = some e → 0 < j → 0 ≤ e.1 ∧ e.1 < (j : Int)
theorem pth_fuel {wy : List (Int × List Int)} (h : WayOk wy) : ∀ (f g i : Nat), i ≤ f → i ≤ g → pth wy f i = pth wy g i
  | 0, 0, _, _, _ => rfl
  | 0, g + 1, i, h1, _ => by
    obtain rfl : i = 0 := by omega
    show [] = if (0 : Nat) = 0 then [] else _
    rw [if_pos rfl]
  | f + 1, 0, i, _, h1 => by
    obtain rfl : i = 0 := by omega
    show (if (0 : Nat) = 0 then [] else _) = []
    rw [if_pos rfl]
  | f + 1, g + 1, i, h1, h2 => by
    show (if i = 0 then [] else _) = (if i = 0 then [] else _)
    by_cases hi : i = 0
    · rw [if_pos hi, if_pos hi]
    · rw [if_neg hi, if_neg hi]
      cases e : wy[i]? with
      | none => rfl
      | some x =>
        have := h i x e (by omega)
        dsimp only
        rw [pth_fuel h f g x.1.toNat (by omega) (by omega)]
def path (wy : List (Int × List Int)) (i : Nat) : List (List Int) := pth wy i i
theorem path_zero (wy : List (Int × List Int)) : path wy 0 = [] := rfl
theorem path_next {wy : List (Int × List Int)} (h : WayOk wy) {i : Nat} {e : Int × List Int} (hi : 0 < i) (he : wy[i]? = some e) : path wy i = path wy e.1.toNat ++ [e.2] := by
  obtain ⟨k, rfl⟩ : ∃ k, i = k + 1 := ⟨i - 1, by omega⟩
  have := h _ e he hi
  show (if k + 1 = 0 then [] else match wy[k + 1]? with | some e => pth wy k e.1.toNat ++ [e.2] | none => []) = _
  rw [if_neg (by omega), he]
  show pth wy k e.1.toNat ++ [e.2] = _
  rw [pth_fuel h k e.1.toNat e.1.toNat (by omega) (Nat.le_refl _)]
  rfl
theorem awRev {α β : Type} {F : α → β → Prop} : ∀ {l : List α} {l2 : List β}, Paired F l l2 → Paired F l.reverse l2.reverse
  | _, _, .nil => .nil
  | _, _, .cons r t => by
    rw [List.reverse_cons, List.reverse_cons]
    exact awSnoc r (awRev t)
def spBt (P : Program) (w : World) (C : Addr) : Sp := fun vs H Q _ => ∃ (p M N W : Addr) (ts : List WT) (wy : List (Int × List Int)) (i : Nat), vs = [.ref p, .int (i : Int)] ∧ WalkAt P w C H p M N W ts wy ∧ i < wy.length ∧ wy.length ≤ 1000000 ∧ WayOk wy ∧
  ∀ H' L bl, Same H H' → H L = none → H' L = some (.lst (bl.map V.ref)) → TAt H' bl (path wy i) → Q (.ref L) H'
set_option maxHeartbeats 1000000 in
theorem ok_bt {f C : Addr} {fd : FuncData} {k : Nat} (F : Fun K "bits_to" "Walk.bits_to" sWalk_bits_to f fd) (T : WCls K mg C) : FnOk P w K mg base CX0 (k + 1) f fd ["self", "number"] (spBt P w C) := by
  refine F.ok scWb (fun vs H Q E h => ?_) (fun cdv A outer s H vs Q E hr h => ?_)
  · obtain ⟨p, M, N, W, ts, wy, i, rfl, _⟩ := h
    rfl
  · obtain ⟨p, M, N, W, ts, wy, i, rfl, hw, hi, hl, wok, q⟩ := h
    refine ⟨_, pss_cons (ps_set (i := 2) scWb.nd rfl (.inl rfl) (pe_lst pa_nil))
      (pss_cons (ps_while PassesOwn.never (pt_cmpR op_gt (pv 1) pe_int (nomark _))
        (pss_cons (ps_asg (pe_ix ix_list (pe_fld (pv 0) rfl) (pv 1) (fun _ _ => rfl)) (pg_tup rfl (pgs_cons (pg_name (i := 1) scWb.nd rfl (.inl rfl)) (pgs_cons (pg_name (i := 3) scWb.nd rfl (.inl rfl)) pgs_nil))))
        (pss_one (ps_expr (pe_bm PySem.F.plainAttrs_list PySem.F.slot_list_append PySem.F.type_list_append mt_append (pv 2) (pa_cons (pv 3) pa_nil))))))
      (pss_one (ps_ret (pe_rev (pv 2) (pe_un un_neg pe_int))))), ?_⟩
    refine ⟨Nat.zero_le _, fun L hL => ?_⟩
    have sL := same_new (o := .lst []) hL
    refine ⟨fun n σ H3 => ∃ (y3 : Option V) (j : Nat) (acc : List (List Int)) (bl : List Addr), n = j ∧ σ = [some (.ref p), some (.int (j : Int)), some (.ref L), y3] ∧ j < wy.length ∧ path wy i = path wy j ++ acc.reverse ∧ acc.length + j ≤ i ∧ H3 L = some (.lst (bl.map V.ref)) ∧ TAt H3 bl acc ∧ Same H H3, ⟨i, none, i, [], [], rfl, rfl, hi, (by rw [List.reverse_nil, List.append_nil]), by simp, upd_same, .nil, sL⟩, fun n σ H3 hp => ?_⟩
    obtain ⟨y3, j, acc, bl, hnj, rfl, hj, hpth, hacc, eL, hbl, s3⟩ := hp
    refine ⟨.int (j : Int), rfl, _, 0, rfl, rfl, _, rfl, ite2 (fun e => ?_) (fun e => ?_)⟩
    · have hj0 : 0 < j := by
        have := of_decide_eq_true e
        omega
      have hw3 := hw.same s3
      obtain ⟨dxw, ob3⟩ := hw3.ob
      obtain ⟨ws, eW, hws⟩ := hw3.ways
      obtain ⟨x, hx, bb, hx2, hx3⟩ := awGet2 hws (List.getElem?_eq_getElem hj)
      have wk := wok j wy[j] (List.getElem?_eq_getElem hj) hj0
      have hat : atI (ws.map V.ref) (j : Int) = some (.ref x) := atI_nat (by rw [List.getElem?_map, hx]; rfl)
      refine ⟨fun σ' H' => ∃ m', m' < n ∧ ∃ (y3 : Option V) (j : Nat) (acc : List (List Int)) (bl : List Addr), m' = j ∧ σ' = [some (.ref p), some (.int (j : Int)), some (.ref L), y3] ∧ j < wy.length ∧ path wy i = path wy j ++ acc.reverse ∧ acc.length + j ≤ i ∧ H' L = some (.lst (bl.map V.ref)) ∧ TAt H' bl acc ∧ Same H H', fun σ' H' h => h, ?_⟩
      refine ⟨.ref p, rfl, p, C, dxw, _, _, rfl, ob3, T.cl, T.nW, wF_ways _ _ _, .int (j : Int), rfl, W, _, (j : Int), .ref x, rfl, rfl, .inl (.inl eW), hat, x, [.int wy[j].1, .ref bb], rfl, .inl (.inl hx2), rfl, .int wy[j].1, [.ref bb], rfl, .ref bb, [], rfl, rfl, ?_⟩
      have lb := awLen hbl
      refine ⟨.ref L, rfl, .inl ⟨rfl, _, .inl (.inl eL)⟩, .ref bb, rfl, L, _, _, rfl, rfl, eL, ?_, wy[j].1.toNat, by omega, some (.ref bb), wy[j].1.toNat, acc ++ [wy[j].2], bl ++ [bb], rfl, ?_, by omega, ?_, ?_, ?_, ?_, ?_⟩
      · rw [List.length_map, sizeLine_eq]
        omega
      · have : ((wy[j].1.toNat : Nat) : Int) = wy[j].1 := by omega
        rw [this]
        rfl
      · rw [hpth, path_next wok hj0 (List.getElem?_eq_getElem hj), List.reverse_append, List.append_assoc]
        rfl
      · rw [List.length_append]
        show acc.length + 1 + _ ≤ i
        omega
      · rw [upd_same, List.map_append]
        rfl
      · exact tat_stay (tups_put eL) (awSnoc (F := fun (f : Addr) (b : List Int) => H3 f = some (.tup (b.map V.int))) hx3 hbl)
      · intro b u z
        rw [upd_ne (ne_of_none z hL)]
        exact s3 _ _ z
    · have hj0 : j = 0 := by
        have : ¬ ((j : Int) > 0) := fun z => e (decide_eq_true z)
        omega
      subst hj0
      rw [path_zero, List.nil_append] at hpth
      refine ⟨.ref L, rfl, _, rfl, L, _, rfl, rfl, .inl (.inl eL), fun Z hZ => ?_⟩
      have sZ := same_new (o := .lst (bl.map V.ref).reverse) hZ
      refine q _ Z bl.reverse (s3.trans sZ) (s3.free hZ) ?_ ?_
      · rw [upd_same, List.map_reverse]
      · rw [hpth]
        exact tat_stay (Same.tups sZ) (awRev hbl)
/-- each state's leader stands at the end of a way of rising ranks -/
structure LdI (ld : List Nat) (rk rf : Nat → Nat) : Prop where
  lt : ∀ i, i < ld.length → ld.getD i 0 < ld.length
  same : ∀ i, i < ld.length → rf (ld.getD i 0) = rf i
  root : ∀ i, i < ld.length → ld.getD i 0 = i → rf i = i
  up : ∀ i, i < ld.length → ld.getD i 0 ≠ i → rk i < rk (ld.getD i 0)
  rfl : ∀ i, i < ld.length → rf i < ld.length
  rfr : ∀ i, i < ld.length → ld.getD (rf i) 0 = rf i
theorem LdI.rr {ld : List Nat} {rk rf : Nat → Nat} (h : LdI ld rk rf) {i : Nat} (hi : i < ld.length) : rf (rf i) = rf i := h.root _ (h.rfl i hi) (h.rfr i hi)
theorem getD_set {ld : List Nat} {s v i : Nat} (hs : s < ld.length) : (ld.set s v).getD i 0 = if i = s then v else ld.getD i 0 := by
  rw [List.getD_eq_getElem?_getD, List.getElem?_set]
  by_cases h : s = i
  · subst h
    rw [if_pos rfl, if_pos hs, if_pos rfl]
    rfl
  · rw [if_neg h, if_neg (fun z => h z.symm), List.getD_eq_getElem?_getD]
/-- a way made shorter -/
theorem LdI.half {ld : List Nat} {rk rf : Nat → Nat} (h : LdI ld rk rf) {s : Nat} (hs : s < ld.length) (ne : ld.getD s 0 ≠ s) : LdI (ld.set s (ld.getD (ld.getD s 0) 0)) rk rf := by
  obtain ⟨g, hg⟩ : ∃ g, g = ld.getD s 0 := ⟨_, Eq.refl _⟩
  rw [← hg] at ne ⊢
  have gl : g < ld.length := by rw [hg]; exact h.lt s hs
  have u1 : rk s < rk g := by
    have := h.up s hs (by rw [← hg]; exact ne)
    rw [← hg] at this
    exact this
  have u2 : rk s < rk (ld.getD g 0) := by
    by_cases z : ld.getD g 0 = g
    · rw [z]
      exact u1
    · have := h.up g gl z
      omega
  have fs : rf (ld.getD g 0) = rf s := by
    rw [h.same g gl, hg]
    exact h.same s hs
  have len : (ld.set s (ld.getD g 0)).length = ld.length := List.length_set ..
  refine ⟨fun i hi => ?_, fun i hi => ?_, fun i hi e => ?_, fun i hi e => ?_, fun i hi => ?_, fun i hi => ?_⟩ <;> rw [len] at hi
  · rw [getD_set hs, len]
    split
    · exact h.lt g gl
    · exact h.lt i hi
  · rw [getD_set hs]
    split
    · next z => rw [fs, z]
    · exact h.same i hi
  · rw [getD_set hs] at e
    split at e
    · next z =>
      rw [z] at e
      rw [e] at u2
      omega
    · exact h.root i hi e
  · rw [getD_set hs] at e ⊢
    split
    · next z =>
      rw [z]
      exact u2
    · next z =>
      rw [if_neg z] at e
      exact h.up i hi e
  · rw [len]
    exact h.rfl i hi
  · rw [getD_set hs]
    split
    · next z =>
      exfalso
      have := h.rfr i hi
      rw [z] at this
      exact ne (hg.trans this)
    · exact h.rfr i hi
/-- two leaders joined -/
theorem LdI.join {ld : List Nat} {rk rf : Nat → Nat} (h : LdI ld rk rf) {x y : Nat} (hx : x < ld.length) (hy : y < ld.length) (ne : rf x ≠ rf y) :
    LdI (ld.set (rf y) (rf x)) (fun i => if i = rf x then max (rk (rf x)) (rk (rf y)) + 1 else rk i) (fun i => if rf i = rf y then rf x else rf i) := by
  have lx := h.rfl x hx
  have ly := h.rfl y hy
  have rx := h.rfr x hx
  have ry := h.rfr y hy
  have rrx := h.rr hx
  have rry := h.rr hy
  have len : (ld.set (rf y) (rf x)).length = ld.length := List.length_set ..
  refine ⟨fun i hi => ?_, fun i hi => ?_, fun i hi e => ?_, fun i hi e => ?_, fun i hi => ?_, fun i hi => ?_⟩ <;> rw [len] at hi
  · rw [getD_set ly, len]
    split
    · exact lx
    · exact h.lt i hi
  · rw [getD_set ly]
    by_cases z : i = rf y
    · rw [if_pos z]
      show (if rf (rf x) = rf y then rf x else rf (rf x)) = if rf i = rf y then rf x else rf i
      rw [rrx, if_neg ne, z, rry, if_pos (Eq.refl _)]
    · rw [if_neg z]
      show (if rf (ld.getD i 0) = rf y then rf x else rf (ld.getD i 0)) = if rf i = rf y then rf x else rf i
      rw [h.same i hi]
  · rw [getD_set ly] at e
    by_cases z : i = rf y
    · rw [if_pos z] at e
      exact absurd (e.trans z) ne
    · rw [if_neg z] at e
      have r := h.root i hi e
      show (if rf i = rf y then rf x else rf i) = i
      rw [if_neg (fun w => z (r.symm.trans w)), r]
  · rw [getD_set ly] at e ⊢
    by_cases z : i = rf y
    · rw [if_pos z, if_pos (Eq.refl _), if_neg (fun w => ne (w.symm.trans z)), z]
      omega
    · rw [if_neg z] at e ⊢
      have u := h.up i hi e
      have nx : i ≠ rf x := fun w => by
        rw [w] at e
        exact e rx
      rw [if_neg nx]
      split
      · next w =>
        rw [w] at u
        omega
      · exact u
  · rw [len]
    show (if rf i = rf y then rf x else rf i) < _
    split
    · exact lx
    · exact h.rfl i hi
  · show (ld.set (rf y) (rf x)).getD (if rf i = rf y then rf x else rf i) 0 = if rf i = rf y then rf x else rf i
    rw [getD_set ly]
    by_cases z : rf i = rf y
    · rw [if_pos z, if_neg ne]
      exact rx
    · rw [if_neg z, if_neg z]
      exact h.rfr i hi
abbrev ldV (ld : List Nat) : List V := ld.map fun (n : Nat) => V.int (n : Int)
theorem ld_at {ld : List Nat} {i : Nat} (h : i < ld.length) : atI (ldV ld) (i : Int) = some (.int ((ld.getD i 0 : Nat) : Int)) := atI_nat (by rw [List.getElem?_map, List.getElem?_eq_getElem h, List.getD_eq_getElem?_getD, List.getElem?_eq_getElem h]; rfl)
theorem ld_set {ld : List Nat} {i v : Nat} : (ldV ld).set i (.int (v : Int)) = ldV (ld.set i v) := by
  show (ld.map _).set i _ = (ld.set i v).map _
  rw [List.map_set]
theorem ixN_nat {n i : Nat} (h : i < n) : ixN n (i : Int) = some i := by
  unfold ixN
  rw [if_pos (by omega), if_pos (by omega)]
  rfl
/-- all but the leaders stands as it stood; ranks have a bound -/
theorem rk_bound (rk : Nat → Nat) : ∀ n : Nat, ∃ B : Nat, ∀ i, i < n → rk i < B
  | 0 => ⟨0, fun i h => absurd h (Nat.not_lt_zero _)⟩
  | n + 1 => by
    obtain ⟨B, h⟩ := rk_bound rk n
    refine ⟨max B (rk n + 1), fun i hi => ?_⟩
    by_cases e : i = n
    · subst e
      omega
    · have := h i (by omega)
      omega
def spLd : Sp := fun vs H Q _ => ∃ (L : Addr) (s : Nat) (ld : List Nat) (rk rf : Nat → Nat), vs = [.ref L, .int (s : Int)] ∧ H L = some (.lst (ldV ld)) ∧ LdI ld rk rf ∧ s < ld.length ∧
  ∀ ld', LdI ld' rk rf → ld'.length = ld.length → Q (.int ((rf s : Nat) : Int)) (upd H L (.lst (ldV ld')))
theorem ok_ld {f : Addr} {fd : FuncData} {k : Nat} (F : Fun K "leader_of" "leader_of" s_leader_of f fd) : FnOk P w K mg base CX0 (k + 1) f fd ["leaders", "state"] spLd := by
  refine F.ok sc_leader_of (fun vs H Q E h => ?_) (fun cdv A outer s H vs Q E hr h => ?_)
  · obtain ⟨L, s, ld, rk, rf, rfl, _⟩ := h
    rfl
  · obtain ⟨L, s, ld, rk, rf, rfl, eL, li, hs, q⟩ := h
    refine ⟨_, pss_cons (ps_while PassesOwn.never (pt_cmpR op_ne (pe_ix ix_list (pv 0) (pv 1) (fun _ _ => rfl)) (pv 1) (nomark _))
    (pss_cons (ps_asg (pe_ix ix_list (pv 0) (pe_ix ix_list (pv 0) (pv 1) (fun _ _ => rfl)) (fun _ _ => rfl)) (pg_sub (pv 0) (pv 1) set_list))
    (pss_one (ps_set (i := 1) sc_leader_of.nd rfl (.inl rfl) (pe_ix ix_list (pv 0) (pv 1) (fun _ _ => rfl))))))
    (pss_one (ps_ret (pv 1))), ?_⟩
    obtain ⟨B, hB⟩ := rk_bound rk ld.length
    have e0 : H = upd H L (.lst (ldV ld)) := by
      funext b
      by_cases z : b = L
      · rw [z, upd_same, eL]
      · rw [upd_ne z]
    refine ⟨fun n σ H3 => ∃ (t : Nat) (ld' : List Nat), σ = [some (.ref L), some (.int (t : Int))] ∧ H3 = upd H L (.lst (ldV ld')) ∧ LdI ld' rk rf ∧ ld'.length = ld.length ∧ t < ld.length ∧ rf t = rf s ∧ n = B - rk t, ⟨_, s, ld, rfl, e0, li, rfl, hs, rfl, rfl⟩, fun n σ H3 hp => ?_⟩
    obtain ⟨t, ld', rfl, rfl, li', ll, tl, rt, rfl⟩ := hp
    have tl' : t < ld'.length := by omega
    have gl := li'.lt t tl'
    refine ⟨.ref L, rfl, .int (t : Int), rfl, L, _, (t : Int), _, rfl, rfl, .inl (.inl upd_same), ld_at tl', .int (t : Int), rfl, rfl, _, rfl, ite2 (fun e => ?_) (fun e => ?_)⟩
    · have ne : ld'.getD t 0 ≠ t := fun z => by
        rw [z] at e
        simp at e
      refine ⟨fun σ' H' => ∃ m', m' < B - rk t ∧ (∃ (t : Nat) (ld' : List Nat), σ' = [some (.ref L), some (.int (t : Int))] ∧ H' = upd H L (.lst (ldV ld')) ∧ LdI ld' rk rf ∧ ld'.length = ld.length ∧ t < ld.length ∧ rf t = rf s ∧ m' = B - rk t), fun σ' H' z => z, ?_⟩
      have gl2 := li'.lt _ gl
      refine ⟨.ref L, rfl, .ref L, rfl, .int (t : Int), rfl, L, _, (t : Int), _, rfl, rfl, .inl (.inl upd_same), ld_at tl', L, _, ((ld'.getD t 0 : Nat) : Int), _, rfl, rfl, .inl (.inl upd_same), ld_at gl, ?_⟩
      refine ⟨.ref L, rfl, .int (t : Int), rfl, L, _, (t : Int), t, rfl, rfl, upd_same, ixN_nat (by rw [List.length_map]; exact tl'), ?_⟩
      rw [ld_set]
      have eu : upd (upd H L (.lst (ldV ld'))) L (.lst (ldV (ld'.set t (ld'.getD (ld'.getD t 0) 0)))) = upd H L (.lst (ldV (ld'.set t (ld'.getD (ld'.getD t 0) 0)))) := by
        funext b
        by_cases z : b = L
        · rw [z, upd_same, upd_same]
        · rw [upd_ne z, upd_ne z, upd_ne z]
      rw [eu]
      have lh := li'.half tl' ne
      have hl : (ld'.set t (ld'.getD (ld'.getD t 0) 0)).length = ld'.length := List.length_set ..
      have ev : (ld'.set t (ld'.getD (ld'.getD t 0) 0)).getD t 0 = ld'.getD (ld'.getD t 0) 0 := by rw [getD_set tl', if_pos rfl]
      refine ⟨.ref L, rfl, .int (t : Int), rfl, L, _, (t : Int), _, rfl, rfl, .inl (.inl upd_same), ld_at (by rw [hl]; exact tl'), ?_⟩
      rw [ev]
      have u1 := li'.up t tl' ne
      have u2 : rk t < rk (ld'.getD (ld'.getD t 0) 0) := by
        by_cases z : ld'.getD (ld'.getD t 0) 0 = ld'.getD t 0
        · rw [z]
          exact u1
        · have := li'.up _ gl z
          omega
      have b2 := hB (ld'.getD (ld'.getD t 0) 0) (by omega)
      exact ⟨B - rk (ld'.getD (ld'.getD t 0) 0), by omega, _, _, rfl, rfl, lh, by omega, by omega, by rw [li'.same _ gl, li'.same _ tl', rt], rfl⟩
    · have ee : ld'.getD t 0 = t := by
        false_or_by_contra
        rename_i ne
        apply e
        rw [decide_eq_false (p := V.int ((ld'.getD t 0 : Nat) : Int) = V.int (t : Int)) (fun z => ne (Int.ofNat.inj (V.int.inj z)))]
        rfl
      refine ⟨.int (t : Int), rfl, ?_⟩
      rw [← li'.root t tl' ee, rt]
      exact q ld' li' ll
def spJn : Sp := fun vs H Q _ => ∃ (L : Addr) (x y : Nat) (ld : List Nat) (rk rf : Nat → Nat), vs = [.ref L, .int (x : Int), .int (y : Int)] ∧ H L = some (.lst (ldV ld)) ∧ LdI ld rk rf ∧ x < ld.length ∧ y < ld.length ∧
  (rf x = rf y → ∀ ld', LdI ld' rk rf → ld'.length = ld.length → Q (.bl false) (upd H L (.lst (ldV ld')))) ∧
  (rf x ≠ rf y → ∀ ld' rk', LdI ld' rk' (fun i => if rf i = rf y then rf x else rf i) → ld'.length = ld.length → Q (.bl true) (upd H L (.lst (ldV ld'))))
theorem upd_upd {H : Hp} {L : Addr} {o u : HO} : upd (upd H L o) L u = upd H L u := by
  funext b
  by_cases z : b = L
  · rw [z, upd_same, upd_same]
  · rw [upd_ne z, upd_ne z, upd_ne z]
theorem set_self {ld : List Nat} {i : Nat} (h : ld.getD i 0 = i) (hi : i < ld.length) : ld.set i i = ld := by
  refine List.ext_getElem? fun j => ?_
  rw [List.getElem?_set]
  by_cases z : i = j
  · subst z
    rw [if_pos rfl, if_pos hi]
    rw [List.getD_eq_getElem?_getD, List.getElem?_eq_getElem hi] at h
    rw [List.getElem?_eq_getElem hi]
    exact congrArg some h.symm
  · rw [if_neg z]
theorem ok_jn {f fL : Addr} {fd fdL : FuncData} {k : Nat} (F : Fun K "join_states" "join_states" s_join_states f fd)
    (GL : FnOk P w K mg base CX0 (k + 1) fL fdL ["leaders", "state"] spLd) (kL : PySem.W.keepIn K (.ref fL) = true) (bL : Binds K fdL ["leaders", "state"] []) (gL : mg "leader_of" = some (.ref fL)) : FnOk P w K mg base CX0 (k + 2) f fd ["leaders", "one", "other"] spJn := by
  refine F.ok sc_join_states (fun vs H Q E h => ?_) (fun cdv A outer s H vs Q E hr h => ?_)
  · obtain ⟨L, x, y, ld, rk, rf, rfl, _⟩ := h
    rfl
  · obtain ⟨L, x, y, ld, rk, rf, rfl, eL, li, hx, hy, q1, q2⟩ := h
    refine ⟨_, pss_cons (ps_set (i := 1) sc_join_states.nd rfl (.inl rfl) (pe_call GL hr (by rfl) gL kL bL .nil pass0 (pa_cons (pv 0) (pa_cons (pv 1) pa_nil))))
    (pss_cons (ps_set (i := 2) sc_join_states.nd rfl (.inl rfl) (pe_call GL hr (by rfl) gL kL bL .nil pass0 (pa_cons (pv 0) (pa_cons (pv 2) pa_nil))))
    (pss_cons (ps_asg (pv 1) (pg_sub (pv 0) (pv 2) set_list))
    (pss_one (ps_ret (pe_cmpR op_ne (pv 1) (pv 2) (nomark _)))))), ?_⟩
    refine ⟨.ref L, rfl, .int (x : Int), rfl, L, x, ld, rk, rf, rfl, eL, li, hx, fun l1 li1 n1 => ?_⟩
    refine ⟨.ref L, rfl, .int (y : Int), rfl, L, y, l1, rk, rf, rfl, upd_same, li1, by omega, fun l2 li2 n2 => ?_⟩
    rw [upd_upd]
    have ly := li2.rfl y (by omega)
    refine ⟨.int ((rf x : Nat) : Int), rfl, .ref L, rfl, .int ((rf y : Nat) : Int), rfl, L, _, _, rf y, rfl, rfl, upd_same, ixN_nat (by rw [List.length_map]; exact ly), ?_⟩
    rw [ld_set, upd_upd]
    refine ⟨.int ((rf x : Nat) : Int), rfl, .int ((rf y : Nat) : Int), rfl, rfl, ?_⟩
    by_cases e : rf x = rf y
    · rw [e, set_self (li2.rfr y (by omega)) ly, decide_eq_true rfl]
      exact q1 e l2 li2 (by omega)
    · rw [decide_eq_false (p := V.int ((rf x : Nat) : Int) = V.int ((rf y : Nat) : Int)) (fun z => e (Int.ofNat.inj (V.int.inj z)))]
      exact q2 e _ _ (li2.join (by omega) (by omega) e) (by rw [List.length_set]; omega)
theorem kC_at {H : Hp} {v : V} {c : List Int} (h : NkAt H (kC c) v) : ∃ A, v = .ref A ∧ H A = some (.tup (c.map V.int)) := by
  unfold kC at h
  cases h with
  | tup e hs => exact ⟨_, rfl, by rw [← nks_eq hs]; exact e⟩
theorem neT {x y : Int} (h : (!decide (V.int x = V.int y)) = true) : ¬ x = y := fun e => by
  rw [decide_eq_true (congrArg V.int e)] at h
  cases h
theorem neF {x y : Int} (h : ¬ (!decide (V.int x = V.int y)) = true) : x = y := by
  by_cases e : x = y
  · exact e
  · exfalso
    apply h
    rw [decide_eq_false (fun z => e (V.int.inj z))]
    rfl
theorem pth_le (wy : List (Int × List Int)) : ∀ f i, (pth wy f i).length ≤ f
  | 0, _ => Nat.le_refl _
  | f + 1, i => by
    show (if i = 0 then [] else match wy[i]? with | some e => pth wy f e.1.toNat ++ [e.2] | none => []).length ≤ _
    by_cases h : i = 0
    · rw [if_pos h]; exact Nat.zero_le _
    · rw [if_neg h]
      cases wy[i]? with
      | none => exact Nat.zero_le _
      | some e =>
        dsimp only
        rw [List.length_append]
        have := pth_le wy f e.1.toNat
        show _ + 1 ≤ _
        omega
abbrev Bst := (Int × Int) × (Int × Int)
def BsE (H : Hp) (t : Addr) (e : Bst) : Prop := ∃ c, H t = some (.tup [.int e.1.1, .int e.2.1, .ref c]) ∧ H c = some (.tup [.int e.1.2, .int e.2.2])
abbrev BsAt (H : Hp) : List Addr → List Bst → Prop := Paired (BsE H)
theorem bse_stay {H H' : Hp} (t : TupsStay H H') {a : Addr} {e : Bst} (h : BsE H a e) : BsE H' a e := h.elim fun c y => ⟨c, t _ _ y.1, t _ _ y.2⟩
theorem bsat_stay {H H' : Hp} (t : TupsStay H H') {ts : List Addr} {l : List Bst} (h : BsAt H ts l) : BsAt H' ts l := awMap (fun _ _ z => bse_stay t z) h
def spBs : Sp := fun vs H Q _ => ∃ (l1 l2 : Addr) (r1 r2 : MRow), vs = [.ref l1, .ref l2] ∧ RowL H l1 r1 ∧ RowL H l2 r2 ∧ r1.length = r2.length ∧ r1.length ≤ 8 ∧
  ∀ H' p ts, Same H H' → H p = none → H' p = some (.lst (ts.map V.ref)) → BsAt H' ts (r1.zip r2) → Q (.ref p) H'
theorem ok_bs {f : Addr} {fd : FuncData} {k : Nat} (F : Fun K "both_steps" "both_steps" s_both_steps f fd) (mz : mg "zip" = none) : FnOk P w K mg base CX0 (k + 1) f fd ["ones", "others"] spBs := by
  refine F.ok sc_both_steps (fun vs H Q E h => ?_) (fun cdv A outer s H vs Q E hr h => ?_)
  · obtain ⟨l1, l2, r1, r2, rfl, _⟩ := h
    rfl
  · obtain ⟨l1, l2, r1, r2, rfl, ⟨qs1, e1, h1⟩, ⟨qs2, e2, h2⟩, hl, h8, q⟩ := h
    refine ⟨_, pss_one (ps_ret (pe_lc (own := [("bit", 2), ("after", 3), ("others_bit", 4), ("others_after", 5)]) (g := gTup K 2 (gCons (gTup K 2 (gCons (gName 2) (gCons (gName 3) gNil))) (gCons (gTup K 2 (gCons (gName 4) (gCons (gName 5) gNil))) gNil))) (by rfl) sc_both_steps.nd (pi_zip (by rfl) mz (pa_cons (pv 0) (pa_cons (pv 1) pa_nil)))
        (blkOk_by (own := [("bit", 2), ("after", 3), ("others_bit", 4), ("others_after", 5)]) (N := N_both_steps) (sc := defScope s_both_steps) (by decide +kernel))
        (fun _ _ _ _ _ => pg_tup rfl (pgs_cons (pg_tup rfl (pgs_cons (pg_name (i := 2) sc_both_steps.nd rfl (.inl rfl)) (pgs_cons (pg_name (i := 3) sc_both_steps.nd rfl (.inl rfl)) pgs_nil))) (pgs_cons (pg_tup rfl (pgs_cons (pg_name (i := 4) sc_both_steps.nd rfl (.inl rfl)) (pgs_cons (pg_name (i := 5) sc_both_steps.nd rfl (.inl rfl)) pgs_nil))) pgs_nil)))
        (fun _ _ _ _ _ => pts_nil) (fun _ _ _ _ _ => pe_tup (pa_cons (pv 2) (pa_cons (pv 4) (pa_cons (pe_tup (pa_cons (pv 3) (pa_cons (pv 5) pa_nil))) pa_nil)))))), ?_⟩
    have q1 := awLen h1
    have q2 := awLen h2
    refine ⟨.ref l1, rfl, .ref l2, rfl, l1, l2, _, _, rfl, .inl (.inl e1), .inl (.inl e2), fun L hL => ?_⟩
    refine lc_it (walk_zip (K := K) (a := l1) (b := l2) (xs := qs1.map V.ref) (ys := qs2.map V.ref) (n := r1.length) (by rw [List.length_map, List.length_map, q1, q2, ← hl, Nat.min_self])) (fun j H4 => ∃ ts, H4 L = some (.lst (ts.map V.ref)) ∧ BsAt H4 ts ((r1.zip r2).take j) ∧ Same H H4) ⟨[], upd_same, .nil, same_new hL⟩ (fun j H4 _ h4 => ?_) (fun j x H4 H5 hj h4 hx => ?_) (fun H4 h4 => ?_)
    · obtain ⟨_, _, _, s4⟩ := h4
      exact ⟨.inl (.inl (s4 _ _ e1)), .inl (.inl (s4 _ _ e2))⟩
    · obtain ⟨ts, eL, hts, s4⟩ := h4
      obtain ⟨U, x1, x2, rfl, hU, rfl, g1, g2⟩ := hx
      have hj1 : j < qs1.length := by omega
      have hj2 : j < qs2.length := by omega
      have e1' : x1 = .ref qs1[j] := by
        have g1' : (qs1.map V.ref)[j]? = some x1 := g1
        rw [List.getElem?_map, List.getElem?_eq_getElem hj1] at g1'
        exact (Option.some.inj g1').symm
      have e2' : x2 = .ref qs2[j] := by
        have g2' : (qs2.map V.ref)[j]? = some x2 := g2
        rw [List.getElem?_map, List.getElem?_eq_getElem hj2] at g2'
        exact (Option.some.inj g2').symm
      subst e1' e2'
      obtain ⟨a, ha1, ha2⟩ := awGet h1 (List.getElem?_eq_getElem hj1)
      obtain ⟨b, hb1, hb2⟩ := awGet h2 (List.getElem?_eq_getElem hj2)
      have sU := same_new (o := .tup [.ref qs1[j], .ref qs2[j]]) hU
      have f1 := sU _ _ (s4 _ _ ha2)
      have f2 := sU _ _ (s4 _ _ hb2)
      refine ⟨U, [.ref qs1[j], .ref qs2[j]], rfl, .inl (.inl upd_same), rfl, .ref qs1[j], [.ref qs2[j]], rfl, qs1[j], [.int a.1, .int a.2], rfl, .inl (.inl f1), rfl, .int a.1, [.int a.2], rfl, .int a.2, [], rfl, rfl, .ref qs2[j], [], rfl, qs2[j], [.int b.1, .int b.2], rfl, .inl (.inl f2), rfl, .int b.1, [.int b.2], rfl, .int b.2, [], rfl, rfl, rfl, rfl, ?_⟩
      refine ⟨.int a.1, rfl, .int b.1, rfl, .int a.2, rfl, .int b.2, rfl, (by show 2 ≤ sizeLine; decide), fun C hC => ⟨(by show 3 ≤ sizeLine; decide), fun T hT => ?_⟩⟩
      have sC := same_new (o := .tup [.int a.2, .int b.2]) hC
      have sT := same_new (o := .tup [.int a.1, .int b.1, .ref C]) hT
      have s5 := sU.trans (sC.trans sT)
      have eL5 := s5 _ _ eL
      have lt := awLen hts
      rw [List.length_take] at lt
      have hz : (r1.zip r2)[j]? = some (a, b) := by
        rw [List.getElem?_zip_eq_some]
        exact ⟨ha1, hb1⟩
      refine ⟨_, eL5, ?_, ts ++ [T], ?_, ?_, ?_⟩
      · rw [List.length_map]
        exact small1000 (by omega)
      · rw [upd_same, List.map_append]
        rfl
      · rw [List.take_add_one, hz]
        exact bsat_stay (tups_put eL5) (awSnoc (F := BsE _) (y := (a, b)) ⟨C, upd_same, sT _ _ upd_same⟩ (bsat_stay (Same.tups s5) hts))
      · intro b' u e
        rw [upd_ne (ne_of_none e hL)]
        exact s5 _ _ (s4 _ _ e)
    · obtain ⟨ts, eL, hts, s4⟩ := h4
      have : (r1.zip r2).length = r1.length := by rw [List.length_zip, ← hl, Nat.min_self]
      rw [← this, List.take_length] at hts
      exact q H4 L ts s4 hL eL hts
theorem allB_nd : ∀ {m : Nat}, m ≤ 3 → (allB m).Nodup
  | 0, _ => by decide
  | 1, _ => by decide
  | 2, _ => by decide
  | 3, _ => by decide
  | _ + 4, h => absurd h (by omega)
structure MxOk (m : Nat) (mac : List MRow) : Prop where
  m3 : m ≤ 3
  pos : 0 < mac.length
  few : mac.length ≤ 256
  rows : ∀ row ∈ mac, row.length = 2 ^ m
  ends : ∀ row ∈ mac, ∀ e ∈ row, ∃ j : Nat, e.2 = (j : Int) ∧ j < mac.length
/-- what a state tells by bits, and the state behind -/
def entM (mac : List MRow) (k : Nat) (bs : List Int) : Int × Int := (mac.getD k []).getD (atb bs).toNat (0, 0)
abbrev nxM (mac : List MRow) (k : Nat) (bs : List Int) : Nat := (entM mac k bs).2.toNat
def outM (mac : List MRow) : Nat → List (List Int) → List Int
  | _, [] => []
  | k, b :: bs => (entM mac k b).1 :: outM mac (nxM mac k b) bs
def runM (mac : List MRow) (k : Nat) (bs : List (List Int)) : Nat := bs.foldl (nxM mac) k
theorem outM_snoc {mac : List MRow} {b : List Int} : ∀ {bs : List (List Int)} {k : Nat}, outM mac k (bs ++ [b]) = outM mac k bs ++ [(entM mac (runM mac k bs) b).1]
  | [], k => rfl
  | c :: bs, k => by
    show (entM mac k c).1 :: outM mac (nxM mac k c) (bs ++ [b]) = _
    rw [outM_snoc (bs := bs)]
    rfl
theorem runM_snoc {mac : List MRow} {b : List Int} {bs : List (List Int)} {k : Nat} : runM mac k (bs ++ [b]) = nxM mac (runM mac k bs) b := by
  unfold runM
  rw [List.foldl_append]
  rfl
theorem MxOk.ent {m : Nat} {mac : List MRow} (ok : MxOk m mac) {k t : Nat} {bs : List Int} {row : MRow} (hk : mac[k]? = some row) (hb : (allB m)[t]? = some bs) : row[t]? = some (entM mac k bs) := by
  have hbm := allB_ok m bs (List.mem_of_getElem? hb)
  obtain ⟨j, j1, j2⟩ := allB_at m bs hbm.1 hbm.2
  have e : j = t := by
    have nd : (allB m).Nodup := allB_nd ok.m3
    exact nd_idx nd j2 hb
  subst e
  have rl := ok.rows row (List.mem_of_getElem? hk)
  have jl := (List.getElem?_eq_some_iff.mp hb).1
  rw [allB_len] at jl
  unfold entM
  rw [j1, Int.toNat_natCast, List.getD_eq_getElem?_getD, List.getD_eq_getElem?_getD, hk]
  show row[j]? = some ((row[j]?).getD (0, 0))
  rw [List.getElem?_eq_getElem (by omega)]
  rfl
theorem MxOk.nx {m : Nat} {mac : List MRow} (ok : MxOk m mac) {k : Nat} {bs : List Int} (hk : k < mac.length) (hb : bs ∈ allB m) : (entM mac k bs).2 = ((nxM mac k bs : Nat) : Int) ∧ nxM mac k bs < mac.length := by
  obtain ⟨t, ht⟩ := List.mem_iff_getElem?.mp hb
  have hr : mac[k]? = some mac[k] := List.getElem?_eq_getElem hk
  have e := ok.ent hr ht
  obtain ⟨j, j1, j2⟩ := ok.ends _ (List.mem_of_getElem? hr) _ (List.mem_of_getElem? e)
  show _ = (((entM mac k bs).2.toNat : Nat) : Int) ∧ (entM mac k bs).2.toNat < _
  rw [j1, Int.toNat_natCast]
  exact ⟨rfl, j2⟩
inductive EqG (ps : List (Nat × Nat)) : Nat → Nat → Prop
  | rfl (i : Nat) : EqG ps i i
  | of {q : Nat × Nat} (h : q ∈ ps) : EqG ps q.1 q.2
  | symm {i j : Nat} (h : EqG ps i j) : EqG ps j i
  | trans {i j k : Nat} (h : EqG ps i j) (h' : EqG ps j k) : EqG ps i k
theorem EqG.mono {ps ps' : List (Nat × Nat)} (s : ∀ q ∈ ps, q ∈ ps') {i j : Nat} (h : EqG ps i j) : EqG ps' i j := by
  induction h with
  | rfl i => exact .rfl i
  | of h => exact .of (s _ h)
  | symm _ ih => exact .symm ih
  | trans _ _ ih1 ih2 => exact .trans ih1 ih2
abbrev nxP (mac : List MRow) (q : Nat × Nat) (bs : List Int) : Nat × Nat := (nxM mac q.1 bs, nxM mac q.2 bs)
abbrev agr (mac : List MRow) (rf : Nat → Nat) (q : Nat × Nat) (bs : List Int) : Prop := (entM mac q.1 bs).1 = (entM mac q.2 bs).1 ∧ rf (nxM mac q.1 bs) = rf (nxM mac q.2 bs)
structure PtI (m : Nat) (mac : List MRow) (one other : Nat) (rf : Nat → Nat) (ps : List (Nat × Nat)) (wy : List (Int × List Int)) (cu : Nat) : Prop where
  first : ps[0]? = some (one, other)
  ways : WayOk wy
  len : wy.length = ps.length
  bnd : ∀ q ∈ ps, q.1 < mac.length ∧ q.2 < mac.length
  link : ∀ (j : Nat) e, wy[j]? = some e → 0 < j → e.2 ∈ allB m ∧ ∃ q, ps[e.1.toNat]? = some q ∧ ps[j]? = some (nxP mac q e.2) ∧ (entM mac q.1 e.2).1 = (entM mac q.2 e.2).1
  done : ∀ (i : Nat) q, i < cu → ps[i]? = some q → ∀ bs ∈ allB m, agr mac rf q bs
  joined : ∀ q ∈ ps, rf q.1 = rf q.2
  gen : ∀ i j, i < mac.length → j < mac.length → rf i = rf j → EqG ps i j
structure PtB (m : Nat) (mac : List MRow) (one other : Nat) (rf : Nat → Nat) (ps : List (Nat × Nat)) (wy : List (Int × List Int)) (cu k : Nat) (q : Nat × Nat) : Prop where
  i : PtI m mac one other rf ps wy cu
  here : ps[cu]? = some q
  some : ∀ bs ∈ (allB m).take k, agr mac rf q bs
variable {m : Nat} {mac : List MRow} {one other cu k : Nat} {rf : Nat → Nat} {ps : List (Nat × Nat)} {wy : List (Int × List Int)} {q : Nat × Nat} {bs : List Int}
theorem PtB.first (h : PtI m mac one other rf ps wy cu) (hq : ps[cu]? = .some q) : PtB m mac one other rf ps wy cu 0 q := ⟨h, hq, fun _ z => by rw [List.take_zero] at z; cases z⟩
theorem PtB.old (h : PtB m mac one other rf ps wy cu k q) (hb : (allB m)[k]? = .some bs) (a : agr mac rf q bs) : PtB m mac one other rf ps wy cu (k + 1) q := ⟨h.i, h.here, fun b hb' => by
  rw [List.take_add_one, hb] at hb'
  rcases List.mem_append.mp hb' with z | z
  · exact h.some b z
  · have e : b = bs := by simpa using z
    rw [e]
    exact a⟩
theorem PtB.new (h : PtB m mac one other rf ps wy cu k q) (ok : MxOk m mac) (hb : (allB m)[k]? = .some bs) (e : (entM mac q.1 bs).1 = (entM mac q.2 bs).1) (ne : rf (nxM mac q.1 bs) ≠ rf (nxM mac q.2 bs)) :
    PtB m mac one other (fun i => if rf i = rf (nxM mac q.2 bs) then rf (nxM mac q.1 bs) else rf i) (ps ++ [nxP mac q bs]) (wy ++ [((cu : Int), bs)]) cu (k + 1) q := by
  have hq := h.i.bnd q (List.mem_of_getElem? h.here)
  have hbm := List.mem_of_getElem? hb
  have n1 := (ok.nx hq.1 hbm).2
  have n2 := (ok.nx hq.2 hbm).2
  have cl := (List.getElem?_eq_some_iff.mp h.here).1
  have wl := h.i.len
  have pl : (ps ++ [nxP mac q bs]).length = ps.length + 1 := by rw [List.length_append]; rfl
  have lift : ∀ {i : Nat} {r : Nat × Nat}, ps[i]? = .some r → (ps ++ [nxP mac q bs])[i]? = .some r := fun {i r} z => by rw [List.getElem?_append_left (List.getElem?_eq_some_iff.mp z).1]; exact z
  have coarse : ∀ i j, rf i = rf j → (if rf i = rf (nxM mac q.2 bs) then rf (nxM mac q.1 bs) else rf i) = if rf j = rf (nxM mac q.2 bs) then rf (nxM mac q.1 bs) else rf j := fun i j z => by rw [z]
  have now : (if rf (nxM mac q.1 bs) = rf (nxM mac q.2 bs) then rf (nxM mac q.1 bs) else rf (nxM mac q.1 bs)) = if rf (nxM mac q.2 bs) = rf (nxM mac q.2 bs) then rf (nxM mac q.1 bs) else rf (nxM mac q.2 bs) := by rw [if_neg ne, if_pos rfl]
  have up : ∀ r ∈ ps, r ∈ ps ++ [nxP mac q bs] := fun r hr => List.mem_append_left _ hr
  have last : EqG (ps ++ [nxP mac q bs]) (nxM mac q.1 bs) (nxM mac q.2 bs) := .of (q := nxP mac q bs) (List.mem_append_right _ List.mem_cons_self)
  refine ⟨⟨lift h.i.first, fun j x hj h0 => ?_, by rw [List.length_append, pl, wl]; rfl, fun r hr => ?_, fun j x hj h0 => ?_, fun i r hi hr b hb' => ?_, fun r hr => ?_, fun i j hi hj hij => ?_⟩, lift h.here, fun b hb' => ?_⟩
  · by_cases hl : j < wy.length
    · rw [List.getElem?_append_left hl] at hj
      exact h.i.ways j x hj h0
    · rw [List.getElem?_append_right (by omega)] at hj
      have := (List.getElem?_eq_some_iff.mp hj).1
      simp only [List.length_cons, List.length_nil] at this
      rw [show j - wy.length = 0 by omega] at hj
      obtain rfl := Option.some.inj hj
      exact ⟨by omega, by omega⟩
  · rcases List.mem_append.mp hr with z | z
    · exact h.i.bnd r z
    · rw [List.mem_singleton.mp z]
      exact ⟨n1, n2⟩
  · by_cases hl : j < wy.length
    · rw [List.getElem?_append_left hl] at hj
      obtain ⟨a, r, b, c, d⟩ := h.i.link j x hj h0
      exact ⟨a, r, lift b, lift c, d⟩
    · rw [List.getElem?_append_right (by omega)] at hj
      have := (List.getElem?_eq_some_iff.mp hj).1
      simp only [List.length_cons, List.length_nil] at this
      have ej : j = ps.length := by omega
      rw [show j - wy.length = 0 by omega] at hj
      obtain rfl := Option.some.inj hj
      refine ⟨hbm, q, ?_, ?_, e⟩
      · show (ps ++ [nxP mac q bs])[((cu : Int)).toNat]? = _
        rw [Int.toNat_natCast]
        exact lift h.here
      · rw [ej, List.getElem?_append_right (Nat.le_refl _), Nat.sub_self]
        rfl
  · have hr' : ps[i]? = .some r := by
      rw [List.getElem?_append_left (by omega)] at hr
      exact hr
    obtain ⟨a1, a2⟩ := h.i.done i r hi hr' b hb'
    exact ⟨a1, coarse _ _ a2⟩
  · rcases List.mem_append.mp hr with z | z
    · exact coarse _ _ (h.i.joined r z)
    · rw [List.mem_singleton.mp z]
      exact now
  · have g : ∀ i j, i < mac.length → j < mac.length → rf i = rf j → EqG (ps ++ [nxP mac q bs]) i j := fun i j a b c => (h.i.gen i j a b c).mono up
    have hij' : (if rf i = rf (nxM mac q.2 bs) then rf (nxM mac q.1 bs) else rf i) = if rf j = rf (nxM mac q.2 bs) then rf (nxM mac q.1 bs) else rf j := hij
    by_cases z1 : rf i = rf (nxM mac q.2 bs) <;> by_cases z2 : rf j = rf (nxM mac q.2 bs)
    · exact g i j hi hj (z1.trans z2.symm)
    · rw [if_pos z1, if_neg z2] at hij'
      exact .trans (g i _ hi n2 z1) (.trans (.symm last) (g _ j n1 hj hij'))
    · rw [if_neg z1, if_pos z2] at hij'
      exact .trans (g i _ hi n1 hij') (.trans last (g _ j n2 hj z2.symm))
    · rw [if_neg z1, if_neg z2] at hij'
      exact g i j hi hj hij'
  · rw [List.take_add_one, hb] at hb'
    rcases List.mem_append.mp hb' with z | z
    · obtain ⟨a1, a2⟩ := h.some b z
      exact ⟨a1, coarse _ _ a2⟩
    · have e' : b = bs := by simpa using z
      rw [e']
      exact ⟨e, now⟩
theorem PtB.done (h : PtB m mac one other rf ps wy cu (allB m).length q) : PtI m mac one other rf ps wy (cu + 1) := by
  refine ⟨h.i.first, h.i.ways, h.i.len, h.i.bnd, h.i.link, fun i r hi hr b hb => ?_, h.i.joined, h.i.gen⟩
  by_cases z : i < cu
  · exact h.i.done i r z hr b hb
  · obtain rfl : i = cu := by omega
    rw [h.here] at hr
    obtain rfl := Option.some.inj hr
    exact h.some b (by rw [List.take_length]; exact hb)
theorem PtI.first' {rk : Nat → Nat} {ld : List Nat} (h1 : one < mac.length) (h2 : other < mac.length) (j : rf one = rf other) (g : ∀ i j, i < mac.length → j < mac.length → rf i = rf j → EqG [(one, other)] i j) : PtI m mac one other rf [(one, other)] [(0, [])] 0 := by
  refine ⟨rfl, fun j e hj h0 => ?_, rfl, fun q hq => by rw [List.mem_singleton.mp hq]; exact ⟨h1, h2⟩, fun j e hj h0 => ?_, fun i r hi => absurd hi (Nat.not_lt_zero _), fun q hq => by rw [List.mem_singleton.mp hq]; exact j, g⟩
  all_goals
    have := (List.getElem?_eq_some_iff.mp hj).1
    simp only [List.length_cons, List.length_nil] at this
    omega
/-- where no pair parts, the two tell alike for ever -/
theorem PtI.alk (h : PtI m mac one other rf ps wy ps.length) (ok : MxOk m mac) : ∃ E : Nat → Nat → Prop, Alk mac E ∧ E one other := by
  have key : ∀ {i j : Nat}, EqG ps i j → ∀ bs ∈ allB m, (entM mac i bs).1 = (entM mac j bs).1 ∧ EqG ps (nxM mac i bs) (nxM mac j bs) := by
    intro i j e
    induction e with
    | rfl i => exact fun bs _ => ⟨rfl, .rfl _⟩
    | @of q hq =>
      intro bs hb
      obtain ⟨t, ht⟩ := List.mem_iff_getElem?.mp hq
      obtain ⟨a1, a2⟩ := h.done t q (List.getElem?_eq_some_iff.mp ht).1 ht bs hb
      have bq := h.bnd q hq
      exact ⟨a1, h.gen _ _ (ok.nx bq.1 hb).2 (ok.nx bq.2 hb).2 a2⟩
    | symm _ ih => exact fun bs hb => ⟨(ih bs hb).1.symm, .symm (ih bs hb).2⟩
    | trans _ _ ih1 ih2 => exact fun bs hb => ⟨(ih1 bs hb).1.trans (ih2 bs hb).1, .trans (ih1 bs hb).2 (ih2 bs hb).2⟩
  have h0 := h.bnd _ (List.mem_of_getElem? h.first)
  refine ⟨fun i j => i < mac.length ∧ j < mac.length ∧ EqG ps i j, fun i j hij => ?_, h0.1, h0.2, .of (q := (one, other)) (List.mem_of_getElem? h.first)⟩
  obtain ⟨hi, hj, e⟩ := hij
  have ri : mac[i]? = .some mac[i] := List.getElem?_eq_getElem hi
  have rj : mac[j]? = .some mac[j] := List.getElem?_eq_getElem hj
  have l1 := ok.rows _ (List.mem_of_getElem? ri)
  have l2 := ok.rows _ (List.mem_of_getElem? rj)
  refine ⟨_, _, ri, rj, paired_of (by rw [l1, l2]) fun t x y hx hy => ?_⟩
  have tl := (List.getElem?_eq_some_iff.mp hx).1
  have ht : (allB m)[t]? = .some ((allB m)[t]'(by rw [allB_len]; omega)) := List.getElem?_eq_getElem _
  have hb := List.mem_of_getElem? ht
  have e1 := ok.ent ri ht
  have e2 := ok.ent rj ht
  rw [hx] at e1
  rw [hy] at e2
  obtain rfl := Option.some.inj e1
  obtain rfl := Option.some.inj e2
  obtain ⟨k1, k2⟩ := key e _ hb
  exact ⟨k1, (ok.nx hi hb).2, (ok.nx hj hb).2, k2⟩
/-- the bits by which two states part at last -/
def Parts (m : Nat) (mac : List MRow) (one other : Nat) (way : List (List Int)) : Prop := ∃ cols bs, way = cols ++ [bs] ∧ (∀ c ∈ way, c ∈ allB m) ∧ outM mac one cols = outM mac other cols ∧ (entM mac (runM mac one cols) bs).1 ≠ (entM mac (runM mac other cols) bs).1
theorem PtI.path (h : PtI m mac one other rf ps wy cu) : ∀ (n i : Nat) q, i ≤ n → ps[i]? = .some q → (∀ b ∈ path wy i, b ∈ allB m) ∧ outM mac one (path wy i) = outM mac other (path wy i) ∧ q = (runM mac one (path wy i), runM mac other (path wy i)) := by
  intro n
  have zero : ∀ q, ps[0]? = .some q → (∀ b ∈ KK.path wy 0, b ∈ allB m) ∧ outM mac one (KK.path wy 0) = outM mac other (KK.path wy 0) ∧ q = (runM mac one (KK.path wy 0), runM mac other (KK.path wy 0)) := fun q hq => by
    rw [h.first] at hq
    obtain rfl := Option.some.inj hq
    rw [path_zero]
    exact ⟨(fun _ z => nomatch z), rfl, rfl⟩
  induction n with
  | zero =>
    intro i q hi hq
    obtain rfl : i = 0 := by omega
    exact zero q hq
  | succ n ih =>
    intro i q hi hq
    by_cases h0 : i = 0
    · subst h0
      exact zero q hq
    · have il := (List.getElem?_eq_some_iff.mp hq).1
      have wl := h.len
      have he : wy[i]? = .some (wy[i]'(by omega)) := List.getElem?_eq_getElem (by omega)
      obtain ⟨e, hee⟩ : ∃ e, e = wy[i]'(by omega) := ⟨_, rfl⟩
      rw [← hee] at he
      obtain ⟨a, r, b, c, d⟩ := h.link i e he (by omega)
      have w := h.ways i e he (by omega)
      obtain ⟨i1, i2, i3⟩ := ih e.1.toNat r (by omega) b
      rw [path_next h.ways (by omega) he, outM_snoc, outM_snoc, runM_snoc, runM_snoc]
      rw [hq] at c
      have e1 : r.1 = runM mac one (KK.path wy e.1.toNat) := by rw [i3]
      have e2 : r.2 = runM mac other (KK.path wy e.1.toNat) := by rw [i3]
      rw [← e1, ← e2, i2, d]
      refine ⟨fun x hx => ?_, rfl, Option.some.inj c⟩
      rcases List.mem_append.mp hx with z | z
      · exact i1 x z
      · rw [List.mem_singleton.mp z]
        exact a
theorem PtB.parts (h : PtB m mac one other rf ps wy cu k q) (hb : bs ∈ allB m) (ne : (entM mac q.1 bs).1 ≠ (entM mac q.2 bs).1) : Parts m mac one other (path wy cu ++ [bs]) := by
  obtain ⟨a, b, c⟩ := h.i.path cu cu q (Nat.le_refl cu) h.here
  refine ⟨path wy cu, bs, rfl, fun x hx => ?_, b, ?_⟩
  · rcases List.mem_append.mp hx with z | z
    · exact a x z
    · rw [List.mem_singleton.mp z]
      exact hb
  · rw [c] at ne
    exact ne
def kPt (q : Nat × Nat) : NestedKey := kC [(q.1 : Int), (q.2 : Int)]
theorem kPt_inj {a b : Nat × Nat} (h : kPt a = kPt b) : a = b := by
  have e := kC_inj h
  rw [List.cons.injEq, List.cons.injEq] at e
  exact Prod.ext (Int.ofNat.inj e.1) (Int.ofNat.inj e.2.1)
theorem pt_few {n : Nat} {ps : List (Nat × Nat)} (nd : ps.Nodup) (h : ∀ q ∈ ps, q.1 < n ∧ q.2 < n) : ps.length ≤ n * n := by
  have le := pigeon ps ((List.range n).flatMap fun a => (List.range n).map fun b => (a, b)) nd fun q hq => List.mem_flatMap.mpr ⟨q.1, List.mem_range.mpr (h q hq).1, List.mem_map.mpr ⟨q.2, List.mem_range.mpr (h q hq).2, rfl⟩⟩
  have fl : ∀ l : List Nat, (l.flatMap fun a => (List.range n).map fun b => (a, b)).length = l.length * n := fun l => by
    induction l with
    | nil => simp
    | cons a l ih => rw [List.flatMap_cons, List.length_append, ih, List.length_map, List.length_range, List.length_cons, Nat.succ_mul, Nat.add_comm]
  rwa [fl, List.length_range] at le
theorem keys_atN {ps : List (Nat × Nat)} {ts : List WT} (e : ts.map (·.1) = ps.map kPt) {i : Nat} {t : WT} (h : ts[i]? = .some t) : ∃ c, ps[i]? = .some c ∧ t.1 = kPt c := by
  have h1 : (ts.map (·.1))[i]? = .some t.1 := by rw [List.getElem?_map, h]; rfl
  rw [e, List.getElem?_map] at h1
  cases hc : ps[i]? with
  | none => rw [hc] at h1; cases h1
  | some c => rw [hc] at h1; exact ⟨c, rfl, (Option.some.inj h1).symm⟩
theorem keys_lenN {ps : List (Nat × Nat)} {ts : List WT} (e : ts.map (·.1) = ps.map kPt) : ts.length = ps.length := by
  have := congrArg List.length e
  rwa [List.length_map, List.length_map] at this
theorem keys_ndN {ps : List (Nat × Nat)} {ts : List WT} (h : (ts.map (·.1)).Nodup) (e : ts.map (·.1) = ps.map kPt) : ps.Nodup := by
  rw [e] at h
  exact List.Pairwise.imp (fun {a b} z y => z (congrArg kPt y)) (List.pairwise_map.mp h)
abbrev idb (b : List Int) : Nat := (atb b).toNat
def numW (m : Nat) (u : List (List Int)) : Nat := u.foldl (fun a b => a * 2 ^ m + idb b) 1
theorem numW_nil (m : Nat) : numW m [] = 1 := rfl
theorem numW_snoc (m : Nat) (u : List (List Int)) (b : List Int) : numW m (u ++ [b]) = numW m u * 2 ^ m + idb b := by
  unfold numW
  rw [List.foldl_append]
  rfl
theorem idb_at {m t : Nat} {b : List Int} (m3 : m ≤ 3) (h : (allB m)[t]? = some b) : idb b = t := by
  have hbm := allB_ok m b (List.mem_of_getElem? h)
  obtain ⟨j, j1, j2⟩ := allB_at m b hbm.1 hbm.2
  have e : j = t := nd_idx (allB_nd m3) j2 h
  show (atb b).toNat = t
  rw [j1, Int.toNat_natCast, e]
theorem idb_lt {m : Nat} {b : List Int} (m3 : m ≤ 3) (h : b ∈ allB m) : idb b < 2 ^ m := by
  obtain ⟨t, ht⟩ := List.mem_iff_getElem?.mp h
  rw [idb_at m3 ht, ← allB_len m]
  exact (List.getElem?_eq_some_iff.mp ht).1
theorem idb_inj {m : Nat} {b c : List Int} (m3 : m ≤ 3) (hb : b ∈ allB m) (hc : c ∈ allB m) (e : idb b = idb c) : b = c := by
  obtain ⟨t, ht⟩ := List.mem_iff_getElem?.mp hb
  obtain ⟨s, hs⟩ := List.mem_iff_getElem?.mp hc
  rw [idb_at m3 ht, idb_at m3 hs] at e
  rw [e, hs] at ht
  exact (Option.some.inj ht).symm
theorem snocW {α : Type} {C : List α → Prop} (h0 : C []) (h1 : ∀ u b, C u → C (u ++ [b])) : ∀ u, C u := fun u => by
  have : ∀ r : List α, C r.reverse := fun r => by
    induction r with
    | nil => exact h0
    | cons x r ih => rw [List.reverse_cons]; exact h1 _ _ ih
  have := this u.reverse
  rwa [List.reverse_reverse] at this
theorem numW_pos (m : Nat) : ∀ u, 1 ≤ numW m u := snocW (Nat.le_refl 1) fun u b ih => by
  rw [numW_snoc]
  have : 1 ≤ 2 ^ m := Nat.one_le_two_pow
  have : 1 * 1 ≤ numW m u * 2 ^ m := Nat.mul_le_mul ih this
  omega
theorem two_le {m : Nat} (h : 1 ≤ m) : 2 ≤ 2 ^ m := by
  have : 2 ^ 1 ≤ 2 ^ m := Nat.pow_le_pow_right (by decide) h
  omega
theorem numW_inj {m : Nat} (m1 : 1 ≤ m) (m3 : m ≤ 3) : ∀ u v : List (List Int), (∀ c ∈ u, c ∈ allB m) → (∀ c ∈ v, c ∈ allB m) → numW m u = numW m v → u = v := by
  have b2 := two_le m1
  have ge : ∀ (u : List (List Int)) b, 2 ≤ numW m (u ++ [b]) := fun u b => by
    rw [numW_snoc]
    have := Nat.mul_le_mul (numW_pos m u) b2
    omega
  refine snocW ?_ fun u b ih => ?_
  · refine snocW (fun _ _ _ => rfl) fun v c _ hv _ e => ?_
    have := ge v c
    rw [numW_nil] at e
    omega
  · refine snocW (fun hu _ e => ?_) fun v c _ hu hv e => ?_
    · have := ge u b
      rw [numW_nil] at e
      omega
    · have hb := idb_lt m3 (hu b (by simp))
      have hc := idb_lt m3 (hv c (by simp))
      rw [numW_snoc, numW_snoc] at e
      have e1 : numW m u = numW m v := by
        have h1 := congrArg (· / 2 ^ m) e
        have p0 : 0 < 2 ^ m := by omega
        simp only [Nat.mul_comm _ (2 ^ m), Nat.mul_add_div p0, Nat.div_eq_of_lt hb, Nat.div_eq_of_lt hc, Nat.add_zero] at h1
        exact h1
      rw [e1] at e
      rw [ih v (fun x hx => hu x (List.mem_append_left _ hx)) (fun x hx => hv x (List.mem_append_left _ hx)) e1, idb_inj m3 (hu b (by simp)) (hv c (by simp)) (by omega)]
inductive EqP (R : Nat × Nat → Prop) : Nat → Nat → Prop
  | rfl (i : Nat) : EqP R i i
  | of {q : Nat × Nat} (h : R q) : EqP R q.1 q.2
  | symm {i j : Nat} (h : EqP R i j) : EqP R j i
  | trans {i j k : Nat} (h : EqP R i j) (h' : EqP R j k) : EqP R i k
theorem EqP.mono {R S : Nat × Nat → Prop} (s : ∀ q, R q → S q) {i j : Nat} (h : EqP R i j) : EqP S i j := by
  induction h with
  | rfl i => exact .rfl i
  | of h => exact .of (s _ h)
  | symm _ ih => exact .symm ih
  | trans _ _ ih1 ih2 => exact .trans ih1 ih2
theorem EqG.toP {ps : List (Nat × Nat)} {R : Nat × Nat → Prop} (s : ∀ q ∈ ps, R q) {i j : Nat} (h : EqG ps i j) : EqP R i j := by
  induction h with
  | rfl i => exact .rfl i
  | of h => exact .of (s _ h)
  | symm _ ih => exact .symm ih
  | trans _ _ ih1 ih2 => exact .trans ih1 ih2
/-- a pair met no later than by these bits behind the i-th -/
def Upto (ps : List (Nat × Nat)) (wy : List (Int × List Int)) (i t : Nat) (r : Nat × Nat) : Prop := ∃ j, ps[j]? = some r ∧ (j = 0 ∨ ∃ e, wy[j]? = some e ∧ (e.1.toNat < i ∨ e.1.toNat = i ∧ idb e.2 ≤ t))
structure PtX (m : Nat) (mac : List MRow) (ps : List (Nat × Nat)) (wy : List (Int × List Int)) (cu k : Nat) : Prop where
  par : ∀ (j : Nat) e, wy[j]? = some e → 0 < j → e.1.toNat < cu ∨ e.1.toNat = cu ∧ idb e.2 < k
  mono : ∀ (j j' : Nat) e e', wy[j]? = some e → wy[j']? = some e' → 0 < j → j < j' → e.1.toNat < e'.1.toNat ∨ e.1.toNat = e'.1.toNat ∧ idb e.2 < idb e'.2
  cov : ∀ (i : Nat) q b, ps[i]? = some q → b ∈ allB m → (i < cu ∨ i = cu ∧ idb b < k) → (entM mac q.1 b).1 = (entM mac q.2 b).1 ∧ EqP (Upto ps wy i (idb b)) (nxM mac q.1 b) (nxM mac q.2 b)
structure PtJ (m : Nat) (mac : List MRow) (one other : Nat) (rf : Nat → Nat) (ps : List (Nat × Nat)) (wy : List (Int × List Int)) (cu : Nat) : Prop extends PtI m mac one other rf ps wy cu where
  x : PtX m mac ps wy cu 0
structure PtC (m : Nat) (mac : List MRow) (one other : Nat) (rf : Nat → Nat) (ps : List (Nat × Nat)) (wy : List (Int × List Int)) (cu k : Nat) (q : Nat × Nat) : Prop extends PtB m mac one other rf ps wy cu k q where
  x : PtX m mac ps wy cu k
section ptf
variable {m : Nat} {mac : List MRow} {one other cu k : Nat} {rf : Nat → Nat} {ps : List (Nat × Nat)} {wy : List (Int × List Int)} {q : Nat × Nat} {bs : List Int}
theorem PtC.first (h : PtJ m mac one other rf ps wy cu) (hq : ps[cu]? = .some q) : PtC m mac one other rf ps wy cu 0 q := ⟨PtB.first h.toPtI hq, h.x⟩
/-- all pairs met are met by what was looked at -/
theorem PtC.upto (h : PtC m mac one other rf ps wy cu k q) : ∀ r ∈ ps, Upto ps wy cu k r := fun r hr => by
  obtain ⟨j, hj⟩ := List.mem_iff_getElem?.mp hr
  by_cases j0 : j = 0
  · exact ⟨j, hj, .inl j0⟩
  · have jl := (List.getElem?_eq_some_iff.mp hj).1
    have wl := h.i.len
    have he : wy[j]? = .some (wy[j]'(by omega)) := List.getElem?_eq_getElem (by omega)
    rcases h.x.par j _ he (by omega) with z | ⟨z1, z2⟩
    · exact ⟨j, hj, .inr ⟨_, he, .inl z⟩⟩
    · exact ⟨j, hj, .inr ⟨_, he, .inr ⟨z1, by omega⟩⟩⟩
theorem PtC.old (h : PtC m mac one other rf ps wy cu k q) (ok : MxOk m mac) (hb : (allB m)[k]? = .some bs) (a : agr mac rf q bs) : PtC m mac one other rf ps wy cu (k + 1) q := by
  have ek := idb_at ok.m3 hb
  refine ⟨h.toPtB.old hb a, fun j e he j0 => ?_, h.x.mono, fun i r b hr hbm hi => ?_⟩
  · rcases h.x.par j e he j0 with z | ⟨z1, z2⟩
    · exact .inl z
    · exact .inr ⟨z1, by omega⟩
  · by_cases z : i < cu ∨ i = cu ∧ idb b < k
    · exact h.x.cov i r b hr hbm z
    · have e1 : i = cu := by omega
      have e2 : idb b = idb bs := by omega
      obtain rfl := idb_inj ok.m3 hbm (List.mem_of_getElem? hb) e2
      subst e1
      rw [h.here] at hr
      obtain rfl := Option.some.inj hr
      have bq := h.i.bnd q (List.mem_of_getElem? h.here)
      refine ⟨a.1, ?_⟩
      rw [ek]
      exact (h.i.gen _ _ (ok.nx bq.1 hbm).2 (ok.nx bq.2 hbm).2 a.2).toP h.upto
theorem PtC.new (h : PtC m mac one other rf ps wy cu k q) (ok : MxOk m mac) (hb : (allB m)[k]? = .some bs) (e : (entM mac q.1 bs).1 = (entM mac q.2 bs).1) (ne : rf (nxM mac q.1 bs) ≠ rf (nxM mac q.2 bs)) :
    PtC m mac one other (fun i => if rf i = rf (nxM mac q.2 bs) then rf (nxM mac q.1 bs) else rf i) (ps ++ [nxP mac q bs]) (wy ++ [((cu : Int), bs)]) cu (k + 1) q := by
  have ek := idb_at ok.m3 hb
  have wl := h.i.len
  have hcl := (List.getElem?_eq_some_iff.mp h.here).1
  have last : ∀ {j : Nat} {x}, (wy ++ [((cu : Int), bs)])[j]? = .some x → (wy[j]? = .some x) ∨ (j = wy.length ∧ x = ((cu : Int), bs)) := fun {j x} hj => by
    by_cases hl : j < wy.length
    · rw [List.getElem?_append_left hl] at hj
      exact .inl hj
    · rw [List.getElem?_append_right (by omega)] at hj
      have := (List.getElem?_eq_some_iff.mp hj).1
      simp only [List.length_cons, List.length_nil] at this
      rw [show j - wy.length = 0 by omega] at hj
      exact .inr ⟨by omega, (Option.some.inj hj).symm⟩
  have lift : ∀ {i : Nat} {r : Nat × Nat}, ps[i]? = .some r → (ps ++ [nxP mac q bs])[i]? = .some r := fun {i r} z => by rw [List.getElem?_append_left (List.getElem?_eq_some_iff.mp z).1]; exact z
  have liftw : ∀ {i : Nat} {r : Int × List Int}, wy[i]? = .some r → (wy ++ [((cu : Int), bs)])[i]? = .some r := fun {i r} z => by rw [List.getElem?_append_left (List.getElem?_eq_some_iff.mp z).1]; exact z
  have up : ∀ i t r, Upto ps wy i t r → Upto (ps ++ [nxP mac q bs]) (wy ++ [((cu : Int), bs)]) i t r := fun i t r ⟨j, a, b⟩ => ⟨j, lift a, b.elim .inl fun ⟨e, c, d⟩ => .inr ⟨e, liftw c, d⟩⟩
  refine ⟨h.toPtB.new ok hb e ne, fun j x hj j0 => ?_, fun j j' x x' hj hj' j0 jj => ?_, fun i r b hr hbm hi => ?_⟩
  · rcases last hj with z | ⟨_, rfl⟩
    · rcases h.x.par j x z j0 with y | ⟨y1, y2⟩
      · exact .inl y
      · exact .inr ⟨y1, by omega⟩
    · exact .inr ⟨Int.toNat_natCast cu, by show idb bs < k + 1; omega⟩
  · rcases last hj' with z' | ⟨e', rfl⟩
    · have l' := (List.getElem?_eq_some_iff.mp z').1
      rcases last hj with z | ⟨e1, _⟩
      · exact h.x.mono j j' x x' z z' j0 jj
      · omega
    · rcases last hj with z | ⟨e1, _⟩
      · rcases h.x.par j x z j0 with y | ⟨y1, y2⟩
        · exact .inl (by show _ < ((cu : Int)).toNat; rw [Int.toNat_natCast]; exact y)
        · exact .inr ⟨by show _ = ((cu : Int)).toNat; rw [Int.toNat_natCast]; exact y1, by show _ < idb bs; omega⟩
      · omega
  · by_cases z : i < cu ∨ i = cu ∧ idb b < k
    · have il : i < ps.length := by omega
      have hr' : ps[i]? = .some r := by
        rw [List.getElem?_append_left il] at hr
        exact hr
      obtain ⟨a1, a2⟩ := h.x.cov i r b hr' hbm z
      exact ⟨a1, a2.mono (up i _)⟩
    · have e1 : i = cu := by omega
      have e2 : idb b = idb bs := by omega
      obtain rfl := idb_inj ok.m3 hbm (List.mem_of_getElem? hb) e2
      subst e1
      have hr' : ps[i]? = .some r := by
        rw [List.getElem?_append_left hcl] at hr
        exact hr
      rw [h.here] at hr'
      obtain rfl := Option.some.inj hr'
      refine ⟨e, .of (q := nxP mac q b) ⟨ps.length, by rw [List.getElem?_append_right (Nat.le_refl _), Nat.sub_self]; rfl, .inr ⟨((i : Int), b), by rw [← wl, List.getElem?_append_right (Nat.le_refl _), Nat.sub_self]; rfl, .inr ⟨Int.toNat_natCast i, Nat.le_refl _⟩⟩⟩⟩
theorem PtC.done (ok : MxOk m mac) (h : PtC m mac one other rf ps wy cu (allB m).length q) : PtJ m mac one other rf ps wy (cu + 1) := by
  refine ⟨h.toPtB.done, fun j e he j0 => ?_, h.x.mono, fun i r b hr hbm hi => ?_⟩
  · rcases h.x.par j e he j0 with z | ⟨z1, z2⟩
    · exact .inl (by omega)
    · exact .inl (by omega)
  · refine h.x.cov i r b hr hbm ?_
    by_cases z : i < cu
    · exact .inl z
    · refine .inr ⟨by omega, ?_⟩
      rw [allB_len]
      exact idb_lt ok.m3 hbm
theorem PtJ.first' {rk : Nat → Nat} {ld : List Nat} (h1 : one < mac.length) (h2 : other < mac.length) (j : rf one = rf other) (g : ∀ i j, i < mac.length → j < mac.length → rf i = rf j → EqG [(one, other)] i j) : PtJ m mac one other rf [(one, other)] [(0, [])] 0 := by
  refine ⟨PtI.first' (rk := rk) (ld := ld) h1 h2 j g, fun j e hj h0 => ?_, fun j j' e e' hj hj' h0 jj => ?_, fun i q b _ _ hi => by omega⟩
  · have := (List.getElem?_eq_some_iff.mp hj).1
    simp only [List.length_cons, List.length_nil] at this
    omega
  · have := (List.getElem?_eq_some_iff.mp hj').1
    simp only [List.length_cons, List.length_nil] at this
    omega
theorem PtJ.alk (h : PtJ m mac one other rf ps wy ps.length) (ok : MxOk m mac) : ∃ E : Nat → Nat → Prop, Alk mac E ∧ E one other := h.toPtI.alk ok
/-- parts, and no bits ahead of these do -/
def PartsF (m : Nat) (mac : List MRow) (one other : Nat) (way : List (List Int)) : Prop := Parts m mac one other way ∧ ∀ w, (∀ c ∈ w, c ∈ allB m) → outM mac one w ≠ outM mac other w → numW m way ≤ numW m w
theorem path_num (h : PtI m mac one other rf ps wy cu) {j : Nat} {e : Int × List Int} (he : wy[j]? = .some e) (j0 : 0 < j) : numW m (path wy j) = numW m (path wy e.1.toNat) * 2 ^ m + idb e.2 := by
  rw [path_next h.ways (by omega) he, numW_snoc]
theorem path_up (m1 : 1 ≤ m) (m3 : m ≤ 3) (h : PtI m mac one other rf ps wy cu) (x : PtX m mac ps wy cu k) : ∀ (n j j' : Nat), j' ≤ n → j < j' → j' < wy.length → numW m (path wy j) < numW m (path wy j') := by
  have b2 := two_le m1
  intro n
  induction n with
  | zero => intro j j' h0; omega
  | succ n ih =>
    intro j j' hn hj hl
    have he' : wy[j']? = .some (wy[j']'hl) := List.getElem?_eq_getElem hl
    obtain ⟨e', hee'⟩ : ∃ e, e = wy[j']'hl := ⟨_, rfl⟩
    rw [← hee'] at he'
    have w' := h.ways j' e' he' (by omega)
    have hb' := (h.link j' e' he' (by omega)).1
    rw [path_num h he' (by omega)]
    by_cases j0 : j = 0
    · subst j0
      rw [path_zero]
      have := Nat.mul_le_mul (numW_pos m (path wy e'.1.toNat)) b2
      rw [numW_nil]
      omega
    · have he : wy[j]? = .some (wy[j]'(by omega)) := List.getElem?_eq_getElem (by omega)
      obtain ⟨e, hee⟩ : ∃ e, e = wy[j]'(by omega) := ⟨_, rfl⟩
      rw [← hee] at he
      have w := h.ways j e he (by omega)
      have hb := (h.link j e he (by omega)).1
      rw [path_num h he (by omega)]
      have lb := idb_lt m3 hb
      rcases x.mono j j' e e' he he' (by omega) hj with z | ⟨z1, z2⟩
      · have := ih e.1.toNat e'.1.toNat (by omega) z (by omega)
        have := Nat.mul_le_mul_right (2 ^ m) this
        rw [Nat.succ_mul] at this
        omega
      · rw [z1]
        omega
theorem PtC.parts (m1 : 1 ≤ m) (ok : MxOk m mac) (h : PtC m mac one other rf ps wy cu k q) (hb : (allB m)[k]? = .some bs) (ne : (entM mac q.1 bs).1 ≠ (entM mac q.2 bs).1) : PartsF m mac one other (path wy cu ++ [bs]) := by
  have m3 := ok.m3
  have b2 := two_le m1
  have ek := idb_at m3 hb
  have wl := h.i.len
  have hcl := (List.getElem?_eq_some_iff.mp h.here).1
  refine ⟨h.toPtB.parts (List.mem_of_getElem? hb) ne, ?_⟩
  have ew : numW m (path wy cu ++ [bs]) = numW m (path wy cu) * 2 ^ m + k := by rw [numW_snoc, ek]
  have key : ∀ u : List (List Int), (∀ c ∈ u, c ∈ allB m) → numW m u < numW m (path wy cu ++ [bs]) → outM mac one u = outM mac other u ∧ EqP (fun r => ∃ j, ps[j]? = .some r ∧ numW m (path wy j) ≤ numW m u) (runM mac one u) (runM mac other u) := by
    refine snocW (fun _ _ => ⟨rfl, .of (q := (one, other)) ⟨0, h.i.first, by rw [path_zero]; exact Nat.le_refl _⟩⟩) fun u b ih hu lt => ?_
    have hbm := hu b (by simp)
    have lb := idb_lt m3 hbm
    rw [numW_snoc] at lt
    have ub : numW m u * 2 ≤ numW m u * 2 ^ m := Nat.mul_le_mul_left _ b2
    have up := numW_pos m u
    obtain ⟨i1, i2⟩ := ih (fun c hc => hu c (List.mem_append_left _ hc)) (by omega)
    have go : ∀ {i j : Nat}, EqP (fun r => ∃ j, ps[j]? = .some r ∧ numW m (path wy j) ≤ numW m u) i j → (entM mac i b).1 = (entM mac j b).1 ∧ EqP (fun r => ∃ j, ps[j]? = .some r ∧ numW m (path wy j) ≤ numW m (u ++ [b])) (nxM mac i b) (nxM mac j b) := by
      intro i j e
      induction e with
      | rfl i => exact ⟨rfl, .rfl _⟩
      | @of r hr =>
        obtain ⟨j, hj, hle⟩ := hr
        have jl := (List.getElem?_eq_some_iff.mp hj).1
        have hle2 := Nat.mul_le_mul_right (2 ^ m) hle
        have proc : j < cu ∨ j = cu ∧ idb b < k := by
          rcases Nat.lt_trichotomy j cu with z | z | z
          · exact .inl z
          · refine .inr ⟨z, ?_⟩
            rw [z] at hle2
            omega
          · have p := path_up m1 m3 h.i h.x j cu j (Nat.le_refl _) z (by omega)
            have kl := (List.getElem?_eq_some_iff.mp hb).1
            rw [allB_len] at kl
            have := Nat.mul_le_mul_right (2 ^ m) p
            rw [Nat.succ_mul] at this
            omega
        obtain ⟨a1, a2⟩ := h.x.cov j r b hj hbm proc
        refine ⟨a1, a2.mono fun r' ⟨j', hj', hh⟩ => ⟨j', hj', ?_⟩⟩
        rw [numW_snoc]
        rcases hh with rfl | ⟨e, he, hh⟩
        · rw [path_zero, numW_nil]
          omega
        · have j0 : 0 < j' ∨ j' = 0 := by omega
          rcases j0 with j0 | j0
          · rw [path_num h.i he j0]
            have lc := idb_lt m3 (h.i.link j' e he j0).1
            rcases hh with z | ⟨z1, z2⟩
            · have p := path_up m1 m3 h.i h.x j e.1.toNat j (Nat.le_refl _) z (by omega)
              have := Nat.mul_le_mul_right (2 ^ m) p
              rw [Nat.succ_mul] at this
              omega
            · rw [z1]
              omega
          · rw [j0, path_zero, numW_nil]
            omega
      | symm _ ih => exact ⟨ih.1.symm, .symm ih.2⟩
      | trans _ _ ih1 ih2 => exact ⟨ih1.1.trans ih2.1, .trans ih1.2 ih2.2⟩
    obtain ⟨g1, g2⟩ := go i2
    rw [outM_snoc, outM_snoc, runM_snoc, runM_snoc, i1, g1]
    exact ⟨rfl, g2⟩
  intro w hw hd
  rcases Nat.lt_or_ge (numW m w) (numW m (path wy cu ++ [bs])) with z | z
  · exact absurd (key w hw z).1 hd
  · exact z
/-- the first bits are one -/
theorem first_one (m1 : 1 ≤ m) (m3 : m ≤ 3) {v w : List (List Int)} (hv : PartsF m mac one other v) (hw : PartsF m mac one other w) : v = w := by
  have df : ∀ {v}, Parts m mac one other v → (∀ c ∈ v, c ∈ allB m) ∧ outM mac one v ≠ outM mac other v := fun {v} ⟨cols, b, e, a, o, n⟩ => ⟨a, fun z => by
    rw [e, outM_snoc, outM_snoc, o] at z
    have := List.append_cancel_left z
    injection this with this
    exact n this⟩
  obtain ⟨a1, d1⟩ := df hv.1
  obtain ⟨a2, d2⟩ := df hw.1
  exact numW_inj m1 m3 v w a1 a2 (Nat.le_antisymm (hv.2 w a2 d2) (hw.2 v a1 d1))
end ptf
def spPf : Sp := fun vs H Q _ => ∃ (p : Addr) (m one other : Nat) (ls : List Addr) (mac : List MRow), vs = [.ref p, .int (one : Int), .int (other : Int)] ∧ H p = some (.lst (ls.map V.ref)) ∧ MacL H ls mac ∧ 1 ≤ m ∧ MxOk m mac ∧ one < mac.length ∧ other < mac.length ∧
  (∀ H', Same H H' → (∃ E : Nat → Nat → Prop, Alk mac E ∧ E one other) → Q .non H') ∧
  (∀ H' L bl way, Same H H' → H L = none → H' L = some (.lst (bl.map V.ref)) → TAt H' bl way → PartsF m mac one other way → way.length ≤ 65537 → Q (.ref L) H')
theorem bits_pow {m : Nat} (h : m ≤ 3) : ((Builtin.Int.intBits ((2 ^ m : Nat) : Int) : Nat) : Int) - 1 = (m : Int) := by
  have h4 : m = 0 ∨ m = 1 ∨ m = 2 ∨ m = 3 := by omega
  rcases h4 with rfl | rfl | rfl | rfl <;> decide +kernel
theorem ldV_range (n : Nat) : rgV 0 (n : Int) = ldV (List.range n) := by
  unfold rgV
  rw [Int.sub_zero, Int.toNat_natCast]
  refine List.map_congr_left fun i _ => ?_
  rw [Int.zero_add]
theorem range_at {n i : Nat} (h : i < n) : (List.range n).getD i 0 = i := by rw [List.getD_eq_getElem?_getD, List.getElem?_range h]; rfl
theorem ld_first (n : Nat) : LdI (List.range n) (fun _ => 0) (fun i => i) := by
  refine ⟨fun i hi => ?_, fun i hi => ?_, fun i hi _ => rfl, fun i hi e => ?_, fun i hi => hi, fun i hi => ?_⟩ <;> rw [List.length_range] at hi
  · rw [range_at hi, List.length_range]
    exact hi
  · exact range_at hi
  · exact absurd (range_at hi) e
  · exact range_at hi
theorem jn_any {L : Addr} {x y : Nat} {ld : List Nat} {rk rf : Nat → Nat} {H : Hp} {Q : VK} {E : XK} (eL : H L = some (.lst (ldV ld))) (li : LdI ld rk rf) (hx : x < ld.length) (hy : y < ld.length)
    (q : ∀ b ld' rk' rf', LdI ld' rk' rf' → ld'.length = ld.length → rf' x = rf' y → (∀ i j, rf' i = rf' j → rf i = rf j ∨ (rf i = rf x ∧ rf j = rf y) ∨ (rf i = rf y ∧ rf j = rf x)) → Q (.bl b) (upd H L (.lst (ldV ld')))) : spJn [.ref L, .int (x : Int), .int (y : Int)] H Q E := by
  refine ⟨L, x, y, ld, rk, rf, rfl, eL, li, hx, hy, fun e ld' li' hl => q false ld' rk rf li' hl e fun i j z => .inl z, fun e ld' rk' li' hl => q true ld' rk' _ li' hl ?_ fun i j z => ?_⟩
  · rw [if_neg e, if_pos rfl]
  · have z' : (if rf i = rf y then rf x else rf i) = if rf j = rf y then rf x else rf j := z
    by_cases z1 : rf i = rf y <;> by_cases z2 : rf j = rf y
    · exact .inl (z1.trans z2.symm)
    · rw [if_pos z1, if_neg z2] at z'
      exact .inr (.inr ⟨z1, z'.symm⟩)
    · rw [if_neg z1, if_pos z2] at z'
      exact .inr (.inl ⟨z', z2⟩)
    · rw [if_neg z1, if_neg z2] at z'
      exact .inl z'
set_option maxHeartbeats 4000000 in
theorem ok_pf {f fA fJ fB C : Addr} {fd fdA fdJ fdB fdI fdM fdT : FuncData} {k : Nat} {fI fM fT : Addr} (F : Fun K "parting" "parting" s_parting f fd) (T : WCls K mg C)
    (GA : FnOk P w K mg base CX0 (k + 1) fA fdA ["many"] spAll) (kA : PySem.W.keepIn K (.ref fA) = true) (bA : Binds K fdA ["many"] []) (gA : mg "all_bits" = some (.ref fA))
    (GJ : FnOk P w K mg base CX0 (k + 2) fJ fdJ ["leaders", "one", "other"] spJn) (kJ : PySem.W.keepIn K (.ref fJ) = true) (bJ : Binds K fdJ ["leaders", "one", "other"] []) (gJ : mg "join_states" = some (.ref fJ))
    (GB : FnOk P w K mg base CX0 (k + 1) fB fdB ["ones", "others"] spBs) (kB : PySem.W.keepIn K (.ref fB) = true) (bB : Binds K fdB ["ones", "others"] []) (gB : mg "both_steps" = some (.ref fB))
    (MK : Mk K C fI) (GI : FnOk P w K mg base CX0 (k + 1) fI fdI ["self", "first"] (spWi P w C)) (bI : Binds K fdI ["self", "first"] [])
    (MM : Meth K C "meet" fM) (GM : FnOk P w K mg base CX0 (k + 1) fM fdM ["self", "thing", "ahead", "bits"] (spWm P w C)) (bM : Binds K fdM ["self", "thing", "ahead", "bits"] [])
    (MT : Meth K C "bits_to" fT) (GT : FnOk P w K mg base CX0 (k + 1) fT fdT ["self", "number"] (spBt P w C)) (bT : Binds K fdT ["self", "number"] [])
    (mn : mg "len" = none) (mz : mg "zip" = none) (ml : mg "list" = none) (mr : mg "range" = none) : FnOk P w K mg base CX0 (k + 3) f fd ["machine", "one", "other"] spPf := by
  refine F.ok sc_parting (fun vs H Q E h => ?_) (fun cdv A outer s H vs Q E hr h => ?_)
  · obtain ⟨p, m, one, other, ls, mac, rfl, _⟩ := h
    rfl
  · obtain ⟨p, m, one, other, ls, mac, rfl, ep, hmac, m1, ok, h1, h2, qA, qB⟩ := h
    have r1 := hr.mono (show k + 1 ≤ k + 2 by omega)
    refine ⟨_, pss_cons (ps_set (i := 3) sc_parting.nd rfl (.inl rfl) (pe_call GA r1 (by rfl) gA kA bA .nil pass0 (pa_cons (pe_op op_sub (pe_bits (pe_callB call_len_seq (by rfl) mn PySem.boot_len (pa_cons (pe_ix ix_list (pv 0) (pv 1) (fun _ _ => rfl)) pa_nil))) pe_int) pa_nil)))
    (pss_cons (ps_set (i := 4) sc_parting.nd rfl (.inl rfl) (pe_listRg rfl (by rfl) ml (prg_1 (by rfl) mr (pe_callB call_len_seq (by rfl) mn PySem.boot_len (pa_cons (pv 0) pa_nil)))))
    (pss_cons (ps_expr (pe_call GJ hr (by rfl) gJ kJ bJ .nil pass0 (pa_cons (pv 4) (pa_cons (pv 1) (pa_cons (pv 2) pa_nil)))))
    (pss_cons (ps_set (i := 5) sc_parting.nd rfl (.inl rfl) (pe_make MK GI hr (by rfl) T.mgC bI .nil pass0 (pa_cons (pe_tup (pa_cons (pv 1) (pa_cons (pv 2) pa_nil))) pa_nil)))
    (pss_cons (ps_set (i := 6) sc_parting.nd rfl (.inl rfl) pe_int)
    (pss_cons (ps_while PassesOwn.never (pt_cmpR op_lt (pv 6) (pe_callB call_len_seq (by rfl) mn PySem.boot_len (pa_cons (pe_fld (pv 5) rfl) pa_nil)) (nomark _))
    (pss_cons (ps_asg (pe_ix ix_list (pe_fld (pv 5) rfl) (pv 6) (fun _ _ => rfl)) (pg_tup rfl (pgs_cons (pg_name (i := 7) sc_parting.nd rfl (.inl rfl)) (pgs_cons (pg_name (i := 8) sc_parting.nd rfl (.inl rfl)) pgs_nil))))
    (pss_cons (ps_for PassesOwn.never rfl (pi_zip (by rfl) mz (pa_cons (pv 3) (pa_cons (pe_call GB r1 (by rfl) gB kB bB .nil pass0 (pa_cons (pe_ix ix_list (pv 0) (pv 7) (fun _ _ => rfl)) (pa_cons (pe_ix ix_list (pv 0) (pv 8) (fun _ _ => rfl)) pa_nil))) pa_nil))) (pg_tup rfl (pgs_cons (pg_name (i := 9) sc_parting.nd rfl (.inl rfl)) (pgs_cons (pg_tup rfl (pgs_cons (pg_name (i := 10) sc_parting.nd rfl (.inl rfl)) (pgs_cons (pg_name (i := 11) sc_parting.nd rfl (.inl rfl)) (pgs_cons (pg_name (i := 12) sc_parting.nd rfl (.inl rfl)) pgs_nil)))) pgs_nil)))
    (pss_cons (ps_if (pt_cmpR op_ne (pv 10) (pv 11) (nomark _))
    (pss_one (ps_ret (pe_op op_cat (pe_meth (pv 5) T.cl MT GT r1 bT .nil pass0 (pa_cons (pv 6) pa_nil)) (pe_lst (pa_cons (pv 9) pa_nil)))))
    pss_nil)
    (pss_one (ps_if (pt_val (pe_call GJ hr (by rfl) gJ kJ bJ .nil pass0 (pa_cons (pv 4) (pa_cons (pe_ix ix_tup (pv 12) pe_int (fun _ _ => rfl)) (pa_cons (pe_ix ix_tup (pv 12) pe_int (fun _ _ => rfl)) pa_nil)))))
    (pss_one (ps_expr (pe_meth (pv 5) T.cl MM GM r1 bM .nil pass0 (pa_cons (pv 12) (pa_cons (pv 6) (pa_cons (pv 9) pa_nil))))))
    pss_nil))))
    (pss_one (ps_aug (i := 6) sc_parting.nd rfl (.inl rfl) pe_int ip_add)))))
    (pss_one (ps_ret pe_non))))))), ?_⟩
    have ll := awLen hmac
    have few := ok.few
    have m3 := ok.m3
    have p8 : 2 ^ m ≤ 8 := Nat.le_trans (Nat.pow_le_pow_right (by decide) m3) (by decide)
    obtain ⟨l1, hl1, qs1, eq1, hq1⟩ := awGet2 hmac (List.getElem?_eq_getElem h1)
    have rl1 := ok.rows _ (List.getElem_mem h1)
    have ql1 := awLen hq1
    refine ⟨.ref p, rfl, .int (one : Int), rfl, p, _, (one : Int), .ref l1, rfl, rfl, .inl (.inl ep), atI_nat (by rw [List.getElem?_map, hl1]; rfl), l1, _, rfl, .inl (.inl (.inl eq1)), _, rfl, _, 1, rfl, rfl, m, ?_, by omega, fun H1 Ch fs s1 nCh eCh hf => ?_⟩
    · rw [List.length_map, ql1, rl1]
      show [V.int (((Builtin.Int.intBits ((2 ^ m : Nat) : Int) : Nat) : Int) - 1)] = _
      rw [bits_pow m3]
    have fl : fs.length = 2 ^ m := by rw [awLen hf, allB_len]
    refine ⟨.ref p, rfl, p, _, rfl, .inl (.inl (.inl (s1 _ _ ep))), _, rfl, RgOk.of_le (by decide) (by rw [List.length_map]; omega) (by decide) (by rw [List.length_map]; omega), fun Ld hLd => ?_⟩
    rw [List.length_map, ldV_range, ll]
    have sLd := same_new (o := .lst (ldV (List.range mac.length))) hLd
    have nLd0 : H1 Ld = none := hLd
    refine ⟨.ref Ld, rfl, .int (one : Int), rfl, .int (other : Int), rfl, ?_⟩
    try unfold tNil
    dsimp only [List.append_nil]
    refine jn_any upd_same (ld_first mac.length) (by rw [List.length_range]; exact h1) (by rw [List.length_range]; exact h2) fun b0 ld0 rk0 rf0 li0 ll0 j0 g0 => ?_
    rw [List.length_range] at ll0
    rw [upd_upd]
    have s12 : Same H1 (upd H1 Ld (.lst (ldV ld0))) := same_new nLd0
    have eLd2 := upd_same (H := H1) (a := Ld) (o := .lst (ldV ld0))
    obtain ⟨H2, hH2⟩ : ∃ H2, H2 = upd H1 Ld (.lst (ldV ld0)) := ⟨_, rfl⟩
    rw [← hH2] at s12 eLd2 ⊢
    refine ⟨.int (one : Int), rfl, .int (other : Int), rfl, (by show 2 ≤ sizeLine; decide), fun Fi hFi => ?_⟩
    have sFi := same_new (o := .tup [.int (one : Int), .int (other : Int)]) hFi
    have eFi := upd_same (H := H2) (a := Fi) (o := .tup [.int (one : Int), .int (other : Int)])
    obtain ⟨H2b, hH2b⟩ : ∃ H2b, H2b = upd H2 Fi (.tup [.int (one : Int), .int (other : Int)]) := ⟨_, rfl⟩
    rw [← hH2b] at sFi eFi ⊢
    have s12b := s12.trans sFi
    intro Wk dx nWk ndx nex
    have kW : ∀ c u, H2b c = some u → upd (upd H2b dx (.own Wk)) Wk (.ins C dx []) c = some u := fun c u e => by
      rw [upd_ne (ne_of_none e nWk), upd_ne (ne_of_none e ndx)]
      exact e
    refine ⟨Wk, dx, Fi, kPt (one, other), rfl, upd_same, keyC (c := [(one : Int), (other : Int)]) (kW _ _ eFi), fun H3 M N W hw nM nN nW kp => ⟨rfl, ?_⟩⟩
    have s3 : Same H2b H3 := fun c u e => kp c u (ne_of_none e nWk) (kW c u e)
    have back : ∀ a : Addr, upd (upd H2b dx (.own Wk)) Wk (.ins C dx []) a = none → H2b a = none := fun a h => by
      cases e : H2b a with
      | none => rfl
      | some u => rw [kW a u e] at h; cases h
    have hM2 := back _ nM
    have hN2 := back _ nN
    have hW2 := back _ nW
    have eLd2b := sFi _ _ eLd2
    have nLM : Ld ≠ M := ne_of_none eLd2b hM2
    have nLN : Ld ≠ N := ne_of_none eLd2b hN2
    have nLW : Ld ≠ W := ne_of_none eLd2b hW2
    have fM : H1 M = none := s12b.free hM2
    have fN : H1 N = none := s12b.free hN2
    have fW : H1 W = none := s12b.free hW2
    have gen0 : ∀ i j, i < mac.length → j < mac.length → rf0 i = rf0 j → EqG [(one, other)] i j := fun i j _ _ e => by
      have o : EqG [(one, other)] one other := .of (q := (one, other)) List.mem_cons_self
      rcases g0 i j e with z | ⟨z1, z2⟩ | ⟨z1, z2⟩
      · have z' : i = j := z
        rw [z']
        exact .rfl j
      · have z1' : i = one := z1
        have z2' : j = other := z2
        rw [z1', z2']
        exact o
      · have z1' : i = other := z1
        have z2' : j = one := z2
        rw [z1', z2']
        exact .symm o
    have rowOf : ∀ {H' : Hp}, Same H H' → ∀ k : Nat, k < mac.length → ∃ l, ls[k]? = some l ∧ RowL H' l (mac.getD k []) ∧ (mac.getD k []).length = 2 ^ m ∧ mac[k]? = some (mac.getD k []) := fun {H'} s' k hk => by
      have e : mac[k]? = some (mac.getD k []) := by rw [List.getD_eq_getElem?_getD, List.getElem?_eq_getElem hk]; rfl
      obtain ⟨l, hl, r⟩ := awGet2 (macl_same s' hmac) e
      exact ⟨l, hl, r, ok.rows _ (List.mem_of_getElem? e), e⟩
    refine ⟨fun n σ H4 => ∃ y7 y8 y9 y10 y11 y12 ps ts wy ld rk rf cu, σ = [some (.ref p), some (.int (one : Int)), some (.int (other : Int)), some (.ref Ch), some (.ref Ld), some (.ref Wk), some (.int ((cu : Nat) : Int)), y7, y8, y9, y10, y11, y12] ∧ WalkAt P w C H4 Wk M N W ts wy ∧ ts.map (·.1) = ps.map kPt ∧ PtJ m mac one other rf ps wy cu ∧ H4 Ld = some (.lst (ldV ld)) ∧ LdI ld rk rf ∧ ld.length = mac.length ∧ cu ≤ ps.length ∧ Same H1 H4 ∧ n = 65537 - cu,
      ⟨_, none, none, none, none, none, none, [(one, other)], [(kPt (one, other), Fi)], [(0, [])], ld0, rk0, rf0, 0, rfl, hw, rfl, PtJ.first' (rk := rk0) (ld := ld0) h1 h2 j0 gen0, s3 _ _ eLd2b, li0, ll0, Nat.zero_le _, s12b.trans s3, rfl⟩, fun n σ H4 hp => ?_⟩
    obtain ⟨y7, y8, y9, y10, y11, y12, ps, ts, wy, ld, rk, rf, cu, rfl, hw4, ek, hB, eLd4, li, lld, hcu, s4, rfl⟩ := hp
    obtain ⟨dxw, ob4⟩ := hw4.ob
    have psl := keys_lenN ek
    have fw0 := pt_few (n := mac.length) (keys_ndN hw4.nd ek) hB.bnd
    have fw : ps.length ≤ 65536 := Nat.le_trans fw0 (Nat.le_trans (Nat.mul_le_mul few few) (by decide))
    refine ⟨.int (cu : Int), rfl, .ref Wk, rfl, Wk, C, dxw, _, _, rfl, ob4, T.cl, T.nM, wF_met _ _ _, M, _, rfl, .inl (.inl (.inl hw4.met)), _, _, rfl, rfl, _, rfl, ite2 (fun e => ?_) (fun e => ?_)⟩
    · have lt : cu < ps.length := by
        have := of_decide_eq_true e
        rw [List.length_map] at this
        omega
      refine ⟨fun σ' H' => ∃ m', m' < 65537 - cu ∧ (∃ y7 y8 y9 y10 y11 y12 ps ts wy ld rk rf cu, σ' = [some (.ref p), some (.int (one : Int)), some (.int (other : Int)), some (.ref Ch), some (.ref Ld), some (.ref Wk), some (.int ((cu : Nat) : Int)), y7, y8, y9, y10, y11, y12] ∧ WalkAt P w C H' Wk M N W ts wy ∧ ts.map (·.1) = ps.map kPt ∧ PtJ m mac one other rf ps wy cu ∧ H' Ld = some (.lst (ldV ld)) ∧ LdI ld rk rf ∧ ld.length = mac.length ∧ cu ≤ ps.length ∧ Same H1 H' ∧ m' = 65537 - cu), fun σ' H' z => z, ?_⟩
      have hti : cu < ts.length := by omega
      obtain ⟨q0, hq0, ht1⟩ := keys_atN ek (List.getElem?_eq_getElem hti)
      have hkey := hw4.keys _ (List.getElem_mem hti)
      rw [ht1] at hkey
      obtain ⟨A, eA0, eA⟩ := kC_at (c := [(q0.1 : Int), (q0.2 : Int)]) hkey.1
      have eA1 : (ts[cu]).2 = A := V.ref.inj eA0
      have bq := hB.bnd q0 (List.mem_of_getElem? hq0)
      refine ⟨.ref Wk, rfl, Wk, C, dxw, _, _, rfl, ob4, T.cl, T.nM, wF_met _ _ _, .int _, rfl, M, _, _, .ref (ts[cu]).2, rfl, rfl, .inl (.inl hw4.met), atI_nat (by rw [List.getElem?_map, List.getElem?_eq_getElem hti]; rfl), ?_⟩
      rw [eA1]
      refine ⟨A, [.int (q0.1 : Int), .int (q0.2 : Int)], rfl, .inl (.inl eA), rfl, .int (q0.1 : Int), [.int (q0.2 : Int)], rfl, .int (q0.2 : Int), [], rfl, rfl, ?_⟩
      have s04 := s1.trans s4
      obtain ⟨lf, hlf, rlf, ln1, em1⟩ := rowOf s04 q0.1 bq.1
      obtain ⟨lg, hlg, rlg, ln2, em2⟩ := rowOf s04 q0.2 bq.2
      have ep4 := s04 _ _ ep
      have eCh4 := s4 _ _ eCh
      refine ⟨.ref Ch, rfl, .ref p, rfl, .int (q0.1 : Int), rfl, p, _, (q0.1 : Int), .ref lf, rfl, rfl, .inl (.inl ep4), atI_nat (by rw [List.getElem?_map, hlf]; rfl), .ref p, rfl, .int (q0.2 : Int), rfl, p, _, (q0.2 : Int), .ref lg, rfl, rfl, .inl (.inl ep4), atI_nat (by rw [List.getElem?_map, hlg]; rfl), lf, lg, _, _, rfl, rlf, rlg, by rw [ln1, ln2], by rw [ln1]; exact p8, fun H7 Bo bo s7 nBo eBo hbo => ?_⟩
      have zl : ((mac.getD q0.1 []).zip (mac.getD q0.2 [])).length = 2 ^ m := by rw [List.length_zip, ln1, ln2, Nat.min_self]
      have zsl : bo.length = 2 ^ m := by rw [awLen hbo, zl]
      have hw7 := hw4.same s7
      have s17 := s4.trans s7
      have eCh7 := s17 _ _ eCh
      obtain ⟨ws4, eW4, _⟩ := id hw4.ways
      have nBM : Bo ≠ M := fun z => by rw [z, hw4.met] at nBo; cases nBo
      have nBN : Bo ≠ N := fun z => by rw [z, hw4.num.ob] at nBo; cases nBo
      have nBW : Bo ≠ W := fun z => by rw [z, eW4] at nBo; cases nBo
      have nBL : Bo ≠ Ld := fun z => by rw [z, eLd4] at nBo; cases nBo
      have nChM : Ch ≠ M := ne_of_none eCh fM
      have nChN : Ch ≠ N := ne_of_none eCh fN
      have nChW : Ch ≠ W := ne_of_none eCh fW
      have nChL : Ch ≠ Ld := ne_of_none eCh nLd0
      refine ⟨Ch, Bo, _, _, rfl, .inl (.inl eCh7), .inl (.inl eBo), for_it (walk_zip (K := K) (a := Ch) (b := Bo) (xs := fs.map V.ref) (ys := bo.map V.ref) (n := 2 ^ m) (by rw [List.length_map, List.length_map, fl, zsl, Nat.min_self])) (fun j σ H8 => ∃ y9 y10 y11 y12 ps' ts' wy' ld' rk' rf', σ = [some (.ref p), some (.int (one : Int)), some (.int (other : Int)), some (.ref Ch), some (.ref Ld), some (.ref Wk), some (.int ((cu : Nat) : Int)), some (.int (q0.1 : Int)), some (.int (q0.2 : Int)), y9, y10, y11, y12] ∧ WalkAt P w C H8 Wk M N W ts' wy' ∧ ts'.map (·.1) = ps'.map kPt ∧ PtC m mac one other rf' ps' wy' cu j q0 ∧ H8 Ld = some (.lst (ldV ld')) ∧ LdI ld' rk' rf' ∧ ld'.length = mac.length ∧ ∀ b u, b ≠ M → b ≠ N → b ≠ W → b ≠ Ld → H7 b = some u → H8 b = some u)
        ⟨y9, y10, y11, y12, ps, ts, wy, ld, rk, rf, rfl, hw7, ek, PtC.first hB hq0, s7 _ _ eLd4, li, lld, fun _ _ _ _ _ _ z => z⟩ (fun j σ H8 _ hp => ?_) (fun j x σ H8 H9 hj hp hy => ?_) (fun σ H8 hp => ?_)⟩
      · obtain ⟨_, _, _, _, _, _, _, _, _, _, _, _, _, _, _, _, _, st⟩ := hp
        exact ⟨.inl (.inl (st _ _ nChM nChN nChW nChL eCh7)), .inl (.inl (st _ _ nBM nBN nBW nBL eBo))⟩
      · obtain ⟨y9, y10, y11, y12, ps', ts', wy', ld', rk', rf', rfl, hw8, ek8, hBP, eLd8, li8, ll8, st⟩ := hp
        obtain ⟨U, x1, x2, rfl, hU, rfl, gg1, gg2⟩ := hy
        have tup7 : ∀ b xs, H7 b = some (.tup xs) → H8 b = some (.tup xs) := fun b xs e => st b _ (ne_of e hw7.met (fun y => nomatch y)) (ne_of e hw7.num.ob (fun y => nomatch y)) (by obtain ⟨ws, e2, _⟩ := hw7.ways; exact ne_of e e2 (fun y => nomatch y)) (ne_of e (s7 _ _ eLd4) (fun y => nomatch y)) e
        have hjf : j < fs.length := by omega
        have hjp : j < bo.length := by omega
        have e1 : x1 = .ref fs[j] := by
          have g1' : (fs.map V.ref)[j]? = some x1 := gg1
          rw [List.getElem?_map, List.getElem?_eq_getElem hjf] at g1'
          exact (Option.some.inj g1').symm
        have e2 : x2 = .ref bo[j] := by
          have g2' : (bo.map V.ref)[j]? = some x2 := gg2
          rw [List.getElem?_map, List.getElem?_eq_getElem hjp] at g2'
          exact (Option.some.inj g2').symm
        subst e1 e2
        obtain ⟨bs, hb1, hb2⟩ := awGet hf (List.getElem?_eq_getElem hjf)
        obtain ⟨be, hs1, ac, hs2, hs3⟩ := awGet hbo (List.getElem?_eq_getElem hjp)
        obtain ⟨hz1, hz2⟩ := List.getElem?_zip_eq_some.mp hs1
        have en1 := ok.ent em1 hb1
        have en2 := ok.ent em2 hb1
        rw [hz1] at en1
        rw [hz2] at en2
        have hbe1 : be.1 = entM mac q0.1 bs := Option.some.inj en1
        have hbe2 : be.2 = entM mac q0.2 bs := Option.some.inj en2
        rw [hbe1, hbe2] at hs2 hs3
        have hbm := List.mem_of_getElem? hb1
        obtain ⟨nx1, nl1⟩ := ok.nx bq.1 hbm
        obtain ⟨nx2, nl2⟩ := ok.nx bq.2 hbm
        rw [nx1, nx2] at hs3
        have sU := same_new (o := .tup [.ref fs[j], .ref bo[j]]) hU
        have eb9 := sU _ _ (tup7 _ _ (s17 _ _ hb2))
        have e29 := sU _ _ (tup7 _ _ hs2)
        have e39 := sU _ _ (tup7 _ _ hs3)
        refine ⟨U, [.ref fs[j], .ref bo[j]], rfl, .inl (.inl upd_same), rfl, .ref fs[j], [.ref bo[j]], rfl, .ref bo[j], [], rfl, bo[j], [.int (entM mac q0.1 bs).1, .int (entM mac q0.2 bs).1, .ref ac], rfl, .inl (.inl e29), rfl, .int (entM mac q0.1 bs).1, [.int (entM mac q0.2 bs).1, .ref ac], rfl, .int (entM mac q0.2 bs).1, [.ref ac], rfl, .ref ac, [], rfl, rfl, rfl, ?_⟩
        obtain ⟨dx8, ob8⟩ := hw8.ob
        have hw9 := hw8.same sU
        have l8 := keys_lenN ek8
        have few8 := Nat.le_trans (pt_few (n := mac.length) (keys_ndN hw8.nd ek8) hBP.i.bnd) (Nat.le_trans (Nat.mul_le_mul few few) (show 256 * 256 ≤ 65536 by decide))
        have wl := hBP.i.len
        have hcl := (List.getElem?_eq_some_iff.mp hBP.here).1
        have st9 : ∀ b u, b ≠ M → b ≠ N → b ≠ W → b ≠ Ld → H7 b = some u → upd H8 U (.tup [.ref fs[j], .ref bo[j]]) b = some u := fun b u n1 n2 n3 n4 e => sU _ _ (st b u n1 n2 n3 n4 e)
        obtain ⟨H9, hH9⟩ : ∃ H9, H9 = upd H8 U (.tup [.ref fs[j], .ref bo[j]]) := ⟨_, rfl⟩
        rw [← hH9] at eb9 e29 e39 hw9 st9 sU ⊢
        have eLd9 := sU _ _ eLd8
        refine ⟨.int (entM mac q0.1 bs).1, rfl, .int (entM mac q0.2 bs).1, rfl, ⟨rfl, _, rfl, ite2 (fun hne => ?_) (fun heq => ?_)⟩⟩
        · have hne' := neT hne
          refine ⟨.ref Wk, rfl, Wk, dx8, _, rfl, sU _ _ ob8, wF_no _ _ _ (by decide +kernel) (by decide +kernel) (by decide +kernel), .int (cu : Int), rfl, Wk, M, N, W, ts', wy', cu, rfl, hw9, by omega, by omega, hBP.i.ways, fun Hx L bl sx nL eL hbl => ?_⟩
          have pl := pth_le wy' cu cu
          have plE : (path wy' cu).length ≤ cu := pl
          have bll := awLen hbl
          refine ⟨.ref fs[j], rfl, (by show 1 ≤ sizeLine; decide), fun L2' hL2 => ?_⟩
          have sL2 := same_new (o := .lst [.ref fs[j]]) hL2
          refine ⟨L, L2', _, _, rfl, rfl, sL2 _ _ eL, upd_same, ?_, fun Cc hCc => ?_⟩
          · rw [List.length_map, sizeLine_eq]
            show bl.length + 1 ≤ _
            omega
          have sCc := same_new (o := .lst (bl.map V.ref ++ [V.ref fs[j]])) hCc
          have sxy := sL2.trans sCc
          have s9y := sx.trans sxy
          have s1y : Same H1 (upd (upd Hx L2' (.lst [.ref fs[j]])) Cc (.lst (bl.map V.ref ++ [V.ref fs[j]]))) := fun b u e => s9y _ _ (st9 b u (ne_of_none e fM) (ne_of_none e fN) (ne_of_none e fW) (ne_of_none e nLd0) (s17 _ _ e))
          have fC : H Cc = none := by
            cases e : H Cc with
            | none => rfl
            | some u =>
              have z := sL2 _ _ (sx _ _ (st9 Cc u (ne_of_none (s1 _ _ e) fM) (ne_of_none (s1 _ _ e) fN) (ne_of_none (s1 _ _ e) fW) (ne_of_none (s1 _ _ e) nLd0) (s17 _ _ (s1 _ _ e))))
              rw [z] at hCc
              cases hCc
          refine qB _ Cc (bl ++ [fs[j]]) (path wy' cu ++ [bs]) (s1.trans s1y) fC (by rw [upd_same, List.map_append]; rfl) (awSnoc (F := fun (f : Addr) (b : List Int) => (upd (upd Hx L2' (.lst [.ref fs[j]])) Cc (.lst (bl.map V.ref ++ [V.ref fs[j]]))) f = some (HO.tup (b.map V.int))) (s9y _ _ eb9) (tat_stay (Same.tups sxy) hbl)) (hBP.parts m1 ok hb1 hne') ?_
          rw [List.length_append]
          show _ + 1 ≤ _
          omega
        · have heq' : (entM mac q0.1 bs).1 = (entM mac q0.2 bs).1 := neF heq
          refine ⟨.ref Ld, rfl, .ref ac, rfl, ac, _, 0, .int ((nxM mac q0.1 bs : Nat) : Int), rfl, rfl, SqT.of e39, rfl, .ref ac, rfl, ac, _, 1, .int ((nxM mac q0.2 bs : Nat) : Int), rfl, rfl, SqT.of e39, rfl, Ld, nxM mac q0.1 bs, nxM mac q0.2 bs, ld', rk', rf', rfl, eLd9, li8, by omega, by omega, fun e ld2 li2 n2 => ?_, fun e ld2 rk2 li2 n2 => ?_⟩
          · have nob : ∀ b u, b ≠ Ld → H9 b = some u → upd H9 Ld (.lst (ldV ld2)) b = some u := fun b u n z => by rw [upd_ne n]; exact z
            refine ⟨false, rfl, iteF ?_⟩
            refine ⟨_, _, _, _, ps', ts', wy', ld2, rk', rf', rfl, hw9.stay (tups_put eLd9) (fun c u hc z => ?_), ek8, hBP.old ok hb1 ⟨heq', e⟩, upd_same, li2, by omega, fun b u n1 n2 n3 n4 z => nob _ _ n4 (st9 b u n1 n2 n3 n4 z)⟩
            refine nob _ _ ?_ z
            rcases hc with rfl | rfl | rfl | rfl
            · exact ne_of (sU _ _ ob8) eLd9 (fun y => by cases y)
            · exact nLM.symm
            · exact nLN.symm
            · exact nLW.symm
          · have nob : ∀ b u, b ≠ Ld → H9 b = some u → upd H9 Ld (.lst (ldV ld2)) b = some u := fun b u n z => by rw [upd_ne n]; exact z
            have tL := tups_put (o := .lst (ldV ld2)) eLd9
            have hw10 : WalkAt P w C (upd H9 Ld (.lst (ldV ld2))) Wk M N W ts' wy' := hw9.stay tL fun c u hc z => by
              refine nob _ _ ?_ z
              rcases hc with rfl | rfl | rfl | rfl
              · exact ne_of (sU _ _ ob8) eLd9 (fun y => by cases y)
              · exact nLM.symm
              · exact nLN.symm
              · exact nLW.symm
            obtain ⟨dx10, ob10⟩ := hw10.ob
            refine ⟨true, rfl, iteT ?_⟩
            refine ⟨.ref Wk, rfl, Wk, dx10, _, rfl, ob10, wF_meet _ _ _, .ref ac, rfl, .int (cu : Int), rfl, .ref fs[j], rfl, Wk, M, N, W, ac, fs[j], ts', wy', kPt (nxP mac q0 bs), (cu : Int), bs, rfl, hw10, keyC (c := [((nxM mac q0.1 bs : Nat) : Int), ((nxM mac q0.2 bs : Nat) : Int)]) (tL _ _ e39), tL _ _ eb9, by omega, fun Hx ts2 wy2 ix hwx hix hcase kpx => ?_⟩
            obtain ⟨b', hb2'⟩ := hix
            rcases hcase with ⟨rfl, rfl⟩ | ⟨rfl, rfl, rfl, _⟩
            · exfalso
              obtain ⟨c, hc, ec⟩ := keys_atN ek8 hb2'
              rw [← kPt_inj ec] at hc
              exact e (hBP.i.joined _ (List.mem_of_getElem? hc))
            · refine ⟨_, _, _, _, ps' ++ [nxP mac q0 bs], _, _, ld2, rk2, _, rfl, hwx, by rw [List.map_append, List.map_append, ek8]; rfl, hBP.new ok hb1 heq' e, kpx _ _ nLM nLN nLW upd_same, li2, by omega, fun b u n1 n2 n3 n4 z => kpx b u n1 n2 n3 (nob _ _ n4 (st9 b u n1 n2 n3 n4 z))⟩
      · obtain ⟨y9, y10, y11, y12, ps', ts', wy', ld', rk', rf', rfl, hw8, ek8, hBP, eLd8, li8, ll8, st⟩ := hp
        rw [← allB_len m] at hBP
        have hcl := (List.getElem?_eq_some_iff.mp hBP.here).1
        have few8 := Nat.le_trans (pt_few (n := mac.length) (keys_ndN hw8.nd ek8) hBP.i.bnd) (Nat.le_trans (Nat.mul_le_mul few few) (show 256 * 256 ≤ 65536 by decide))
        exact ⟨.int (cu : Int), rfl, _, _, rfl, rfl, 65537 - (cu + 1), by omega, _, _, _, _, _, _, ps', ts', wy', ld', rk', rf', cu + 1, rfl, hw8, ek8, hBP.done ok, eLd8, li8, ll8, by omega, fun b u e => st b u (ne_of_none e fM) (ne_of_none e fN) (ne_of_none e fW) (ne_of_none e nLd0) (s17 _ _ e), rfl⟩
    · have nlt : ¬ cu < ps.length := fun z => e (by
        apply decide_eq_true
        rw [List.length_map]
        omega)
      obtain rfl : cu = ps.length := by omega
      exact qA H4 (s1.trans s4) (hB.alk ok)
def uB : Nat → List (List Int)
  | 0 => [[]]
  | n + 1 => (uB n).map (· ++ [0]) ++ (uB n).map (· ++ [1])
theorem uB_len : ∀ n, (uB n).length = 2 ^ n
  | 0 => rfl
  | n + 1 => by
    show ((uB n).map (· ++ [0]) ++ (uB n).map (· ++ [1])).length = _
    rw [List.length_append, List.length_map, List.length_map, uB_len n, Nat.pow_succ]
    omega
theorem uB_ok : ∀ m, ∀ bs ∈ uB m, bs.length = m ∧ ∀ x ∈ bs, Bit x
  | 0, bs, h => by
    rw [List.mem_singleton.mp h]
    exact ⟨rfl, (fun _ z => nomatch z)⟩
  | m + 1, bs, h => by
    have one : ∀ b : Int, Bit b → bs ∈ (uB m).map (· ++ [b]) → bs.length = m + 1 ∧ ∀ x ∈ bs, Bit x := fun b hb hh => by
      obtain ⟨c, hc, rfl⟩ := List.mem_map.mp hh
      obtain ⟨h1, h2⟩ := uB_ok m c hc
      refine ⟨by rw [List.length_append, h1]; rfl, fun x hx => ?_⟩
      rcases List.mem_append.mp hx with z | z
      · exact h2 x z
      · rw [List.mem_singleton.mp z]; exact hb
    rcases List.mem_append.mp h with z | z
    · exact one 0 bit0 z
    · exact one 1 bit1 z
def contA (H : Hp) (a : Addr) : List Int := match H a with
  | some (.tup vs) => vs.map fun v => match v with | .int i => i | _ => 0
  | _ => []
theorem contA_eq {H : Hp} {a : Addr} {bs : List Int} (h : H a = some (.tup (bs.map V.int))) : contA H a = bs := by
  unfold contA
  rw [h]
  show (bs.map V.int).map _ = bs
  rw [List.map_map]
  exact List.map_id _
theorem tat_cont {H : Hp} : ∀ {fs : List Addr} {l : List (List Int)}, TAt H fs l → l = fs.map (contA H)
  | _, _, .nil => rfl
  | _, _, .cons h t => by
    rw [List.map_cons, contA_eq h, ← tat_cont t]
theorem cont_tat {H : Hp} : ∀ {fs : List Addr}, (∀ f ∈ fs, H f = some (.tup ((contA H f).map V.int))) → TAt H fs (fs.map (contA H))
  | [], _ => .nil
  | f :: fs, h => .cons (h f List.mem_cons_self) (cont_tat fun g hg => h g (List.mem_cons_of_mem _ hg))
theorem sort_uniq {c : List Int → Int} : ∀ {l r : List (List Int)}, l.Perm r → l.Pairwise (fun x y => c x ≤ c y) → r.Pairwise (fun x y => c x < c y) → l = r
  | [], r, p, _, _ => by rw [List.Perm.nil_eq p]
  | x :: l, [], p, _, _ => absurd p.length_eq (by simp)
  | x :: l, y :: r, p, h1, h2 => by
    obtain ⟨h1a, h1b⟩ := List.pairwise_cons.mp h1
    obtain ⟨h2a, h2b⟩ := List.pairwise_cons.mp h2
    have e : x = y := by
      have hx : x ∈ y :: r := p.mem_iff.mp List.mem_cons_self
      have hy : y ∈ x :: l := p.mem_iff.mpr List.mem_cons_self
      rcases List.mem_cons.mp hx with z | z
      · exact z
      · rcases List.mem_cons.mp hy with w | w
        · exact w.symm
        · have a := h2a x z
          have b := h1a y w
          omega
    subst e
    rw [sort_uniq ((List.perm_cons x).mp p) h1b h2b]
theorem awApp {α β : Type} {F : α → β → Prop} : ∀ {l : List α} {l2 : List β} {r : List α} {r2 : List β}, Paired F l l2 → Paired F r r2 → Paired F (l ++ r) (l2 ++ r2)
  | _, _, _, _, .nil, h => h
  | _, _, _, _, .cons a t, h => .cons a (awApp t h)
def unRef : V → Addr
  | .ref a => a
  | _ => 0
theorem perm_ref {a b : List Addr} (h : (a.map V.ref).Perm (b.map V.ref)) : a.Perm b := by
  have := h.map unRef
  rw [List.map_map, List.map_map] at this
  have e : ∀ l : List Addr, l.map (unRef ∘ V.ref) = l := fun l => List.map_id l
  rwa [e, e] at this
theorem uB_sorted {m : Nat} (m3 : m ≤ 3) : (uB m).Perm (allB m) ∧ (allB m).Pairwise (fun x y => TS.code 2 x < TS.code 2 y) := by
  have hm : m = 0 ∨ m = 1 ∨ m = 2 ∨ m = 3 := by omega
  rcases hm with rfl | rfl | rfl | rfl
  · exact ⟨by decide +kernel, by decide +kernel⟩
  · exact ⟨by decide +kernel, by decide +kernel⟩
  · exact ⟨by decide +kernel, by decide +kernel⟩
  · exact ⟨by decide +kernel, by decide +kernel⟩
theorem refs_of {fs : List Addr} : ∀ ys : List V, (∀ y ∈ ys, ∃ g, g ∈ fs ∧ y = .ref g) → ∃ fs2 : List Addr, ys = fs2.map V.ref ∧ ∀ g ∈ fs2, g ∈ fs
  | [], _ => ⟨[], rfl, (fun _ z => nomatch z)⟩
  | y :: ys, all => by
    obtain ⟨g, hg, rfl⟩ := all y List.mem_cons_self
    obtain ⟨fs2, rfl, h2⟩ := refs_of ys fun z hz => all z (List.mem_cons_of_mem _ hz)
    refine ⟨g :: fs2, rfl, fun z hz => ?_⟩
    rcases List.mem_cons.mp hz with rfl | hz
    · exact hg
    · exact h2 z hz
set_option maxHeartbeats 1000000 in
theorem ok_lab {f : Addr} {fd : FuncData} {k : Nat} (F : Fun K "_law_all_bits" "_law_all_bits" s_law_all_bits f fd) (mr : mg "range" = none) (ms : mg "sorted" = none) : FnOk P w K mg base CX0 (k + 1) f fd ["many"] (fun vs H Q _ => ∃ m : Nat, vs = [.int (m : Int)] ∧ 1 ≤ m ∧ m ≤ 3 ∧ ∀ H' p fs, Same H H' → H p = none → H' p = some (.lst (fs.map V.ref)) → TAt H' fs (allB m) → Q (.ref p) H') := by
  refine F.ok sc_law_all_bits (fun vs H Q E h => ?_) (fun cdv A outer s H vs Q E hr h => ?_)
  · obtain ⟨m, rfl, _⟩ := h
    rfl
  · obtain ⟨m, rfl, m1, m3, q⟩ := h
    refine ⟨_, pss_cons (ps_set (i := 1) sc_law_all_bits.nd rfl (.inl rfl) (pe_lst (pa_cons (pe_tup pa_nil) pa_nil)))
      (pss_cons (ps_for PassesOwn.never rfl (pi_range1 (by rfl) mr (pa_cons (pv 0) pa_nil)) (pg_name (i := 2) sc_law_all_bits.nd rfl (.inl rfl))
        (pss_one (ps_set (i := 1) sc_law_all_bits.nd rfl (.inl rfl) (pe_op op_cat
          (pe_lc (own := [("some", 3)]) (g := gName 3) (by rfl) sc_law_all_bits.nd (pi_list (pv 1)) (blkOk_by (own := [("some", 3)]) (N := N_law_all_bits) (sc := defScope s_law_all_bits) (by decide +kernel)) (fun _ _ _ _ _ => pg_name (i := 3) sc_law_all_bits.nd rfl (Or.inl rfl)) (fun _ _ _ _ _ => pts_nil) (fun _ _ _ _ _ => pe_op op_catZ (pv 3) (pe_tup (pa_cons pe_int pa_nil))))
          (pe_lc (own := [("some", 3)]) (g := gName 3) (by rfl) sc_law_all_bits.nd (pi_list (pv 1)) (blkOk_by (own := [("some", 3)]) (N := N_law_all_bits) (sc := defScope s_law_all_bits) (by decide +kernel)) (fun _ _ _ _ _ => pg_name (i := 3) sc_law_all_bits.nd rfl (Or.inl rfl)) (fun _ _ _ _ _ => pts_nil) (fun _ _ _ _ _ => pe_op op_catZ (pv 3) (pe_tup (pa_cons pe_int pa_nil))))))))
      (pss_one (ps_ret (pe_callB (cr_sortT (d := m) (B := 2) m1) (by rfl) ms (by decide +kernel) (pa_cons (pv 1) pa_nil))))), ?_⟩
    refine ⟨by show 0 ≤ sizeLine; decide, fun T hT => ?_⟩
    refine ⟨by show 1 ≤ sizeLine; decide, fun L hL => ?_⟩
    have s1 := same_new (o := .tup []) hT
    have s2 := same_new (o := .lst [.ref T]) hL
    refine ⟨.int m, rfl, m, rfl, by omega, by omega, for_range (lo := 0) (n := m) (fun i σ H3 => ∃ y2 F1 fs, σ = [some (.int (m : Int)), some (.ref F1), y2, none] ∧ H3 F1 = some (.lst (fs.map V.ref)) ∧ TAt H3 fs (uB i) ∧ Same H H3) ⟨none, L, [T], rfl, upd_same, .cons (s2 _ _ upd_same) .nil, s1.trans s2⟩ (fun i σ H3 hi hp => ?_) (fun σ H3 hp => ?_)⟩
    · obtain ⟨y2, F1, fs, rfl, eF, hfb, sm⟩ := hp
      have hfl : fs.length = 2 ^ i := by rw [awLen hfb, uB_len]
      have fs8 : fs.length ≤ 8 := by
        rw [hfl]
        exact Nat.le_trans (Nat.pow_le_pow_right (by decide) (show i ≤ 3 by omega)) (by decide)
      refine ⟨.ref F1, rfl, F1, rfl, ⟨_, .inl (.inl eF)⟩, fun M hM => ?_⟩
      refine lc_list (K := K) (a := F1) (xs := fs.map V.ref) (fun j H4 => ∃ gs : List Addr, H4 M = some (.lst (gs.map V.ref)) ∧ TAt H4 gs (((uB i).take j).map (· ++ [0])) ∧ Same H3 H4) ⟨[], upd_same, .nil, same_new hM⟩ (fun j H4 _ hp => ?_) (fun j x H4 hx hp => ?_) (fun H4 hp => ?_)
      · obtain ⟨_, _, _, s4⟩ := hp
        exact .inl (.inl (s4 _ _ eF))
      · obtain ⟨gs, eM, hgb, s4⟩ := hp
        rw [List.getElem?_map] at hx
        obtain ⟨g0, hg0, rfl⟩ := Option.map_eq_some_iff.mp hx
        obtain ⟨bs, hbs, eg⟩ := awGet hfb hg0
        have eg0 : H4 g0 = some (.tup (bs.map V.int)) := s4 _ _ eg
        have hj := (List.getElem?_eq_some_iff.mp hg0).1
        have hbl := (uB_ok i bs (List.mem_of_getElem? hbs)).1
        have hgl := awLen hgb
        rw [List.length_map, List.length_take] at hgl
        refine ⟨rfl, .ref g0, rfl, by show 1 ≤ sizeLine; decide, fun U hU => ?_⟩
        have sU := same_new (o := .tup [.int 0]) hU
        refine ⟨g0, U, _, _, rfl, rfl, sU _ _ eg0, upd_same, by rw [List.length_map]; exact Nat.le_of_lt (small1000 (by show bs.length + 1 ≤ 1000; omega)), fun p H5 s5 ep => ?_⟩
        have s45 := sU.trans s5
        have eM5 := s45 _ _ eM
        refine ⟨_, eM5, by rw [List.length_map]; exact small1000 (by omega), gs ++ [p], ?_, ?_, ?_⟩
        · rw [upd_same, List.map_append]
          rfl
        · have tp := tups_put (o := .lst (gs.map V.ref ++ [V.ref p])) eM5
          rw [List.take_add_one, hbs, List.map_append]
          exact tat_stay tp (awSnoc (F := fun (f : Addr) (b : List Int) => H5 f = some (.tup (b.map V.int))) (by rw [ep, List.map_append]; rfl) (tat_stay (Same.tups s45) hgb))
        · intro b u e
          rw [upd_ne (ne_of_none e hM)]
          exact s45 b u (s4 b u e)
      · obtain ⟨gs, eM, hgb, s4⟩ := hp
        refine ⟨.ref F1, rfl, F1, rfl, ⟨_, .inl (.inl (s4 _ _ eF))⟩, fun M2 hM2 => ?_⟩
        refine lc_list (K := K) (a := F1) (xs := fs.map V.ref) (fun j H5 => ∃ hs : List Addr, H5 M2 = some (.lst (hs.map V.ref)) ∧ TAt H5 hs (((uB i).take j).map (· ++ [1])) ∧ Same H4 H5) ⟨[], upd_same, .nil, same_new hM2⟩ (fun j H5 _ hp => ?_) (fun j x H5 hx hp => ?_) (fun H5 hp => ?_)
        · obtain ⟨_, _, _, s5⟩ := hp
          exact .inl (.inl (s5 _ _ (s4 _ _ eF)))
        · obtain ⟨hs, eM2, hhb, s5⟩ := hp
          rw [List.getElem?_map] at hx
          obtain ⟨g0, hg0, rfl⟩ := Option.map_eq_some_iff.mp hx
          obtain ⟨bs, hbs, eg⟩ := awGet hfb hg0
          have eg0 : H5 g0 = some (.tup (bs.map V.int)) := s5 _ _ (s4 _ _ eg)
          have hj := (List.getElem?_eq_some_iff.mp hg0).1
          have hbl := (uB_ok i bs (List.mem_of_getElem? hbs)).1
          have hgl := awLen hhb
          rw [List.length_map, List.length_take] at hgl
          refine ⟨rfl, .ref g0, rfl, by show 1 ≤ sizeLine; decide, fun U hU => ?_⟩
          have sU := same_new (o := .tup [.int 1]) hU
          refine ⟨g0, U, _, _, rfl, rfl, sU _ _ eg0, upd_same, by rw [List.length_map]; exact Nat.le_of_lt (small1000 (by show bs.length + 1 ≤ 1000; omega)), fun p H6 s6 ep => ?_⟩
          have s56 := sU.trans s6
          have eM6 := s56 _ _ eM2
          refine ⟨_, eM6, by rw [List.length_map]; exact small1000 (by omega), hs ++ [p], ?_, ?_, ?_⟩
          · rw [upd_same, List.map_append]
            rfl
          · have tp := tups_put (o := .lst (hs.map V.ref ++ [V.ref p])) eM6
            rw [List.take_add_one, hbs, List.map_append]
            exact tat_stay tp (awSnoc (F := fun (f : Addr) (b : List Int) => H6 f = some (.tup (b.map V.int))) (by rw [ep, List.map_append]; rfl) (tat_stay (Same.tups s56) hhb))
          · intro b u e
            rw [upd_ne (ne_of_none e hM2)]
            exact s56 b u (s5 b u e)
        · obtain ⟨hs, eM2, hhb, s5⟩ := hp
          have ul := uB_len i
          rw [List.length_map, hfl, ← ul, List.take_length] at hhb hgb
          have lg := awLen hgb
          have lh := awLen hhb
          rw [List.length_map] at lg lh
          refine ⟨M, M2, _, _, rfl, rfl, s5 _ _ eM, eM2, by rw [List.length_map, List.length_map]; exact Nat.le_of_lt (small1000 (by omega)), fun p hp => ?_⟩
          have sp := same_new (o := .lst (gs.map V.ref ++ hs.map V.ref)) hp
          refine ⟨some (.int (0 + i)), p, gs ++ hs, rfl, ?_, ?_, ((sm.trans s4).trans s5).trans sp⟩
          · rw [upd_same, List.map_append]
          · exact tat_stay (Same.tups sp) (awApp (tat_stay (Same.tups s5) hgb) hhb)
    · obtain ⟨y2, F1, fs, rfl, eF, hfb, sm⟩ := hp
      have hfl : fs.length = 2 ^ m := by rw [awLen hfb, uB_len]
      have fs8 : fs.length ≤ 8 := by
        rw [hfl]
        exact Nat.le_trans (Nat.pow_le_pow_right (by decide) m3) (by decide)
      have hcont := tat_cont hfb
      have each : ∀ g ∈ fs, ∃ bs, bs ∈ uB m ∧ H3 g = some (.tup (bs.map V.int)) := fun g hg => by
        obtain ⟨i, hi⟩ := List.mem_iff_getElem?.mp hg
        obtain ⟨bs, h1, h2⟩ := awGet hfb hi
        exact ⟨bs, List.mem_of_getElem? h1, h2⟩
      refine ⟨.ref F1, rfl, F1, _, rfl, .inl (.inl eF), by rw [List.length_map]; omega, fun x hx => ?_, fun ys p perm srt hp => ?_⟩
      · obtain ⟨g, hg, rfl⟩ := List.mem_map.mp hx
        obtain ⟨bs, hb, e1⟩ := each g hg
        obtain ⟨e2, e3⟩ := uB_ok m bs hb
        refine ⟨bs, ⟨g, rfl, SqT.of e1⟩, e2, fun y hy => ?_⟩
        rcases e3 y hy with rfl | rfl
        · exact ⟨by decide, by decide⟩
        · exact ⟨by decide, by decide⟩
      · obtain ⟨fs2, rfl, perm2⟩ : ∃ fs2 : List Addr, ys = fs2.map V.ref ∧ ∀ g ∈ fs2, g ∈ fs := by
          have all : ∀ y ∈ ys, ∃ g, g ∈ fs ∧ y = .ref g := fun y hy => by
            obtain ⟨g, hg, e⟩ := List.mem_map.mp (perm.mem_iff.mp hy)
            exact ⟨g, hg, e.symm⟩
          exact refs_of ys all
        have sp := same_new (o := .lst (fs2.map V.ref)) hp
        have pm : fs2.Perm fs := perm_ref perm
        have at2 : ∀ g ∈ fs2, H3 g = some (.tup ((contA H3 g).map V.int)) := fun g hg => by
          obtain ⟨bs, _, e⟩ := each g (perm2 g hg)
          rw [contA_eq e]
          exact e
        have e2 : fs2.map (contA H3) = allB m := by
          obtain ⟨u1, u2⟩ := uB_sorted m3
          refine sort_uniq (c := TS.code 2) ((pm.map _).trans (by rw [← hcont]; exact u1)) ?_ u2
          rw [List.pairwise_map]
          rw [List.pairwise_map] at srt
          refine srt.imp_of_mem fun {a b} ha hb z => z _ _ ⟨a, rfl, SqT.of (at2 a ha)⟩ ⟨b, rfl, SqT.of (at2 b hb)⟩
        refine q _ p fs2 (sm.trans sp) (sm.free hp) upd_same ?_
        rw [← e2]
        exact tat_stay (Same.tups sp) (cont_tat at2)
section sortd
variable {X : Cx}
mutual
inductive DAt (H : Hp) : PyData → V → Prop
  | int (i : Int) : DAt H (.int i) (.int i)
  | tup {a : Addr} {xs : List V} {ds : List PyData} : H a = some (.tup xs) → DAll H ds xs → DAt H (.tuple ds) (.ref a)
  | lst {a : Addr} {xs : List V} {ds : List PyData} : H a = some (.lst xs) → DAll H ds xs → DAt H (.list ds) (.ref a)
inductive DAll (H : Hp) : List PyData → List V → Prop
  | nil : DAll H [] []
  | cons {d : PyData} {v : V} {ds : List PyData} {vs : List V} : DAt H d v → DAll H ds vs → DAll H (d :: ds) (v :: vs)
end
mutual
theorem dat_reads {pins : List (Addr × Obj)} {σ : L2.St} {H : Hp} {s : Shared} (I : Inv X pins σ H s) : ∀ {d : PyData} {v : V}, DAt H d v → ∀ u : Value, RelV v u → ∃ as, Reads s.heap u d as ∧ ∀ b ∈ as, b < s.heap.objs.size
  | _, _, .int i, u, r => by
    obtain ⟨t, rfl⟩ := r
    exact ⟨[], .int _ _, (fun _ z => nomatch z)⟩
  | _, _, .tup (xs := xs) (ds := ds) e hs, u, r => by
    cases r
    obtain ⟨_, its, rv, o, ho, hc, n, hd⟩ := I.hok _ _ e
    obtain ⟨as, h1, h2⟩ := dall_reads I hs its rv
    exact ⟨as, .tuple ho hc hd (by simpa using h1), h2⟩
  | _, _, .lst (xs := xs) (ds := ds) e hs, u, r => by
    cases r
    obtain ⟨_, its, n, rv, ho⟩ := (show ObjOk X.prog X.w H _ _ (.lst xs) from I.hok _ _ e)
    obtain ⟨as, h1, h2⟩ := dall_reads I hs its rv
    exact ⟨_ :: as, .list ho rfl rfl (by simpa using h1), fun b hb => by
      rcases List.mem_cons.mp hb with rfl | hb
      · exact Heap.lt_size ho
      · exact h2 b hb⟩
theorem dall_reads {pins : List (Addr × Obj)} {σ : L2.St} {H : Hp} {s : Shared} (I : Inv X pins σ H s) : ∀ {ds : List PyData} {xs : List V}, DAll H ds xs → ∀ us : List Value, Vals xs us → ∃ as, ReadsAll s.heap us ds as ∧ ∀ b ∈ as, b < s.heap.objs.size
  | _, _, .nil, us, r => by
    cases r
    exact ⟨[], .nil, (fun _ z => nomatch z)⟩
  | _, _, .cons h hs, us, r => by
    cases r with
    | cons r1 r2 =>
      obtain ⟨as, h1, h2⟩ := dat_reads I h _ r1
      obtain ⟨bs, g1, g2⟩ := dall_reads I hs _ r2
      exact ⟨as ++ bs, .cons h1 g1, fun b hb => (List.mem_append.mp hb).elim (h2 b) (g2 b)⟩
end
abbrev DV := PyData × V
def srtD (bs : List DV) : List DV := bs.mergeSort (PySem.W.dataLe false (·.1))
def rSortD : List V → Hp → VK → Prop := fun vs H Q => ∃ (a : Addr) (bs : List DV), vs = [.ref a] ∧ H a = some (.lst (bs.map (·.2))) ∧ (∀ b ∈ bs, DAt H b.1 b.2) ∧ PySem.W.AllAlike (bs.map (·.1)) ∧ PySem.W.Sortable (bs.map (·.1)) ∧ (∀ b ∈ bs, b.1.depth ≤ 8) ∧
  ∀ L, H L = none → Q (.ref L) (upd H L (.lst ((srtD bs).map (·.2))))
theorem zip_each {bs : List DV} {us : List Value} (r : Vals (bs.map (·.2)) us) : PySem.W.EachIs (fun u (b : DV × Value) => u = b.2 ∧ RelV b.1.2 u) us (bs.zip us) := by
  induction bs generalizing us with
  | nil =>
    cases r
    exact .nil
  | cons b bs ih =>
    cases r with
    | cons r1 r2 => exact .cons ⟨rfl, r1⟩ (ih r2)
theorem eachd_snd {α β : Type} : ∀ {l : List α} {k : List (β × α)}, PySem.W.EachIs (fun a (b : β × α) => a = b.2) l k → l = k.map (·.2)
  | _, _, .nil => rfl
  | _, _, .cons h t => by rw [List.map_cons, ← h, ← eachd_snd t]
theorem eachd_imp {α β : Type} {R S : α → β → Prop} : ∀ {l : List α} {k : List β}, (∀ a b, b ∈ k → R a b → S a b) → PySem.W.EachIs R l k → PySem.W.EachIs S l k
  | _, _, _, .nil => .nil
  | _, _, f, .cons h t => .cons (f _ _ List.mem_cons_self h) (eachd_imp (fun a b m => f a b (List.mem_cons_of_mem _ m)) t)
theorem vals_map {α : Type} {f : α → V} {g : α → Value} : ∀ {l : List α}, (∀ b ∈ l, RelV (f b) (g b)) → Vals (l.map f) (l.map g)
  | [], _ => .nil
  | b :: l, h => .cons (h b List.mem_cons_self) (vals_map fun c hc => h c (List.mem_cons_of_mem _ hc))
theorem cr_sortD (hu : X.A.units + 64 < cLine) : CallR X (.builtin "sorted") rSortD := by
  intro pins s σ H vs us Q I r h
  obtain ⟨a, bs, rfl, hs, hd, hal, hso, hdp, q⟩ := h
  obtain ⟨hz, its, n, rv, ho⟩ := (show ObjOk X.prog X.w H _ a (.lst (bs.map (·.2))) from I.hok a _ hs)
  rw [Vals.ref1 r]
  have il := rv.length
  rw [List.length_map] at il
  have e := zip_each rv
  have zl : (bs.zip its).length = bs.length := by rw [List.length_zip]; omega
  have zf : (bs.zip its).map (fun b : DV × Value => b.1.1) = bs.map (·.1) := by
    rw [show (fun b : DV × Value => b.1.1) = (fun d : DV => d.1) ∘ Prod.fst from rfl, ← List.map_map, List.map_fst_zip (by omega)]
  have zm : ∀ b ∈ bs.zip its, b.1 ∈ bs := fun b hb => (List.of_mem_zip hb).1
  have hl : s.heap.IsList a its.toArray := by
    first | exact ⟨_, ho, rfl, n, rfl⟩ | exact ⟨_, ho, rfl, _, rfl⟩
  refine PySem.W.sorted_data (enc := fun b : DV × Value => b.1.1) (bs := bs.zip its) (R := fun v b => v = b.2) hl (eachd_imp (fun _ _ _ z => z.1) e) (eachd_imp (fun u b m z => ?_) e) (by rw [zf]; exact hal) (by rw [zf]; exact hso) (by rw [zl]; rw [List.length_map] at hz; exact hz) (fun b hb => ?_) fun out hlo eo => ?_
  · obtain ⟨as, h1, _⟩ := dat_reads I (hd _ (zm b m)) u z.2
    exact ⟨as, h1⟩
  · have := hdp _ (zm b hb)
    omega
  · have eout := eachd_snd eo
    have rel : ∀ b ∈ bs.zip its, RelV b.1.2 b.2 := by
      have : ∀ {l : List Value} {k : List (DV × Value)}, PySem.W.EachIs (fun u (b : DV × Value) => u = b.2 ∧ RelV b.1.2 u) l k → ∀ b ∈ k, RelV b.1.2 b.2 := by
        intro l k z
        induction z with
        | nil => exact fun _ z => nomatch z
        | cons h _ ih =>
          intro b hb
          rcases List.mem_cons.mp hb with rfl | hb
          · exact h.1 ▸ h.2
          · exact ih b hb
      exact this e
    have mz : ((bs.zip its).mergeSort (PySem.W.dataLe false fun b : DV × Value => b.1.1)).map (·.1) = srtD bs := by
      unfold srtD
      rw [List.map_mergeSort (r := PySem.W.dataLe false fun b : DV × Value => b.1.1) (s := PySem.W.dataLe false (·.1)) (f := Prod.fst) (fun _ _ _ _ => rfl), List.map_fst_zip (by omega)]
    have pm := List.mergeSort_perm (bs.zip its) (PySem.W.dataLe false fun b : DV × Value => b.1.1)
    have rv2 : Vals ((srtD bs).map (·.2)) out := by
      rw [← mz, eout, List.map_map]
      exact vals_map fun b hb => rel b (pm.mem_iff.mp hb)
    obtain ⟨ep, he'⟩ := PyProof.Rows.sortedAll_at s.heap its out.toArray
    have hlen : ((srtD bs).map (·.2)).length ≤ sizeLine := by
      rw [List.length_map]
      unfold srtD
      rw [List.length_mergeSort]
      rw [List.length_map] at hz
      exact hz
    exact ⟨.ref _, upd H (s.heap.objs.size + 1) (.lst ((srtD bs).map (·.2))), I.laid (t' := s.toks) (fun _ _ => PyProof.Rows.sortedAll_old) (Nat.le_succ _) ⟨hlen, out, ep, rv2, he'⟩, rfl, q _ (I.hok.fresh (Nat.le_succ _))⟩
end sortd
section lpm
abbrev Wd := List (List Int)
abbrev encB (b : List Int) : PyData := .tuple (b.map .int)
abbrev encW (w : Wd) : PyData := .list (w.map encB)
abbrev encE (e : Wd × (Nat × Nat)) : PyData := .tuple [encW e.1, .tuple [.int (e.2.1 : Int), .int (e.2.2 : Int)]]
def numA (m a : Nat) (u : Wd) : Nat := u.foldl (fun a b => a * 2 ^ m + idb b) a
theorem numA_lt {m : Nat} (m3 : m ≤ 3) : ∀ (u v : Wd), u.length = v.length → (∀ c ∈ u, c ∈ allB m) → ∀ a a', a < a' → numA m a u < numA m a' v
  | [], [], _, _, a, a', h => h
  | b :: u, c :: v, hl, hu, a, a', h => numA_lt m3 u v (by simpa using hl) (fun x hx => hu x (List.mem_cons_of_mem _ hx)) (a * 2 ^ m + idb b) (a' * 2 ^ m + idb c) (by
      have lb := idb_lt m3 (hu b List.mem_cons_self)
      have := Nat.mul_le_mul_right (2 ^ m) (show a + 1 ≤ a' from h)
      rw [Nat.succ_mul] at this
      omega)
  | [], _ :: _, hl, _, _, _, _ => by simp at hl
  | _ :: _, [], hl, _, _, _, _ => by simp at hl
theorem bits_ord {m : Nat} (m3 : m ≤ 3) : ∀ b ∈ allB m, ∀ c ∈ allB m, b ≠ c → ¬ c < b → idb b < idb c := by
  have hm : m = 0 ∨ m = 1 ∨ m = 2 ∨ m = 3 := by omega
  rcases hm with rfl | rfl | rfl | rfl
  · decide +kernel
  · decide +kernel
  · decide +kernel
  · decide +kernel
theorem encB_alike (b c : List Int) : PySem.W.alike (encB b) (encB c) = true := by
  show PySem.W.alike (.tuple _) (.tuple _) = true
  rw [PySem.W.alike]
  exact PySem.W.alike_ints _ _
theorem encB_eqv (b c : List Int) : PyData.eqv (encB b) (encB c) = decide (b = c) := by
  show PyData.eqv (.tuple _) (.tuple _) = _
  rw [PyData.eqv]
  exact PySem.W.ked_eqvAll _ _
theorem encB_lt (b c : List Int) : PySem.W.dataLt (encB b) (encB c) = decide (b < c) := by
  show PySem.W.dataLt (.tuple _) (.tuple _) = _
  rw [PySem.W.dataLt_tuple]
  exact PySem.W.dataLt_ints _ _
theorem encW_alikeAll : ∀ u v : Wd, PySem.W.alikeAll (u.map encB) (v.map encB) = true
  | [], _ => by simp [PySem.W.alikeAll]
  | _ :: _, [] => by simp [PySem.W.alikeAll]
  | b :: u, c :: v => by
    rw [List.map_cons, List.map_cons, PySem.W.alikeAll, encB_alike, encW_alikeAll u v]
    rfl
theorem encW_alike (u v : Wd) : PySem.W.alike (encW u) (encW v) = true := by
  show PySem.W.alike (.list _) (.list _) = true
  rw [PySem.W.alike]
  exact encW_alikeAll _ _
theorem encE_alike (e e' : Wd × (Nat × Nat)) : PySem.W.alike (encE e) (encE e') = true := by
  show PySem.W.alike (.tuple [_, _]) (.tuple [_, _]) = true
  simp [PySem.W.alike, PySem.W.alikeAll, encW_alikeAll]
theorem encW_eqv : ∀ u v : Wd, PyData.eqvAll (u.map encB) (v.map encB) = true → u = v
  | [], [], _ => rfl
  | [], _ :: _, h => by simp [PyData.eqvAll] at h
  | _ :: _, [], h => by simp [PyData.eqvAll] at h
  | b :: u, c :: v, h => by
    rw [List.map_cons, List.map_cons, PySem.W.eqv_all_cons, encB_eqv, Bool.and_eq_true] at h
    rw [of_decide_eq_true h.1, encW_eqv u v h.2]
theorem num_le {m : Nat} (m3 : m ≤ 3) : ∀ (u v : Wd), u.length = v.length → (∀ c ∈ u, c ∈ allB m) → (∀ c ∈ v, c ∈ allB m) → ∀ a, PySem.W.dataLt (encW v) (encW u) = false → numA m a u ≤ numA m a v
  | [], [], _, _, _, a, _ => Nat.le_refl _
  | [], _ :: _, hl, _, _, _, _ => by simp at hl
  | _ :: _, [], hl, _, _, _, _ => by simp at hl
  | b :: u, c :: v, hl, hu, hv, a, h => by
    have hl' : u.length = v.length := by simpa using hl
    rw [PySem.W.dataLt_list, List.map_cons, List.map_cons, PySem.W.dataLt_cons (encB_alike _ _), encB_eqv] at h
    by_cases e : c = b
    · subst e
      rw [if_pos (by simp), ← PySem.W.dataLt_list] at h
      exact num_le m3 u v hl' (fun x hx => hu x (List.mem_cons_of_mem _ hx)) (fun x hx => hv x (List.mem_cons_of_mem _ hx)) (a * 2 ^ m + idb c) h
    · rw [if_neg (by simp [e]), encB_lt] at h
      have := bits_ord m3 b (hu b List.mem_cons_self) c (hv c List.mem_cons_self) (fun z => e z.symm) (of_decide_eq_false h)
      exact Nat.le_of_lt (numA_lt m3 u v hl' (fun x hx => hu x (List.mem_cons_of_mem _ hx)) (a * 2 ^ m + idb b) (a * 2 ^ m + idb c) (by omega))
theorem numE_le {m : Nat} (m3 : m ≤ 3) {e e' : Wd × (Nat × Nat)} (hl : e.1.length = e'.1.length) (he : ∀ c ∈ e.1, c ∈ allB m) (he' : ∀ c ∈ e'.1, c ∈ allB m) (h : PySem.W.dataLt (encE e') (encE e) = false) : numW m e.1 ≤ numW m e'.1 := by
  have al2 : PySem.W.alike (PyData.tuple [.int (e'.2.1 : Int), .int (e'.2.2 : Int)]) (PyData.tuple [.int (e.2.1 : Int), .int (e.2.2 : Int)]) = true := by simp [PySem.W.alike, PySem.W.alikeAll]
  rw [PySem.W.dataLt_pair (encW_alike _ _) al2] at h
  by_cases z : PyData.eqv (encW e'.1) (encW e.1) = true
  · have z' : PyData.eqvAll (e'.1.map encB) (e.1.map encB) = true := by
      have := z
      rw [show encW e'.1 = .list (e'.1.map encB) from rfl, show encW e.1 = .list (e.1.map encB) from rfl, PyData.eqv] at this
      exact this
    rw [encW_eqv _ _ z']
    exact Nat.le_refl _
  · rw [if_neg z] at h
    exact num_le m3 e.1 e'.1 hl he he' 1 h
theorem dle_pairs (bs : List DV) : (srtD bs).Pairwise (fun x y => PySem.W.dataLt y.1 x.1 = false) := by
  have := List.pairwise_mergeSort (le := PySem.W.dataLe false (fun b : DV => b.1)) (fun a b c h1 h2 => by
    rw [PySem.W.dataLe_eq] at h1 h2 ⊢
    have h1' : PySem.W.dataLt b.1 a.1 = false := by simpa using h1
    have h2' : PySem.W.dataLt c.1 b.1 = false := by simpa using h2
    show (!PySem.W.dataLt c.1 a.1) = true
    cases z : PySem.W.dataLt c.1 a.1 with
    | false => rfl
    | true =>
      rcases PyProof.Rows.lex_negTrans _ _ _ z with y | y
      · exact absurd (y.symm.trans h2') (by decide)
      · exact absurd (y.symm.trans h1') (by decide)) (fun a b => by
    rw [PySem.W.dataLe_eq]
    show (!PySem.W.dataLt b.1 a.1 || !PySem.W.dataLt a.1 b.1) = true
    cases z : PySem.W.dataLt b.1 a.1 with
    | false => rfl
    | true =>
      cases y : PySem.W.dataLt a.1 b.1 with
      | false => rfl
      | true =>
        have := PyProof.Rows.lex_trans _ _ _ z y
        exact absurd (this.symm.trans (PyProof.Rows.lex_irrefl _)) (by decide)) bs
  refine List.Pairwise.imp (fun {a b} h => ?_) this
  rw [PySem.W.dataLe_eq] at h
  simpa using h
end lpm
section lpl
abbrev En := Wd × (Nat × Nat)
variable {m : Nat} {mac : List MRow} {one other : Nat} {M Y : List En} {k : Nat}
theorem numW_len (m3 : m ≤ 3) : ∀ w : Wd, (∀ c ∈ w, c ∈ allB m) → (2 ^ m) ^ w.length ≤ numW m w ∧ numW m w < 2 * (2 ^ m) ^ w.length := by
  refine snocW (fun _ => ⟨Nat.le_refl _, by show 1 < 2 * 1; omega⟩) fun u b ih hu => ?_
  obtain ⟨i1, i2⟩ := ih fun c hc => hu c (List.mem_append_left _ hc)
  have lb := idb_lt m3 (hu b (by simp))
  rw [numW_snoc, List.length_append, List.length_singleton, Nat.pow_succ]
  have h1 := Nat.mul_le_mul_right (2 ^ m) i1
  have h2 := Nat.mul_le_mul_right (2 ^ m) (show numW m u + 1 ≤ 2 * (2 ^ m) ^ u.length from i2)
  rw [Nat.succ_mul, Nat.mul_assoc] at h2
  exact ⟨by omega, by omega⟩
theorem len_le (m1 : 1 ≤ m) (m3 : m ≤ 3) {w v : Wd} (hw : ∀ c ∈ w, c ∈ allB m) (hv : ∀ c ∈ v, c ∈ allB m) (h : numW m w ≤ numW m v) : w.length ≤ v.length := by
  rcases Nat.lt_or_ge v.length w.length with z | z
  · exfalso
    have b2 := two_le m1
    have a := (numW_len m3 w hw).1
    have b := (numW_len m3 v hv).2
    have c : (2 ^ m) ^ (v.length + 1) ≤ (2 ^ m) ^ w.length := Nat.pow_le_pow_right (by omega) z
    rw [Nat.pow_succ] at c
    have d := Nat.mul_le_mul_left ((2 ^ m) ^ v.length) b2
    omega
  · exact z
structure LpI (m : Nat) (mac : List MRow) (one other : Nat) (M : List En) (k : Nat) : Prop where
  first : ([], (one, other)) ∈ M
  cols : ∀ e ∈ M, ∀ c ∈ e.1, c ∈ allB m
  runs : ∀ e ∈ M, e.2 = (runM mac one e.1, runM mac other e.1)
  same : ∀ e ∈ M, outM mac one e.1 = outM mac other e.1
  few : ∀ e ∈ M, e.1.length ≤ k
  done : ∀ e ∈ M, e.1.length < k → ∀ b ∈ allB m, (entM mac e.2.1 b).1 = (entM mac e.2.2 b).1 ∧ ∃ e' ∈ M, e'.2 = nxP mac e.2 b ∧ numW m e'.1 ≤ numW m (e.1 ++ [b])
theorem LpI.start : LpI m mac one other [([], (one, other))] 0 := by
  refine ⟨List.mem_cons_self, ?_, ?_, ?_, ?_, fun _ _ h => absurd h (Nat.not_lt_zero _)⟩ <;> (intro e he; rw [List.mem_singleton.mp he])
  · exact fun _ z => nomatch z
  · rfl
  · rfl
  · exact Nat.le_refl _
theorem num_snoc_le {w u : Wd} {b : List Int} (h : numW m w ≤ numW m u) : numW m (w ++ [b]) ≤ numW m (u ++ [b]) := by
  rw [numW_snoc, numW_snoc]
  have := Nat.mul_le_mul_right (2 ^ m) h
  omega
theorem LpI.cover (m1 : 1 ≤ m) (m3 : m ≤ 3) (h : LpI m mac one other M k) : ∀ u : Wd, (∀ c ∈ u, c ∈ allB m) → (u.length ≤ k ∨ ∀ e ∈ M, e.1.length < k) → outM mac one u = outM mac other u ∧ ∃ e ∈ M, e.2 = (runM mac one u, runM mac other u) ∧ numW m e.1 ≤ numW m u := by
  refine snocW (fun _ _ => ⟨rfl, _, h.first, rfl, Nat.le_refl _⟩) fun u b ih hu hl => ?_
  have hu' : ∀ c ∈ u, c ∈ allB m := fun c hc => hu c (List.mem_append_left _ hc)
  obtain ⟨o, e, he, e2, en⟩ := ih hu' (hl.imp (fun z => by rw [List.length_append] at z; omega) id)
  have el := len_le m1 m3 (h.cols e he) hu' en
  have lt : e.1.length < k := by
    rcases hl with z | z
    · rw [List.length_append, List.length_singleton] at z
      omega
    · exact z e he
  obtain ⟨d1, e', he', d2, d3⟩ := h.done e he lt b (hu b (by simp))
  rw [e2] at d1 d2
  refine ⟨?_, e', he', ?_, Nat.le_trans d3 (num_snoc_le en)⟩
  · rw [outM_snoc, outM_snoc, o, d1]
  · rw [d2, runM_snoc, runM_snoc]
theorem LpI.none (m1 : 1 ≤ m) (m3 : m ≤ 3) (h : LpI m mac one other M k) (hl : ∀ e ∈ M, e.1.length < k) (u : Wd) (hu : ∀ c ∈ u, c ∈ allB m) : outM mac one u = outM mac other u := (h.cover m1 m3 u hu (.inr hl)).1
theorem LpI.found (m1 : 1 ≤ m) (m3 : m ≤ 3) (h : LpI m mac one other M k) {e : En} {b : List Int} (he : e ∈ M) (hk : e.1.length = k) (hb : b ∈ allB m) (ne : (entM mac e.2.1 b).1 ≠ (entM mac e.2.2 b).1)
    (le : ∀ e' ∈ M, e'.1.length = k → ∀ c ∈ allB m, (entM mac e'.2.1 c).1 ≠ (entM mac e'.2.2 c).1 → numW m (e.1 ++ [b]) ≤ numW m (e'.1 ++ [c])) : PartsF m mac one other (e.1 ++ [b]) := by
  have ce : ∀ c ∈ e.1 ++ [b], c ∈ allB m := fun c hc => by
    rcases List.mem_append.mp hc with z | z
    · exact h.cols e he c z
    · rw [List.mem_singleton.mp z]
      exact hb
  refine ⟨⟨e.1, b, rfl, ce, h.same e he, ?_⟩, fun w => ?_⟩
  · rw [h.runs e he] at ne
    exact ne
  · have : w = [] ∨ ∃ v c, w = v ++ [c] := by
      rcases List.eq_nil_or_concat w with z | ⟨v, c, z⟩
      · exact .inl z
      · exact .inr ⟨v, c, by rw [z, List.concat_eq_append]⟩
    intro hw hd
    rcases Nat.lt_or_ge (k + 1) w.length with z | z
    · have a := (numW_len m3 _ ce).2
      have b' := (numW_len m3 w hw).1
      rw [List.length_append, List.length_singleton, hk] at a
      have b2 := two_le m1
      have c : (2 ^ m) ^ (k + 1 + 1) ≤ (2 ^ m) ^ w.length := Nat.pow_le_pow_right (by omega) z
      rw [Nat.pow_succ] at c
      have d := Nat.mul_le_mul_left ((2 ^ m) ^ (k + 1)) b2
      omega
    · rcases this with rfl | ⟨v, c, rfl⟩
      · exact absurd rfl hd
      · rw [List.length_append, List.length_singleton] at z
        have hv : ∀ x ∈ v, x ∈ allB m := fun x hx => hw x (List.mem_append_left _ hx)
        have hc := hw c (by simp)
        obtain ⟨o, e', he', e2, en⟩ := h.cover m1 m3 v hv (.inl (by omega))
        have el := len_le m1 m3 (h.cols e' he') hv en
        have nz : (entM mac e'.2.1 c).1 ≠ (entM mac e'.2.2 c).1 := fun y => hd (by
          rw [e2] at y
          rw [outM_snoc, outM_snoc, o, y])
        rcases Nat.lt_or_ge e'.1.length k with y | y
        · exact absurd (h.done e' he' y c hc).1 nz
        · exact Nat.le_trans (le e' he' (by have := h.few e' he'; omega) c hc nz) (num_snoc_le en)
theorem LpI.next (h : LpI m mac one other M k) (ag : ∀ e ∈ M, e.1.length = k → ∀ b ∈ allB m, (entM mac e.2.1 b).1 = (entM mac e.2.2 b).1)
    (hy : ∀ y ∈ Y, ∃ e ∈ M, e.1.length = k ∧ ∃ b ∈ allB m, y = (e.1 ++ [b], nxP mac e.2 b))
    (cv : ∀ e ∈ M, e.1.length = k → ∀ b ∈ allB m, ∃ e' ∈ M ++ Y, e'.2 = nxP mac e.2 b ∧ numW m e'.1 ≤ numW m (e.1 ++ [b])) : LpI m mac one other (M ++ Y) (k + 1) := by
  refine ⟨List.mem_append_left _ h.first, fun y hyy => ?_, fun y hyy => ?_, fun y hyy => ?_, fun y hyy => ?_, fun y hyy lt b hb => ?_⟩
  · rcases List.mem_append.mp hyy with z | z
    · exact h.cols y z
    · obtain ⟨e, he, hk, b, hb, rfl⟩ := hy y z
      intro c hc
      rcases List.mem_append.mp hc with z | z
      · exact h.cols e he c z
      · rw [List.mem_singleton.mp z]
        exact hb
  · rcases List.mem_append.mp hyy with z | z
    · exact h.runs y z
    · obtain ⟨e, he, hk, b, hb, rfl⟩ := hy y z
      show nxP mac e.2 b = _
      rw [runM_snoc, runM_snoc, h.runs e he]
  · rcases List.mem_append.mp hyy with z | z
    · exact h.same y z
    · obtain ⟨e, he, hk, b, hb, rfl⟩ := hy y z
      have := ag e he hk b hb
      rw [h.runs e he] at this
      show outM mac one (e.1 ++ [b]) = outM mac other (e.1 ++ [b])
      rw [outM_snoc, outM_snoc, h.same e he, this]
  · rcases List.mem_append.mp hyy with z | z
    · have := h.few y z
      omega
    · obtain ⟨e, he, hk, b, hb, rfl⟩ := hy y z
      show (e.1 ++ [b]).length ≤ _
      rw [List.length_append, hk]
      exact Nat.le_refl _
  · have hm : y ∈ M := by
      rcases List.mem_append.mp hyy with z | z
      · exact z
      · obtain ⟨e, he, hk, b, hb, rfl⟩ := hy y z
        have : (e.1 ++ [b]).length < k + 1 := lt
        rw [List.length_append, hk] at this
        exact absurd this (Nat.lt_irrefl _)
    rcases Nat.lt_or_ge y.1.length k with z | z
    · obtain ⟨a, e', he', c⟩ := h.done y hm z b hb
      exact ⟨a, e', List.mem_append_left _ he', c⟩
    · have hk : y.1.length = k := by omega
      exact ⟨ag y hm hk b hb, cv y hm hk b hb⟩
end lpl
def rNeL0 : R2 := fun x y H Q => ∃ (a b : Addr) (xs : List V), x = .ref a ∧ y = .ref b ∧ H a = some (.lst xs) ∧ H b = some (.lst []) ∧ Q (.bl (!xs.isEmpty)) H
theorem op_neL0 {X : Cx} (hu : X.A.units + 64 < cLine) : OpR X (compareOp .NotEq) rNeL0 := by
  intro pins s σ H x y v u Q I rx ry h
  obtain ⟨a, b, xs, rfl, rfl, ea, eb, q⟩ := h
  cases rx
  cases ry
  obtain ⟨i1, rv1, h1, _⟩ := I.list (.inl (.inl ea))
  obtain ⟨i2, rv2, h2, _⟩ := I.list (.inl (.inl eb))
  cases rv2
  cases rv1 with
  | nil =>
    have r := SeqAt.RcNeAt.lists (A := X.A) (s := s) (e := fun _ => true) h1.isList h2.isList rfl (by omega) (fun j j1 _ => absurd j1 (by simp))
    exact r _ _ _ _ ⟨.bl false, H, I, rfl, q⟩
  | cons r rs =>
    have r := SeqAt.RcNeAt.lists_lengths (A := X.A) (s := s) h1.isList h2.isList (by simp) (by omega)
    exact r _ _ _ _ ⟨.bl true, H, I, rfl, q⟩
def EnAt (Z : Addr → Prop) (H : Hp) (t : Addr) (e : En) : Prop := ∃ l q fs, ¬ Z l ∧ H t = some (.tup [.ref l, .ref q]) ∧ H l = some (.lst (fs.map V.ref)) ∧ TAt H fs e.1 ∧ H q = some (.tup [.int (e.2.1 : Int), .int (e.2.2 : Int)])
def WdAt (Z : Addr → Prop) (H : Hp) (l : Addr) (w : Wd) : Prop := ¬ Z l ∧ ∃ fs, H l = some (.lst (fs.map V.ref)) ∧ TAt H fs w
abbrev PqAt (H : Hp) (q : Addr) (p : Nat × Nat) : Prop := H q = some (.tup [.int (p.1 : Int), .int (p.2 : Int)])
theorem EnAt.stay {Z : Addr → Prop} {H H' : Hp} {t : Addr} {e : En} (T : TupsStay H H') (F : ∀ b u, ¬ Z b → H b = some u → H' b = some u) (h : EnAt Z H t e) : EnAt Z H' t e := by
  obtain ⟨l, q, fs, a, b, c, d, e'⟩ := h
  exact ⟨l, q, fs, a, T _ _ b, F _ _ a c, tat_stay T d, T _ _ e'⟩
theorem EnAt.turn {Z Z' : Addr → Prop} {H : Hp} {t : Addr} {e : En} (f : ∀ l o, ¬ Z l → H l = some o → ¬ Z' l) (h : EnAt Z H t e) : EnAt Z' H t e := by
  obtain ⟨l, q, fs, a, b, c, d, e'⟩ := h
  exact ⟨l, q, fs, f _ _ a c, b, c, d, e'⟩
theorem WdAt.stay {Z : Addr → Prop} {H H' : Hp} {l : Addr} {w : Wd} (T : TupsStay H H') (F : ∀ b u, ¬ Z b → H b = some u → H' b = some u) (h : WdAt Z H l w) : WdAt Z H' l w := by
  obtain ⟨a, fs, c, d⟩ := h
  exact ⟨a, fs, F _ _ a c, tat_stay T d⟩
theorem dall_bits {H : Hp} : ∀ {fs : List Addr} {w : Wd}, TAt H fs w → DAll H (w.map encB) (fs.map V.ref)
  | _, _, .nil => .nil
  | _, _, .cons h t => .cons (.tup h (dall_nums _)) (dall_bits t)
where dall_nums {H : Hp} : ∀ xs : List Int, DAll H (xs.map PyData.int) (xs.map V.int)
  | [] => .nil
  | x :: xs => .cons (.int x) (dall_nums xs)
theorem WdAt.dat {Z : Addr → Prop} {H : Hp} {l : Addr} {w : Wd} (h : WdAt Z H l w) : DAt H (encW w) (.ref l) := by
  obtain ⟨_, fs, c, d⟩ := h
  exact .lst c (dall_bits d)
theorem EnAt.dat {Z : Addr → Prop} {H : Hp} {t : Addr} {e : En} (h : EnAt Z H t e) : DAt H (encE e) (.ref t) := by
  obtain ⟨l, q, fs, a, b, c, d, e'⟩ := h
  exact .tup b (.cons (.lst c (dall_bits d)) (.cons (.tup e' (.cons (.int _) (.cons (.int _) .nil))) .nil))
theorem depth_encB : ∀ w : Wd, PyData.depthAll (w.map encB) ≤ 1
  | [] => by simp [PyData.depthAll]
  | b :: w => by
    show PyData.depthAll (.tuple (b.map .int) :: w.map encB) ≤ 1
    rw [PyData.depthAll, PyData.depth, PySem.W.depth_ints]
    have := depth_encB w
    omega
theorem depth_encW (w : Wd) : (encW w).depth ≤ 2 := by
  show PyData.depth (.list _) ≤ 2
  rw [PyData.depth]
  have := depth_encB w
  omega
theorem depth_encE (e : En) : (encE e).depth ≤ 8 := by
  have := depth_encW e.1
  show PyData.depth (.tuple [encW e.1, .tuple [.int _, .int _]]) ≤ 8
  simp only [PyData.depth, PyData.depthAll]
  have h2 : PyData.depth (encW e.1) ≤ 2 := this
  simp only [PyData.depth] at h2
  omega
/-- things with what they are, sorted -/
def srtB {β : Type} (enc : β → PyData) (bs : List (β × Addr)) : List (β × Addr) := bs.mergeSort (PySem.W.dataLe false fun b => enc b.1)
theorem srtB_map {β : Type} (enc : β → PyData) (bs : List (β × Addr)) : srtD (bs.map fun b => (enc b.1, V.ref b.2)) = (srtB enc bs).map fun b => (enc b.1, V.ref b.2) := by
  unfold srtD srtB
  rw [List.map_mergeSort (r := PySem.W.dataLe false fun b : β × Addr => enc b.1) (s := PySem.W.dataLe false (·.1)) (f := fun b : β × Addr => (enc b.1, V.ref b.2)) (fun _ _ _ _ => rfl)]
theorem srtB_mem {β : Type} {enc : β → PyData} {bs : List (β × Addr)} {x : β × Addr} : x ∈ srtB enc bs ↔ x ∈ bs := (List.mergeSort_perm _ _).mem_iff
theorem srtB_pw {β : Type} (enc : β → PyData) (bs : List (β × Addr)) : (srtB enc bs).Pairwise fun x y => PySem.W.dataLt (enc y.1) (enc x.1) = false := by
  have := dle_pairs (bs.map fun b => (enc b.1, V.ref b.2))
  rw [srtB_map, List.pairwise_map] at this
  exact this
theorem pairedZip {α β : Type} {F : β → α → Prop} : ∀ {l : List β} {k : List α}, Paired F l k → ∀ x ∈ k.zip l, F x.2 x.1
  | _, _, .nil, _, z => nomatch z
  | _, _, .cons h t, x, z => by
    rcases List.mem_cons.mp z with rfl | z
    · exact h
    · exact pairedZip t x z
/-- what was looked at: entries with bits -/
abbrev Pb := En × List Int
def difP (mac : List MRow) (x : Pb) : Bool := decide ((entM mac x.1.2.1 x.2).1 ≠ (entM mac x.1.2.2 x.2).1)
def endsP (mac : List MRow) (ps : List Pb) : List Wd := (ps.filter (difP mac)).map fun x => x.1.1 ++ [x.2]
def latP (mac : List MRow) (ps : List Pb) : List En := ps.map fun x => (x.1.1 ++ [x.2], nxP mac x.1.2 x.2)
def allP (m : Nat) (l : List En) : List Pb := l.flatMap fun e => (allB m).map (Prod.mk e)
theorem allP_snoc (m : Nat) (l : List En) (e : En) : allP m (l ++ [e]) = allP m l ++ (allB m).map (Prod.mk e) := by
  unfold allP
  rw [List.flatMap_append]
  simp
theorem allP_mem {m : Nat} {l : List En} {x : Pb} : x ∈ allP m l ↔ x.1 ∈ l ∧ x.2 ∈ allB m := by
  unfold allP
  rw [List.mem_flatMap]
  constructor
  · rintro ⟨e, he, hx⟩
    obtain ⟨b, hb, rfl⟩ := List.mem_map.mp hx
    exact ⟨he, hb⟩
  · rintro ⟨he, hb⟩
    exact ⟨x.1, he, List.mem_map.mpr ⟨x.2, hb, rfl⟩⟩
theorem allP_len (m : Nat) (l : List En) : (allP m l).length = l.length * 2 ^ m := by
  induction l with
  | nil => simp [allP]
  | cons e l ih =>
    have : allP m (e :: l) = (allB m).map (Prod.mk e) ++ allP m l := by
      unfold allP
      rw [List.flatMap_cons]
    rw [this, List.length_append, List.length_map, allB_len, ih, List.length_cons, Nat.succ_mul]
    omega
theorem endsP_snoc (mac : List MRow) (ps : List Pb) (x : Pb) : endsP mac (ps ++ [x]) = endsP mac ps ++ (if difP mac x = true then [x.1.1 ++ [x.2]] else []) := by
  unfold endsP
  rw [List.filter_append, List.map_append]
  cases h : difP mac x <;> simp [h]
theorem latP_snoc (mac : List MRow) (ps : List Pb) (x : Pb) : latP mac (ps ++ [x]) = latP mac ps ++ [(x.1.1 ++ [x.2], nxP mac x.1.2 x.2)] := by
  unfold latP
  rw [List.map_append]
  rfl
theorem endsP_len (mac : List MRow) (ps : List Pb) : (endsP mac ps).length ≤ ps.length := by
  unfold endsP
  rw [List.length_map]
  exact List.length_filter_le _ _
theorem tat_snoc {H : Hp} {fs : List Addr} {w : Wd} {f : Addr} {b : List Int} (h : TAt H fs w) (e : H f = some (.tup (b.map V.int))) : TAt H (fs ++ [f]) (w ++ [b]) := awSnoc (F := fun (f : Addr) (b : List Int) => H f = some (.tup (b.map V.int))) e h
theorem sortB {β : Type} {enc : β → PyData} {H : Hp} {a : Addr} {U : List (β × Addr)} {Q : VK} (e : H a = some (.lst (U.map fun b => V.ref b.2))) (hd : ∀ b ∈ U, DAt H (enc b.1) (.ref b.2)) (al : ∀ b b', PySem.W.alike (enc b) (enc b') = true) (so : PySem.W.Sortable (U.map fun b => enc b.1)) (dp : ∀ b, (enc b).depth ≤ 8)
    (q : ∀ L, H L = none → Q (.ref L) (upd H L (.lst ((srtB enc U).map fun b => V.ref b.2)))) : rSortD [.ref a] H Q := by
  refine ⟨a, U.map fun b => (enc b.1, V.ref b.2), rfl, by rw [List.map_map]; exact e, fun b hb => ?_, ?_, by rw [List.map_map]; exact so, fun b hb => ?_, fun L hL => ?_⟩
  · obtain ⟨c, hc, rfl⟩ := List.mem_map.mp hb
    exact hd c hc
  · rw [List.map_map]
    exact PySem.W.AllAlike.of (enc := fun b : β × Addr => enc b.1) fun b b' => al _ _
  · obtain ⟨c, hc, rfl⟩ := List.mem_map.mp hb
    exact dp _
  · rw [srtB_map, List.map_map]
    exact q L hL
theorem zipSnd {α : Type} {F : Addr → α → Prop} {l : List Addr} {k : List α} (h : Paired F l k) : (k.zip l).map (fun b => V.ref b.2) = (l.map V.ref) := by
  have : (k.zip l).map Prod.snd = l := List.map_snd_zip (by rw [awLen h]; exact Nat.le_refl _)
  rw [show (fun b : α × Addr => V.ref b.2) = V.ref ∘ Prod.snd from rfl, ← List.map_map, this]
theorem zipMem {α β : Type} {F : β → α → Prop} : ∀ {l : List β} {k : List α}, Paired F l k → ∀ w ∈ k, ∃ a, (w, a) ∈ k.zip l
  | _, _, .nil, _, z => nomatch z
  | _, _, .cons h t, w, z => by
    rcases List.mem_cons.mp z with rfl | z
    · exact ⟨_, List.mem_cons_self⟩
    · obtain ⟨a, ha⟩ := zipMem t w z
      exact ⟨a, List.mem_cons_of_mem _ ha⟩
abbrev pqD (p : Nat × Nat) : PyData := .tuple ([(p.1 : Int), (p.2 : Int)].map PyData.int)
theorem pq_shaped (p : Nat × Nat) : SeqAt.shaped (pqD p) = true := by
  obtain ⟨h1, h2⟩ := lay_ints [(p.1 : Int), (p.2 : Int)]
  simp only [SeqAt.shaped, PyData.canLay0, PyData.depth, h1, h2, Bool.true_and]
  decide
theorem lay_pqs : ∀ l : List (Nat × Nat), PyData.canLayAll0 (l.map pqD) = true ∧ PyData.depthAll (l.map pqD) ≤ 1
  | [] => ⟨by simp only [List.map_nil, PyData.canLayAll0], by simp only [List.map_nil, PyData.depthAll]; decide⟩
  | c :: l => by
    obtain ⟨h1, h2⟩ := lay_pqs l
    obtain ⟨g1, g2⟩ := lay_ints [(c.1 : Int), (c.2 : Int)]
    refine ⟨by rw [List.map_cons]; simp only [PyData.canLayAll0, PyData.canLay0, h1, g1, Bool.and_self], ?_⟩
    rw [List.map_cons, PyData.depthAll, PyData.depth, g2]
    omega
theorem pqs_shaped (l : List (Nat × Nat)) : SeqAt.shaped (.list (l.map pqD)) = true := by
  obtain ⟨h1, h2⟩ := lay_pqs l
  have h3 : PyData.depthAll (l.map pqD) = 0 ∨ PyData.depthAll (l.map pqD) = 1 := by omega
  rcases h3 with h3 | h3
  · simp only [SeqAt.shaped, PyData.canLay0, PyData.depth, h1, h3, Bool.true_and]
    decide
  · simp only [SeqAt.shaped, PyData.canLay0, PyData.depth, h1, h3, Bool.true_and]
    decide
theorem dp_pqs {H : Hp} : ∀ {qs : List Addr} {ps : List (Nat × Nat)}, Paired (PqAt H) qs ps → DpAll K H (qs.map V.ref) (ps.map pqD)
  | _, _, .nil => .nil
  | _, _, .cons h t => .cons (.tup (SqT.of h) (dp_ints [_, _])) (dp_pqs t)
theorem eqv_pq (p q : Nat × Nat) : PyData.eqv (pqD p) (pqD q) = decide (p = q) := by
  show PyData.eqv (.tuple _) (.tuple _) = _
  rw [PyData.eqv, PySem.W.ked_eqvAll]
  refine decide_eq_decide.mpr ⟨fun h => ?_, fun h => by rw [h]⟩
  injection h with a b
  injection b with b _
  exact Prod.ext (by omega) (by omega)
theorem any_pq (q : Nat × Nat) : ∀ l : List (Nat × Nat), ((l.map pqD).any fun z => PyData.eqv z (pqD q)) = decide (q ∈ l)
  | [] => by simp
  | p :: l => by
    rw [List.map_cons, List.any_cons, eqv_pq, any_pq q l]
    by_cases h : p = q
    · simp [h]
    · have h' : ¬ q = p := fun z => h z.symm
      simp [h, h']
theorem num_len_lt {m : Nat} (m1 : 1 ≤ m) (m3 : m ≤ 3) {w v : Wd} (hw : ∀ c ∈ w, c ∈ allB m) (hv : ∀ c ∈ v, c ∈ allB m) (h : w.length < v.length) : numW m w ≤ numW m v := by
  rcases Nat.lt_or_ge (numW m v) (numW m w) with z | z
  · have := len_le m1 m3 hv hw (Nat.le_of_lt z)
    omega
  · exact z
def spLpt : Sp := fun vs H Q _ => ∃ (p : Addr) (m one other : Nat) (ls : List Addr) (mac : List MRow), vs = [.ref p, .int (m : Int), .int (one : Int), .int (other : Int)] ∧ H p = some (.lst (ls.map V.ref)) ∧ MacL H ls mac ∧ 1 ≤ m ∧ MxOk m mac ∧ mac.length ≤ 9 ∧ one < mac.length ∧ other < mac.length ∧
  (∀ H', Same H H' → (∀ u : Wd, (∀ c ∈ u, c ∈ allB m) → outM mac one u = outM mac other u) → Q .non H') ∧
  (∀ H' l way, Same H H' → (∃ fs, H' l = some (.lst (fs.map V.ref)) ∧ TAt H' fs way) → PartsF m mac one other way → way.length ≤ 1000 → Q (.ref l) H')
def LpJ (p Ev M : Addr) (m one other : Nat) (mac : List MRow) (B : Hp) (n : Nat) (σ : L2.St) (H : Hp) : Prop := ∃ (y7 y8 y9 y10 y11 y12 y13 y14 : Option V) (Ly : Addr) (qs ts : List Addr) (Mn Ls : List En) (kk : Nat),
  σ = [some (.ref p), some (.int (m : Int)), some (.int (one : Int)), some (.int (other : Int)), some (.ref Ev), some (.ref M), some (.ref Ly), y7, y8, y9, y10, y11, y12, y13, y14] ∧
  H M = some (.lst (qs.map V.ref)) ∧ Paired (PqAt H) qs (Mn.map (·.2)) ∧ (Mn.map (·.2)).Nodup ∧ (∀ e ∈ Mn, e.2.1 < mac.length ∧ e.2.2 < mac.length) ∧
  Ly ≠ M ∧ H Ly = some (.lst (ts.map V.ref)) ∧ Paired (EnAt (· = M) H) ts Ls ∧ (∀ e, e ∈ Ls ↔ e ∈ Mn ∧ e.1.length = kk) ∧ Ls.length ≤ Mn.length ∧
  LpI m mac one other Mn kk ∧ kk ≤ Mn.length ∧ (Ls ≠ [] → kk + 1 ≤ Mn.length) ∧ Same B H ∧ n = 2 * (200 - Mn.length) + (if Ls = [] then 0 else 1)
set_option maxHeartbeats 8000000 in
theorem ok_lp {f fB : Addr} {fd fdB : FuncData} {k : Nat} (F : Fun K "_law_parted" "_law_parted" s_law_parted f fd)
    (GB : FnOk P w K mg base CX0 (k + 1) fB fdB ["many"] (fun vs H Q _ => ∃ m : Nat, vs = [.int (m : Int)] ∧ 1 ≤ m ∧ m ≤ 3 ∧ ∀ H' p fs, Same H H' → H p = none → H' p = some (.lst (fs.map V.ref)) → TAt H' fs (allB m) → Q (.ref p) H')) (kB : PySem.W.keepIn K (.ref fB) = true) (bB : Binds K fdB ["many"] []) (gB : mg "_law_all_bits" = some (.ref fB))
    (me : mg "enumerate" = none) (ms : mg "sorted" = none) : FnOk P w K mg base CX0 (k + 2) f fd ["machine", "many", "one", "other"] spLpt := by
  refine F.ok sc_law_parted (fun vs H Q E h => ?_) (fun cdv A outer s H vs Q E hr h => ?_)
  · obtain ⟨p, m, one, other, ls, mac, rfl, _⟩ := h
    rfl
  · obtain ⟨p, m, one, other, ls, mac, rfl, ep, hmac, m1, ok, n9, h1, h2, qA, qB⟩ := h
    have hu := hr.units
    have hu65 : (A.deeper (envOfC "_law_parted" (defScope s_law_parted) s.heap.objs.size f cdv)).units + 65 < cLine := by
      have := hr.un
      omega
    have nd := sc_law_parted.nd
    refine ⟨_, pss_cons (ps_set (i := 4) nd rfl (.inl rfl) (pe_call GB hr (by rfl) gB kB bB .nil pass0 (pa_cons (pv 1) pa_nil)))
      (pss_cons (ps_set (i := 5) nd rfl (.inl rfl) (pe_lst (pa_cons (pe_tup (pa_cons (pv 2) (pa_cons (pv 3) pa_nil))) pa_nil)))
      (pss_cons (ps_set (i := 6) nd rfl (.inl rfl) (pe_lst (pa_cons (pe_tup (pa_cons (pe_lst pa_nil) (pa_cons (pe_tup (pa_cons (pv 2) (pa_cons (pv 3) pa_nil))) pa_nil))) pa_nil)))
      (pss_cons (ps_while PassesOwn.never (pt_cmpR (op_neL0 hu) (pv 6) (pe_lst pa_nil) (nomark _))
        (pss_cons (ps_set (i := 7) nd rfl (.inl rfl) (pe_lst pa_nil))
        (pss_cons (ps_set (i := 8) nd rfl (.inl rfl) (pe_lst pa_nil))
        (pss_cons (ps_for PassesOwn.never rfl (pi_list (pv 6)) (pg_tup rfl (pgs_cons (pg_name (i := 9) nd rfl (.inl rfl)) (pgs_cons (pg_name (i := 10) nd rfl (.inl rfl)) pgs_nil)))
          (pss_one (ps_for PassesOwn.never rfl (pi_enum (by rfl) me (pa_cons (pv 4) pa_nil)) (pg_tup rfl (pgs_cons (pg_name (i := 11) nd rfl (.inl rfl)) (pgs_cons (pg_name (i := 12) nd rfl (.inl rfl)) pgs_nil)))
            (pss_cons (ps_par (i := 13) (j := 14) rfl nd rfl rfl (by decide) rfl rfl (pa_cons (pe_ix ix_list (pe_ix ix_list (pv 0) (pe_ix ix_tup (pv 10) pe_int (fun _ _ => rfl)) (fun _ _ => rfl)) (pv 11) (fun _ _ => rfl)) (pa_cons (pe_ix ix_list (pe_ix ix_list (pv 0) (pe_ix ix_tup (pv 10) pe_int (fun _ _ => rfl)) (fun _ _ => rfl)) (pv 11) (fun _ _ => rfl)) pa_nil)) (by rfl))
            (pss_mid (ps_if (pt_cmpR op_ne (pe_ix ix_tup (pv 13) pe_int (fun _ _ => rfl)) (pe_ix ix_tup (pv 14) pe_int (fun _ _ => rfl)) (nomark _)) (pss_one (ps_expr (pe_bm PySem.F.plainAttrs_list PySem.F.slot_list_append PySem.F.type_list_append mt_append (pv 7) (pa_cons (pe_op op_cat (pv 9) (pe_lst (pa_cons (pv 12) pa_nil))) pa_nil)))) pss_nil)
            (pss_one (ps_expr (pe_bm PySem.F.plainAttrs_list PySem.F.slot_list_append PySem.F.type_list_append mt_append (pv 8) (pa_cons (pe_tup (pa_cons (pe_op op_cat (pv 9) (pe_lst (pa_cons (pv 12) pa_nil))) (pa_cons (pe_tup (pa_cons (pe_ix ix_tup (pv 13) pe_int (fun _ _ => rfl)) (pa_cons (pe_ix ix_tup (pv 14) pe_int (fun _ _ => rfl)) pa_nil))) pa_nil))) pa_nil)))))))))
        (pss_cons (ps_if (pt_cmpR (op_neL0 hu) (pv 7) (pe_lst pa_nil) (nomark _)) (pss_one (ps_ret (pe_ix ix_list (pe_callB (cr_sortD hu) (by rfl) ms (by decide +kernel) (pa_cons (pv 7) pa_nil)) pe_int (fun _ _ => rfl)))) pss_nil)
        (pss_cons (ps_set (i := 6) nd rfl (.inl rfl) (pe_lst pa_nil))
        (pss_one (ps_for PassesOwn.never rfl (pi_list (pe_callB (cr_sortD hu) (by rfl) ms (by decide +kernel) (pa_cons (pv 8) pa_nil))) (pg_tup rfl (pgs_cons (pg_name (i := 9) nd rfl (.inl rfl)) (pgs_cons (pg_name (i := 10) nd rfl (.inl rfl)) pgs_nil)))
          (pss_one (ps_if (pt_cmpR (op_notInD hu65) (pv 10) (pv 5) (by rfl))
            (pss_cons (ps_expr (pe_bm PySem.F.plainAttrs_list PySem.F.slot_list_append PySem.F.type_list_append mt_append (pv 5) (pa_cons (pv 10) pa_nil)))
            (pss_one (ps_expr (pe_bm PySem.F.plainAttrs_list PySem.F.slot_list_append PySem.F.type_list_append mt_append (pv 6) (pa_cons (pe_tup (pa_cons (pv 9) (pa_cons (pv 10) pa_nil))) pa_nil))))) pss_nil))))))))))
      (pss_one (ps_ret pe_non))))), ?_⟩
    have m3 := ok.m3
    have few := ok.few
    have p8 : 2 ^ m ≤ 8 := Nat.le_trans (Nat.pow_le_pow_right (by decide) m3) (by decide)
    refine ⟨.int (m : Int), rfl, m, rfl, m1, m3, fun H1 Ev fs s1 nEv eEv hfs => ?_⟩
    have fl : fs.length = 2 ^ m := by rw [awLen hfs, allB_len]
    refine ⟨.int (one : Int), rfl, .int (other : Int), rfl, (by show 2 ≤ sizeLine; decide), fun T0 hT0 => ?_⟩
    have sT0 := same_new (o := .tup [.int (one : Int), .int (other : Int)]) hT0
    have eT0 := upd_same (H := H1) (a := T0) (o := .tup [.int (one : Int), .int (other : Int)])
    have s1B := s1.trans sT0
    have eEvB := sT0 _ _ eEv
    have hfsB := tat_stay (Same.tups sT0) hfs
    obtain ⟨B, hB⟩ : ∃ B, B = upd H1 T0 (.tup [.int (one : Int), .int (other : Int)]) := ⟨_, rfl⟩
    rw [← hB] at s1B eEvB hfsB eT0 ⊢
    refine ⟨(by show 1 ≤ sizeLine; decide), fun M hM => ?_⟩
    have sM := same_new (o := .lst [.ref T0]) hM
    have eM0 := upd_same (H := B) (a := M) (o := .lst [.ref T0])
    obtain ⟨H3, hH3⟩ : ∃ H3, H3 = upd B M (.lst [.ref T0]) := ⟨_, rfl⟩
    rw [← hH3] at sM eM0 ⊢
    refine ⟨(by show 0 ≤ sizeLine; decide), fun L0 hL0 => ?_⟩
    have sL0 := same_new (o := .lst []) hL0
    refine ⟨.int (one : Int), rfl, .int (other : Int), rfl, (by show 2 ≤ sizeLine; decide), fun T1 hT1 => ?_⟩
    have sT1 := same_new (o := .tup [.int (one : Int), .int (other : Int)]) hT1
    refine ⟨(by show 2 ≤ sizeLine; decide), fun T2 hT2 => ?_⟩
    have sT2 := same_new (o := .tup [.ref L0, .ref T1]) hT2
    refine ⟨(by show 1 ≤ sizeLine; decide), fun Ly hLy => ?_⟩
    have sLy := same_new (o := .lst [.ref T2]) hLy
    have nL0M : L0 ≠ M := fun z => by rw [z, eM0] at hL0; cases hL0
    have s3 := sL0.trans (sT1.trans (sT2.trans sLy))
    have eM4 := s3 _ _ eM0
    have nLyM : Ly ≠ M := fun z => by
      rw [z] at hLy
      rw [sT2 _ _ (sT1 _ _ (sL0 _ _ eM0))] at hLy
      cases hLy
    have rowOf : ∀ {H' : Hp}, Same H H' → ∀ k : Nat, k < mac.length → ∃ l, ls[k]? = some l ∧ RowL H' l (mac.getD k []) ∧ (mac.getD k []).length = 2 ^ m ∧ mac[k]? = some (mac.getD k []) := fun {H'} s' k hk => by
      have e : mac[k]? = some (mac.getD k []) := by rw [List.getD_eq_getElem?_getD, List.getElem?_eq_getElem hk]; rfl
      obtain ⟨l, hl, r⟩ := awGet2 (macl_same s' hmac) e
      exact ⟨l, hl, r, ok.rows _ (List.mem_of_getElem? e), e⟩
    have fB : ∀ a, H a ≠ none → B a ≠ none := fun a h z => by
      cases e : H a with
      | none => exact h e
      | some u => rw [s1B _ _ e] at z; cases z
    have cap : ∀ {Mn : List En}, (Mn.map (·.2)).Nodup → (∀ e ∈ Mn, e.2.1 < mac.length ∧ e.2.2 < mac.length) → Mn.length ≤ 81 := fun {Mn} nd b => by
      have := pt_few (n := mac.length) nd fun q hq => by
        obtain ⟨e, he, rfl⟩ := List.mem_map.mp hq
        exact b e he
      rw [List.length_map] at this
      exact Nat.le_trans this (Nat.le_trans (Nat.mul_le_mul n9 n9) (by decide))
    refine ⟨fun n σ H' => LpJ p Ev M m one other mac B n σ H', ⟨_, none, none, none, none, none, none, none, none, Ly, [T0], [T2], [([], (one, other))], [([], (one, other))], 0, rfl, eM4, .cons (s3 _ _ (sM _ _ eT0)) .nil, by simp, (fun e he => by rw [List.mem_singleton.mp he]; exact ⟨h1, h2⟩), nLyM, upd_same,
      .cons ⟨L0, T1, [], nL0M, sLy _ _ upd_same, sLy _ _ (sT2 _ _ (sT1 _ _ upd_same)), .nil, sLy _ _ (sT2 _ _ upd_same)⟩ .nil, (fun e => ⟨fun z => ⟨z, by rw [List.mem_singleton.mp z]; rfl⟩, fun z => z.1⟩), Nat.le_refl _, LpI.start, Nat.zero_le _, (fun _ => Nat.le_refl _), sM.trans s3, rfl⟩, fun n σ H4 hp => ?_⟩
    obtain ⟨y7, y8, y9, y10, y11, y12, y13, y14, Ly, qs, ts, Mn, Ls, kk, rfl, eM, hqs, ndM, bdM, nLM, eLy, hts, hLs, lLs, lp, kM, kL, sB, rfl⟩ := hp
    have c81 := cap ndM bdM
    have tl := awLen hts
    refine ⟨.ref Ly, rfl, (by show 0 ≤ sizeLine; decide), fun Z hZ => ?_⟩
    have sZ := same_new (o := .lst []) hZ
    refine ⟨Ly, Z, _, rfl, rfl, sZ _ _ eLy, upd_same, _, rfl, ite2 (fun e => ?_) (fun e => ?_)⟩
    · have hne : Ls ≠ [] := fun z => by
        rw [z] at tl
        rw [List.eq_nil_of_length_eq_zero tl] at e
        cases e
      have kL1 := kL hne
      refine ⟨fun σ' H' => ∃ m', m' < 2 * (200 - Mn.length) + (if Ls = [] then 0 else 1) ∧ LpJ p Ev M m one other mac B m' σ' H', fun σ' H' z => z, ?_⟩
      rw [if_neg hne]
      have eM5 := sZ _ _ eM
      have sB5 := sB.trans sZ
      have eLy5 := sZ _ _ eLy
      have hqs5 : Paired (PqAt (upd H4 Z (.lst []))) qs (Mn.map (·.2)) := awMap (fun q e z => sZ _ _ z) hqs
      have hts5 : Paired (EnAt (· = M) (upd H4 Z (.lst []))) ts Ls := awMap (fun t e z => z.stay (Same.tups sZ) fun b u _ z => sZ _ _ z) hts
      obtain ⟨H5, hH5⟩ : ∃ H5, H5 = upd H4 Z (.lst []) := ⟨_, rfl⟩
      rw [← hH5] at eM5 sB5 eLy5 hqs5 hts5 ⊢
      clear sB eM eLy hqs hts sZ hH5
      refine ⟨(by show 0 ≤ sizeLine; decide), fun E1 hE1 => ?_⟩
      have sE1 := same_new (o := .lst []) hE1
      have eE6 := upd_same (H := H5) (a := E1) (o := .lst [])
      obtain ⟨H6, hH6⟩ : ∃ H6, H6 = upd H5 E1 (.lst []) := ⟨_, rfl⟩
      rw [← hH6] at sE1 eE6 ⊢
      refine ⟨(by show 0 ≤ sizeLine; decide), fun L1 hL1 => ?_⟩
      have sL1 := same_new (o := .lst []) hL1
      have eL7 := upd_same (H := H6) (a := L1) (o := .lst [])
      have eE7 := sL1 _ _ eE6
      have nEL : E1 ≠ L1 := fun z => by rw [← z, eE6] at hL1; cases hL1
      have s57 := sE1.trans sL1
      obtain ⟨H7, hH7⟩ : ∃ H7, H7 = upd H6 L1 (.lst []) := ⟨_, rfl⟩
      rw [← hH7] at eL7 eE7 s57 ⊢
      have nME : M ≠ E1 := ne_of_none eM5 hE1
      have nML : M ≠ L1 := fun z => by rw [← z, sE1 _ _ eM5] at hL1; cases hL1
      have fE : ∀ a u, H5 a = some u → a ≠ E1 ∧ a ≠ L1 := fun a u e => ⟨ne_of_none e hE1, ne_of_none (sE1 _ _ e) hL1⟩
      obtain ⟨Z1, hZ1⟩ : ∃ Z1 : Addr → Prop, Z1 = fun b => b = M ∨ b = E1 ∨ b = L1 := ⟨_, rfl⟩
      have z1 : ∀ b, Z1 b ↔ b = M ∨ b = E1 ∨ b = L1 := fun b => by rw [hZ1]
      clear hZ1
      refine ⟨.ref Ly, rfl, Ly, rfl, ⟨_, .inl (.inl (s57 _ _ eLy5))⟩, for_list (K := K) (a := Ly) (xs := ts.map V.ref) (fun i σ H' => ∃ (y9 y10 y11 y12 y13 y14 : Option V) (es us : List Addr), σ = [some (.ref p), some (.int (m : Int)), some (.int (one : Int)), some (.int (other : Int)), some (.ref Ev), some (.ref M), some (.ref Ly), some (.ref E1), some (.ref L1), y9, y10, y11, y12, y13, y14] ∧
          H' E1 = some (.lst (es.map V.ref)) ∧ H' L1 = some (.lst (us.map V.ref)) ∧ Paired (WdAt Z1 H') es (endsP mac (allP m (Ls.take i))) ∧ Paired (EnAt Z1 H') us (latP mac (allP m (Ls.take i))) ∧ Same H5 H')
        ⟨y9, y10, y11, y12, y13, y14, [], [], rfl, eE7, eL7, .nil, .nil, s57⟩ (fun i σ H8 _ hp => ?_) (fun i x σ H8 hx hp => ?_) (fun σ H8 hp => ?_)⟩
      · obtain ⟨_, _, _, _, _, _, _, _, _, _, _, _, _, s⟩ := hp
        exact .inl (.inl (s _ _ eLy5))
      · obtain ⟨y9, y10, y11, y12, y13, y14, es, us, rfl, eE, eL, hes, hus, s8⟩ := hp
        rw [List.getElem?_map] at hx
        obtain ⟨t, ht, rfl⟩ := Option.map_eq_some_iff.mp hx
        obtain ⟨e, he, l, q, fw, nlM, et, el, hfw, eq⟩ := awGet hts5 ht
        have heM := (hLs e).mp (List.mem_of_getElem? he)
        have be := bdM e heM.1
        have il := (List.getElem?_eq_some_iff.mp he).1
        have fwl := awLen hfw
        have eEv5 := sB5 _ _ eEvB
        refine ⟨t, [.ref l, .ref q], rfl, .inl (.inl (s8 _ _ et)), rfl, .ref l, [.ref q], rfl, .ref q, [], rfl, rfl, ?_⟩
        refine ⟨.ref Ev, rfl, Ev, _, rfl, .inl (.inl (s8 _ _ eEv5)), for_it (walk_enum (K := K) (a := Ev) (xs := fs.map V.ref)) (fun j σ H' => ∃ (y11 y12 y13 y14 : Option V) (es us : List Addr), σ = [some (.ref p), some (.int (m : Int)), some (.int (one : Int)), some (.int (other : Int)), some (.ref Ev), some (.ref M), some (.ref Ly), some (.ref E1), some (.ref L1), some (.ref l), some (.ref q), y11, y12, y13, y14] ∧
            H' E1 = some (.lst (es.map V.ref)) ∧ H' L1 = some (.lst (us.map V.ref)) ∧ Paired (WdAt Z1 H') es (endsP mac (allP m (Ls.take i) ++ ((allB m).take j).map (Prod.mk e))) ∧ Paired (EnAt Z1 H') us (latP mac (allP m (Ls.take i) ++ ((allB m).take j).map (Prod.mk e))) ∧ Same H5 H')
          ⟨y11, y12, y13, y14, es, us, rfl, eE, eL, by rw [List.take_zero, List.map_nil, List.append_nil]; exact hes, by rw [List.take_zero, List.map_nil, List.append_nil]; exact hus, s8⟩ (fun j σ H9 _ hp => ?_) (fun j x σ H9 H10 hj hp hy => ?_) (fun σ H9 hp => ?_)⟩
        · obtain ⟨_, _, _, _, _, _, _, _, _, _, _, s⟩ := hp
          exact .inl (.inl (s _ _ eEv5))
        · obtain ⟨y11, y12, y13, y14, es, us, rfl, eE, eL, hes, hus, s9⟩ := hp
          obtain ⟨W, x1, x2, rfl, hW, rfl, g1, g2⟩ := hy
          obtain rfl : V.int (j : Nat) = x1 := Option.some.inj g1
          have hj2 : j < fs.length := by rwa [List.length_map] at hj
          have hx2 : x2 = .ref fs[j] := by
            have g2' : (fs.map V.ref)[j]? = some x2 := g2
            rw [List.getElem?_map, List.getElem?_eq_getElem hj2] at g2'
            exact (Option.some.inj g2').symm
          subst hx2
          obtain ⟨bs, hb1, hb2⟩ := awGet hfsB (List.getElem?_eq_getElem hj2)
          have hbm := List.mem_of_getElem? hb1
          have sW := same_new (o := .tup [.int (j : Nat), .ref fs[j]]) hW
          have s10 := s9.trans sW
          have etake : ((allB m).take (j + 1)).map (Prod.mk e) = ((allB m).take j).map (Prod.mk e) ++ [(e, bs)] := by
            rw [List.take_add_one, hb1, List.map_append]
            rfl
          obtain ⟨P, hP⟩ : ∃ P, P = allP m (Ls.take i) ++ ((allB m).take j).map (Prod.mk e) := ⟨_, rfl⟩
          have hP1 : allP m (Ls.take i) ++ ((allB m).take (j + 1)).map (Prod.mk e) = P ++ [(e, bs)] := by rw [etake, hP, List.append_assoc]
          rw [← hP] at hes hus
          have Pl : P.length ≤ 1000 := by
            rw [hP, List.length_append, allP_len, List.length_map, List.length_take, List.length_take, allB_len]
            have a : min i Ls.length ≤ 81 := by omega
            have b := Nat.mul_le_mul a p8
            have c : min j (2 ^ m) ≤ 8 := Nat.le_trans (Nat.min_le_right _ _) p8
            omega
          have esl : es.length ≤ 1000 := by rw [awLen hes]; exact Nat.le_trans (endsP_len _ _) Pl
          have usl : us.length ≤ 1000 := by rw [awLen hus]; unfold latP; rw [List.length_map]; exact Pl
          have eE0 := sW _ _ eE
          have eL0 := sW _ _ eL
          have hes0 : Paired (WdAt Z1 (upd H9 W (.tup [.int (j : Nat), .ref fs[j]]))) es (endsP mac P) := awMap (fun a b z => z.stay (Same.tups sW) fun b u _ z => sW _ _ z) hes
          have hus0 : Paired (EnAt Z1 (upd H9 W (.tup [.int (j : Nat), .ref fs[j]]))) us (latP mac P) := awMap (fun a b z => z.stay (Same.tups sW) fun b u _ z => sW _ _ z) hus
          refine ⟨W, [.int (j : Nat), .ref fs[j]], rfl, .inl (.inl upd_same), rfl, .int (j : Nat), [.ref fs[j]], rfl, .ref fs[j], [], rfl, rfl, ?_⟩
          obtain ⟨H10, hH10⟩ : ∃ H10, H10 = upd H9 W (.tup [.int (j : Nat), .ref fs[j]]) := ⟨_, rfl⟩
          rw [← hH10] at s10 eE0 eL0 hes0 hus0 ⊢
          clear hes hus eE eL sW hW hH10
          have sX := s1B.trans (sB5.trans s10)
          obtain ⟨lf, hlf, ⟨qf, eqf, hpf⟩, ln1, em1⟩ := rowOf sX e.2.1 be.1
          obtain ⟨lg, hlg, ⟨qg, eqg, hpg⟩, ln2, em2⟩ := rowOf sX e.2.2 be.2
          obtain ⟨A1, hA1, eA1⟩ := awGet2 hpf (ok.ent em1 hb1)
          obtain ⟨A2, hA2, eA2⟩ := awGet2 hpg (ok.ent em2 hb1)
          obtain ⟨nx1, nl1⟩ := ok.nx be.1 hbm
          obtain ⟨nx2, nl2⟩ := ok.nx be.2 hbm
          have eq10 := s10 _ _ eq
          have ep10 := sX _ _ ep
          refine ⟨.ref p, rfl, .ref q, rfl, q, _, 0, .int (e.2.1 : Int), rfl, rfl, SqT.of eq10, rfl, p, _, (e.2.1 : Int), .ref lf, rfl, rfl, .inl (.inl ep10), atI_nat (by rw [List.getElem?_map, hlf]; rfl), .int (j : Nat), rfl, lf, _, (j : Nat), .ref A1, rfl, rfl, .inl (.inl eqf), atI_nat (by rw [List.getElem?_map, hA1]; rfl),
            .ref p, rfl, .ref q, rfl, q, _, 1, .int (e.2.2 : Int), rfl, rfl, SqT.of eq10, rfl, p, _, (e.2.2 : Int), .ref lg, rfl, rfl, .inl (.inl ep10), atI_nat (by rw [List.getElem?_map, hlg]; rfl), .int (j : Nat), rfl, lg, _, (j : Nat), .ref A2, rfl, rfl, .inl (.inl eqg), atI_nat (by rw [List.getElem?_map, hA2]; rfl), _, _, rfl, ?_⟩
          have sz1 : (1 : Nat) ≤ sizeLine := by rw [sizeLine_eq]; decide
          have wsz : (fw.map V.ref).length + 1 ≤ sizeLine := by
            rw [List.length_map, fwl, heM.2, sizeLine_eq]
            omega
          rw [nx1] at eA1
          rw [nx2] at eA2
          have eM10 := s10 _ _ eM5
          have el10 := s10 _ _ el
          have hbit := s10 _ _ (sB5 _ _ hb2)
          have hfw10 := tat_stay (Same.tups s10) hfw
          refine ⟨fun σ' H' => ∃ es : List Addr, σ' = [some (.ref p), some (.int (m : Int)), some (.int (one : Int)), some (.int (other : Int)), some (.ref Ev), some (.ref M), some (.ref Ly), some (.ref E1), some (.ref L1), some (.ref l), some (.ref q), some (.int (j : Nat)), some (.ref fs[j]), some (.ref A1), some (.ref A2)] ∧
            H' E1 = some (.lst (es.map V.ref)) ∧ H' L1 = some (.lst (us.map V.ref)) ∧ Paired (WdAt Z1 H') es (endsP mac (P ++ [(e, bs)])) ∧ Paired (EnAt Z1 H') us (latP mac P) ∧ Same H5 H' ∧ TupsStay H10 H', ?_, fun σ' H11 hm => ?_⟩
          · refine ⟨.ref A1, rfl, A1, _, 0, .int (entM mac e.2.1 bs).1, rfl, rfl, SqT.of eA1, rfl, .ref A2, rfl, A2, _, 0, .int (entM mac e.2.2 bs).1, rfl, rfl, SqT.of eA2, rfl, rfl, _, rfl, ite2 (fun hne => ?_) (fun heq => ?_)⟩
            · have hne' := neT hne
              refine ⟨.ref E1, rfl, .inl ⟨rfl, _, .inl (.inl eE0)⟩, .ref l, rfl, .ref fs[j], rfl, (by show 1 ≤ sizeLine; decide), fun C hC => ?_⟩
              have sC := same_new (o := .lst [.ref fs[j]]) hC
              refine ⟨l, C, _, _, rfl, rfl, sC _ _ el10, upd_same, wsz, fun D hD => ?_⟩
              have sD := same_new (o := .lst (fw.map V.ref ++ [V.ref fs[j]])) hD
              have sCD := sC.trans sD
              have eE2 := sCD _ _ eE0
              have nZD : ¬ Z1 D := fun z => by
                rcases (z1 D).mp z with y | y | y
                · rw [y, sC _ _ eM10] at hD; cases hD
                · rw [y, sC _ _ eE0] at hD; cases hD
                · rw [y, sC _ _ eL0] at hD; cases hD
              have nDE : D ≠ E1 := fun y => nZD ((z1 D).mpr (.inr (.inl y)))
              have eD := upd_same (H := upd H10 C (.lst [.ref fs[j]])) (a := D) (o := .lst (fw.map V.ref ++ [V.ref fs[j]]))
              have T := (Same.tups sCD).trans (tups_put (o := .lst (es.map V.ref ++ [V.ref D])) eE2)
              have Fr : ∀ b u, b ≠ E1 → H10 b = some u → upd (upd (upd H10 C (.lst [.ref fs[j]])) D (.lst (fw.map V.ref ++ [V.ref fs[j]]))) E1 (.lst (es.map V.ref ++ [V.ref D])) b = some u := fun b u n z => by
                rw [upd_ne n]
                exact sCD _ _ z
              refine ⟨E1, _, .ref D, rfl, rfl, eE2, by rw [List.length_map]; exact small1000 (by omega), es ++ [D], rfl, by rw [upd_same, List.map_append]; rfl, Fr _ _ nEL.symm eL0, ?_, awMap (fun a b z => z.stay T fun b u nz y => Fr b u (fun y => nz ((z1 b).mpr (.inr (.inl y)))) y) hus0, fun b u z => Fr b u (fE b u z).1 (s10 _ _ z), T⟩
              rw [endsP_snoc, if_pos (show difP mac (e, bs) = true from decide_eq_true hne')]
              exact awSnoc ⟨nZD, fw ++ [fs[j]], by rw [upd_ne nDE, eD, List.map_append]; rfl, tat_snoc (tat_stay T hfw10) (T _ _ hbit)⟩ (awMap (fun a b z => z.stay T fun b u nz y => Fr b u (fun y => nz ((z1 b).mpr (.inr (.inl y)))) y) hes0)
            · have heq' := neF heq
              refine ⟨es, rfl, eE0, eL0, ?_, hus0, s10, fun _ _ z => z⟩
              rw [endsP_snoc, if_neg (by show ¬ decide _ = true; rw [decide_eq_true_eq]; exact fun z => z heq'), List.append_nil]
              exact hes0
          · obtain ⟨es2, rfl, eE, eL, hes, hus, s11, tt⟩ := hm
            refine ⟨.ref L1, rfl, .inl ⟨rfl, _, .inl (.inl eL)⟩, .ref l, rfl, .ref fs[j], rfl, (by show 1 ≤ sizeLine; decide), fun C hC => ?_⟩
            have sC := same_new (o := .lst [.ref fs[j]]) hC
            refine ⟨l, C, _, _, rfl, rfl, sC _ _ (s11 _ _ el), upd_same, wsz, fun D hD => ?_⟩
            have sD := same_new (o := .lst (fw.map V.ref ++ [V.ref fs[j]])) hD
            have sCD := sC.trans sD
            have nZD : ¬ Z1 D := fun z => by
              rcases (z1 D).mp z with y | y | y
              · rw [y, sC _ _ (s11 _ _ eM5)] at hD; cases hD
              · rw [y, sC _ _ eE] at hD; cases hD
              · rw [y, sC _ _ eL] at hD; cases hD
            have nDL : D ≠ L1 := fun y => nZD ((z1 D).mpr (.inr (.inr y)))
            have eD := upd_same (H := upd H11 C (.lst [.ref fs[j]])) (a := D) (o := .lst (fw.map V.ref ++ [V.ref fs[j]]))
            refine ⟨.ref A1, rfl, A1, _, 1, .int ((nxM mac e.2.1 bs : Nat) : Int), rfl, rfl, SqT.of (sCD _ _ (tt _ _ eA1)), rfl, .ref A2, rfl, A2, _, 1, .int ((nxM mac e.2.2 bs : Nat) : Int), rfl, rfl, SqT.of (sCD _ _ (tt _ _ eA2)), rfl, (by show 2 ≤ sizeLine; decide), fun U hU => ?_⟩
            have sU := same_new (o := .tup [.int ((nxM mac e.2.1 bs : Nat) : Int), .int ((nxM mac e.2.2 bs : Nat) : Int)]) hU
            have eU := upd_same (H := upd (upd H11 C (.lst [.ref fs[j]])) D (.lst (fw.map V.ref ++ [V.ref fs[j]]))) (a := U) (o := .tup [.int ((nxM mac e.2.1 bs : Nat) : Int), .int ((nxM mac e.2.2 bs : Nat) : Int)])
            refine ⟨(by show 2 ≤ sizeLine; decide), fun V1 hV => ?_⟩
            have sV := same_new (o := .tup [.ref D, .ref U]) hV
            have eV := upd_same (H := upd (upd (upd H11 C (.lst [.ref fs[j]])) D (.lst (fw.map V.ref ++ [V.ref fs[j]]))) U (.tup [.int ((nxM mac e.2.1 bs : Nat) : Int), .int ((nxM mac e.2.2 bs : Nat) : Int)])) (a := V1) (o := .tup [.ref D, .ref U])
            have sDV := sU.trans sV
            have sCV := sCD.trans sDV
            have eL2 := sCV _ _ eL
            have eD2 := sDV _ _ eD
            have eU2 := sV _ _ eU
            obtain ⟨H12, hH12⟩ : ∃ H12, H12 = upd (upd (upd (upd H11 C (.lst [.ref fs[j]])) D (.lst (fw.map V.ref ++ [V.ref fs[j]]))) U (.tup [.int ((nxM mac e.2.1 bs : Nat) : Int), .int ((nxM mac e.2.2 bs : Nat) : Int)])) V1 (.tup [.ref D, .ref U]) := ⟨_, rfl⟩
            rw [← hH12] at sCV eL2 eD2 eU2 eV ⊢
            have T := (Same.tups sCV).trans (tups_put (o := .lst (us.map V.ref ++ [V.ref V1])) eL2)
            have Tp := tups_put (o := .lst (us.map V.ref ++ [V.ref V1])) eL2
            have Fr : ∀ b u, b ≠ L1 → H11 b = some u → upd H12 L1 (.lst (us.map V.ref ++ [V.ref V1])) b = some u := fun b u n z => by
              rw [upd_ne n]
              exact sCV _ _ z
            refine ⟨L1, _, .ref V1, rfl, rfl, eL2, by rw [List.length_map]; exact small1000 (by omega), _, _, _, _, es2, us ++ [V1], rfl, Fr _ _ nEL eE, by rw [upd_same, List.map_append]; rfl, ?_, ?_, fun b u z => Fr b u (fE b u z).2 (s11 _ _ z)⟩
            · rw [hP1]
              exact awMap (fun a b z => z.stay T fun b u nz y => Fr b u (fun y => nz ((z1 b).mpr (.inr (.inr y)))) y) hes
            · rw [hP1, latP_snoc]
              exact awSnoc ⟨D, U, fw ++ [fs[j]], nZD, Tp _ _ eV, by rw [upd_ne nDL, eD2, List.map_append]; rfl, tat_snoc (tat_stay T (tat_stay tt hfw10)) (T _ _ (tt _ _ hbit)), Tp _ _ eU2⟩ (awMap (fun a b z => z.stay T fun b u nz y => Fr b u (fun y => nz ((z1 b).mpr (.inr (.inr y)))) y) hus)
        · obtain ⟨y11, y12, y13, y14, es, us, rfl, eE, eL, hes, hus, s9⟩ := hp
          have et1 : allP m (Ls.take i) ++ ((allB m).take (fs.map V.ref).length).map (Prod.mk e) = allP m (Ls.take (i + 1)) := by
            rw [List.length_map, fl, ← allB_len m, List.take_length, List.take_add_one, he, ← allP_snoc]
            rfl
          rw [et1] at hes hus
          exact ⟨_, _, _, _, _, _, es, us, rfl, eE, eL, hes, hus, s9⟩
      · obtain ⟨y9, y10, y11, y12, y13, y14, es, us, rfl, eE, eL, hes, hus, s8⟩ := hp
        have etk : Ls.take (ts.map V.ref).length = Ls := by rw [List.length_map, tl, List.take_length]
        rw [etk] at hes hus
        refine ⟨.ref E1, rfl, (by show 0 ≤ sizeLine; decide), fun Z2 hZ2 => ?_⟩
        have sZ2 := same_new (o := .lst []) hZ2
        refine ⟨E1, Z2, _, rfl, rfl, sZ2 _ _ eE, upd_same, _, rfl, ite2 (fun e => ?_) (fun e => ?_)⟩
        · have hes9 : Paired (WdAt Z1 (upd H8 Z2 (.lst []))) es (endsP mac (allP m Ls)) := awMap (fun a b z => z.stay (Same.tups sZ2) fun b u _ y => sZ2 _ _ y) hes
          refine ⟨.ref E1, rfl, ?_⟩
          try unfold tNil
          show rSortD [V.ref E1] _ _
          refine sortB (enc := encW) (U := (endsP mac (allP m Ls)).zip es) (by rw [zipSnd hes9]; exact sZ2 _ _ eE) (fun b hb => (pairedZip hes9 b hb).dat) encW_alike (.others fun b => ⟨(fun z => nomatch z), (fun _ z => nomatch z)⟩) (fun b => Nat.le_trans (depth_encW b) (by decide)) fun S hS => ?_
          have sS := same_new (o := .lst ((srtB encW ((endsP mac (allP m Ls)).zip es)).map fun b => V.ref b.2)) hS
          have pw := srtB_pw encW ((endsP mac (allP m Ls)).zip es)
          have mm := fun x => srtB_mem (enc := encW) (bs := (endsP mac (allP m Ls)).zip es) (x := x)
          have eS := upd_same (H := upd H8 Z2 (.lst [])) (a := S) (o := .lst ((srtB encW ((endsP mac (allP m Ls)).zip es)).map fun b => V.ref b.2))
          obtain ⟨R, hR⟩ : ∃ R, R = srtB encW ((endsP mac (allP m Ls)).zip es) := ⟨_, rfl⟩
          rw [← hR] at pw mm sS eS ⊢
          have hRne : R ≠ [] := fun z => by
            have ene : endsP mac (allP m Ls) ≠ [] := fun y => by
              have := awLen hes
              rw [y] at this
              rw [List.eq_nil_of_length_eq_zero this] at e
              cases e
            obtain ⟨w0, hw0⟩ := List.exists_mem_of_ne_nil _ ene
            obtain ⟨a, ha⟩ := zipMem hes w0 hw0
            have := (mm _).mpr ha
            rw [z] at this
            cases this
          cases R with
          | nil => exact absurd rfl hRne
          | cons x rest =>
            have hxU := (mm x).mp List.mem_cons_self
            obtain ⟨nz, fx, ex, hfx⟩ := pairedZip hes9 x hxU
            have hxw := (List.of_mem_zip hxU).1
            obtain ⟨pb, hpb, ew⟩ := List.mem_map.mp hxw
            obtain ⟨hpb1, hpb2⟩ := List.mem_filter.mp hpb
            obtain ⟨hpe, hpc⟩ := allP_mem.mp hpb1
            obtain ⟨hpM, hpk⟩ := (hLs _).mp hpe
            have sall := s1B.trans (sB5.trans (s8.trans (sZ2.trans sS)))
            refine ⟨S, _, 0, .ref x.2, rfl, rfl, .inl (.inl eS), (by show atI _ ((0 : Nat) : Int) = _; exact atI_nat rfl), ?_⟩
            refine qB _ x.2 x.1 sall ⟨fx, sS _ _ ex, tat_stay (Same.tups sS) hfx⟩ ?_ ?_
            · rw [← ew]
              refine lp.found m1 m3 hpM hpk hpc (of_decide_eq_true hpb2) fun e' he' hk' c hc nc => ?_
              have hin : e'.1 ++ [c] ∈ endsP mac (allP m Ls) := List.mem_map.mpr ⟨(e', c), List.mem_filter.mpr ⟨allP_mem.mpr ⟨(hLs _).mpr ⟨he', hk'⟩, hc⟩, decide_eq_true nc⟩, rfl⟩
              obtain ⟨a, ha⟩ := zipMem hes _ hin
              have hr := (mm _).mpr ha
              have cw : ∀ c ∈ pb.1.1 ++ [pb.2], c ∈ allB m := fun y hy => by
                rcases List.mem_append.mp hy with z | z
                · exact lp.cols _ hpM y z
                · rw [List.mem_singleton.mp z]; exact hpc
              have cv : ∀ y ∈ e'.1 ++ [c], y ∈ allB m := fun y hy => by
                rcases List.mem_append.mp hy with z | z
                · exact lp.cols _ he' y z
                · rw [List.mem_singleton.mp z]; exact hc
              rcases List.mem_cons.mp hr with z | z
              · have : e'.1 ++ [c] = x.1 := by rw [← z]
                rw [this, ← ew]
                exact Nat.le_refl _
              · have := (List.pairwise_cons.mp pw).1 _ z
                rw [← ew] at this
                exact num_le m3 _ _ (by rw [List.length_append, List.length_append, hpk, hk']; rfl) cw cv 1 this
            · rw [← ew, List.length_append, hpk]
              show kk + 1 ≤ 1000
              omega
        · have es0 : es = [] := by
            cases es with
            | nil => rfl
            | cons a es => exact absurd rfl e
          have noE : ∀ e ∈ Mn, e.1.length = kk → ∀ b ∈ allB m, (entM mac e.2.1 b).1 = (entM mac e.2.2 b).1 := fun e he hk b hb => by
            by_cases z : (entM mac e.2.1 b).1 = (entM mac e.2.2 b).1
            · exact z
            · exfalso
              have hin : e.1 ++ [b] ∈ endsP mac (allP m Ls) := List.mem_map.mpr ⟨(e, b), List.mem_filter.mpr ⟨allP_mem.mpr ⟨(hLs _).mpr ⟨he, hk⟩, hb⟩, decide_eq_true z⟩, rfl⟩
              have := awLen hes
              rw [es0] at this
              rw [List.eq_nil_of_length_eq_zero this.symm] at hin
              cases hin
          refine ⟨(by show 0 ≤ sizeLine; decide), fun Y hY => ?_⟩
          have sY := same_new (o := .lst []) hY
          have s8Y := sZ2.trans sY
          have eM8 := s8 _ _ eM5
          have nYM : Y ≠ M := fun z => by rw [z, sZ2 _ _ eM8] at hY; cases hY
          have hus10 : Paired (EnAt Z1 (upd (upd H8 Z2 (.lst [])) Y (.lst []))) us (latP mac (allP m Ls)) := awMap (fun a b z => z.stay (Same.tups s8Y) fun b u _ y => s8Y _ _ y) hus
          refine ⟨.ref L1, rfl, ?_⟩
          try unfold tNil
          show rSortD [V.ref L1] _ _
          refine sortB (enc := encE) (U := (latP mac (allP m Ls)).zip us) (by rw [zipSnd hus10]; exact s8Y _ _ eL) (fun b hb => (pairedZip hus10 b hb).dat) encE_alike (.tuples (enc := fun b : En × Addr => encE b.1) fun b => ⟨_, _, rfl⟩) depth_encE fun S hS => ?_
          have sS := same_new (o := .lst ((srtB encE ((latP mac (allP m Ls)).zip us)).map fun b => V.ref b.2)) hS
          have pw := srtB_pw encE ((latP mac (allP m Ls)).zip us)
          have mm := fun x => srtB_mem (enc := encE) (bs := (latP mac (allP m Ls)).zip us) (x := x)
          have eS := upd_same (H := upd (upd H8 Z2 (.lst [])) Y (.lst [])) (a := S) (o := .lst ((srtB encE ((latP mac (allP m Ls)).zip us)).map fun b => V.ref b.2))
          have nSM : S ≠ M := fun z => by rw [z, s8Y _ _ eM8] at hS; cases hS
          have nSY : S ≠ Y := fun z => by rw [z, upd_same] at hS; cases hS
          have eY11 := sS _ _ (upd_same (H := upd H8 Z2 (.lst [])) (a := Y) (o := .lst []))
          have s8S := s8Y.trans sS
          obtain ⟨R, hR⟩ : ∃ R, R = srtB encE ((latP mac (allP m Ls)).zip us) := ⟨_, rfl⟩
          rw [← hR] at pw mm sS eS eY11 s8S ⊢
          obtain ⟨H11, hH11⟩ : ∃ H11, H11 = upd (upd (upd H8 Z2 (.lst [])) Y (.lst [])) S (.lst (R.map fun b => V.ref b.2)) := ⟨_, rfl⟩
          rw [← hH11] at sS eS eY11 s8S ⊢
          have eM11 := s8S _ _ eM8
          have inR : ∀ u : En × Addr, u ∈ R → u.1.1.length = kk + 1 ∧ (∀ c ∈ u.1.1, c ∈ allB m) ∧ ∃ e ∈ Mn, e.1.length = kk ∧ ∃ b ∈ allB m, u.1 = (e.1 ++ [b], nxP mac e.2 b) := fun u hu => by
            have hul := (List.of_mem_zip ((mm u).mp hu)).1
            obtain ⟨pb, hpb, ew⟩ := List.mem_map.mp hul
            obtain ⟨hpe, hpc⟩ := allP_mem.mp hpb
            obtain ⟨hpM, hpk⟩ := (hLs _).mp hpe
            refine ⟨by rw [← ew]; show (pb.1.1 ++ [pb.2]).length = _; rw [List.length_append, hpk]; rfl, fun c hc => ?_, pb.1, hpM, hpk, pb.2, hpc, ew.symm⟩
            rw [← ew] at hc
            rcases List.mem_append.mp hc with z | z
            · exact lp.cols _ hpM c z
            · rw [List.mem_singleton.mp z]; exact hpc
          refine ⟨S, rfl, ⟨_, .inl (.inl eS)⟩, for_list (K := K) (a := S) (xs := R.map fun b => V.ref b.2) (fun j σ H' => ∃ (y9 y10 : Option V) (qs' ts' : List Addr) (Ys : List En), σ = [some (.ref p), some (.int (m : Int)), some (.int (one : Int)), some (.int (other : Int)), some (.ref Ev), some (.ref M), some (.ref Y), some (.ref E1), some (.ref L1), y9, y10, y11, y12, y13, y14] ∧
              H' M = some (.lst (qs'.map V.ref)) ∧ Paired (PqAt H') qs' ((Mn ++ Ys).map (·.2)) ∧ ((Mn ++ Ys).map (·.2)).Nodup ∧ H' Y = some (.lst (ts'.map V.ref)) ∧ Paired (EnAt (fun b => b = M ∨ b = Y) H') ts' Ys ∧ (∀ y ∈ Ys, ∃ a, (y, a) ∈ R.take j) ∧ (∀ x ∈ R.take j, ∃ e' ∈ Mn ++ Ys, e'.2 = x.1.2 ∧ numW m e'.1 ≤ numW m x.1.1) ∧ (∀ b u, b ≠ M → b ≠ Y → H11 b = some u → H' b = some u))
            ⟨y9, y10, qs, [], [], rfl, eM11, by rw [List.append_nil]; exact awMap (fun q e z => s8S _ _ (s8 _ _ z)) hqs5, by rw [List.append_nil]; exact ndM, eY11, .nil, (fun _ z => nomatch z), (fun x z => by rw [List.take_zero] at z; cases z), fun _ _ _ _ z => z⟩ (fun j σ H12 _ hp => ?_) (fun j x σ H12 hx hp => ?_) (fun σ H12 hp => ?_)⟩
          · obtain ⟨_, _, _, _, _, _, _, _, _, _, _, _, _, kp⟩ := hp
            exact .inl (.inl (kp _ _ nSM nSY eS))
          · obtain ⟨y9, y10, qs', ts', Ys, rfl, eM', hqs', nd', eY', hts', hsub, hcov, kp⟩ := hp
            rw [List.getElem?_map] at hx
            obtain ⟨u, hu, rfl⟩ := Option.map_eq_some_iff.mp hx
            have huR := List.mem_of_getElem? hu
            obtain ⟨l, q, fw, nz, et, el, hfw, eq⟩ := pairedZip hus u ((mm u).mp huR)
            have T12 : TupsStay H11 H12 := fun b xs z => kp b _ (ne_of z eM11 (fun y => nomatch y)) (ne_of z eY11 (fun y => nomatch y)) z
            have nlM : l ≠ M := fun z => nz ((z1 l).mpr (.inl z))
            have nlY : l ≠ Y := ne_of_none (sZ2 _ _ el) hY
            have et' := T12 _ _ (s8S _ _ et)
            have eq' := T12 _ _ (s8S _ _ eq)
            have el' := kp _ _ nlM nlY (s8S _ _ el)
            have hfw' := tat_stay T12 (tat_stay (Same.tups s8S) hfw)
            obtain ⟨ul, uc, _⟩ := inR u huR
            have etake : R.take (j + 1) = R.take j ++ [u] := by
              rw [List.take_add_one, hu]
              rfl
            have bdY : ∀ e ∈ Mn ++ Ys, e.2.1 < mac.length ∧ e.2.2 < mac.length := fun e' he' => by
              rcases List.mem_append.mp he' with z | z
              · exact bdM e' z
              · obtain ⟨a, ha⟩ := hsub e' z
                obtain ⟨_, _, e0, he0, _, b, hb, ee⟩ := inR _ (List.mem_of_mem_take ha)
                have ee' : e' = (e0.1 ++ [b], nxP mac e0.2 b) := ee
                rw [ee']
                exact ⟨(ok.nx (bdM e0 he0).1 hb).2, (ok.nx (bdM e0 he0).2 hb).2⟩
            have c81' := cap nd' bdY
            refine ⟨u.2, [.ref l, .ref q], rfl, .inl (.inl et'), rfl, .ref l, [.ref q], rfl, .ref q, [], rfl, rfl, ?_⟩
            refine ⟨.ref q, rfl, .ref M, rfl, pqD u.1.2, ((Mn ++ Ys).map (·.2)).map pqD, .tup (SqT.of eq') (dp_ints [(u.1.2.1 : Int), (u.1.2.2 : Int)]), .lst (.inl (.inl eM')) (dp_pqs hqs'), pq_shaped _, pqs_shaped _, _, rfl, ?_⟩
            rw [any_pq]
            refine ite2 (fun z => ?_) (fun z => ?_)
            · have nin : u.1.2 ∉ (Mn ++ Ys).map (·.2) := by simpa using z
              have ql : qs'.length ≤ 81 := by rw [awLen hqs', List.length_map]; exact c81'
              have tl' : ts'.length ≤ 81 := by
                rw [awLen hts']
                rw [List.length_append] at c81'
                omega
              refine ⟨.ref M, rfl, .inl ⟨rfl, _, .inl (.inl eM')⟩, .ref q, rfl, M, _, .ref q, rfl, rfl, eM', by rw [List.length_map]; exact small1000 (by omega), ?_⟩
              have Tm := tups_put (o := .lst (qs'.map V.ref ++ [V.ref q])) eM'
              have eY13 : upd H12 M (.lst (qs'.map V.ref ++ [V.ref q])) Y = some (.lst (ts'.map V.ref)) := by rw [upd_ne nYM]; exact eY'
              have eM13 := upd_same (H := H12) (a := M) (o := .lst (qs'.map V.ref ++ [V.ref q]))
              have k13 : ∀ b u, b ≠ M → H12 b = some u → upd H12 M (.lst (qs'.map V.ref ++ [V.ref q])) b = some u := fun b u n z => by rw [upd_ne n]; exact z
              obtain ⟨H13, hH13⟩ : ∃ H13, H13 = upd H12 M (.lst (qs'.map V.ref ++ [V.ref q])) := ⟨_, rfl⟩
              rw [← hH13] at Tm eY13 eM13 k13 ⊢
              refine ⟨.ref Y, rfl, .inl ⟨rfl, _, .inl (.inl eY13)⟩, .ref l, rfl, .ref q, rfl, (by show 2 ≤ sizeLine; decide), fun U hU => ?_⟩
              have sU := same_new (o := .tup [.ref l, .ref q]) hU
              have eU := upd_same (H := H13) (a := U) (o := .tup [.ref l, .ref q])
              have eY14 := sU _ _ eY13
              have T := (Tm.trans (Same.tups sU)).trans (tups_put (o := .lst (ts'.map V.ref ++ [V.ref U])) eY14)
              have Tu := tups_put (o := .lst (ts'.map V.ref ++ [V.ref U])) eY14
              have Fr : ∀ b u, b ≠ M → b ≠ Y → H12 b = some u → upd (upd H13 U (.tup [.ref l, .ref q])) Y (.lst (ts'.map V.ref ++ [V.ref U])) b = some u := fun b u n n' z => by
                rw [upd_ne n']
                exact sU _ _ (k13 b u n z)
              have en : EnAt (fun b => b = M ∨ b = Y) (upd (upd H13 U (.tup [.ref l, .ref q])) Y (.lst (ts'.map V.ref ++ [V.ref U]))) U u.1 := ⟨l, q, fw, fun z => z.elim nlM nlY, Tu _ _ eU, Fr _ _ nlM nlY el', tat_stay T hfw', T _ _ eq'⟩
              have emap : (Mn ++ (Ys ++ [u.1])).map (·.2) = (Mn ++ Ys).map (·.2) ++ [u.1.2] := by rw [← List.append_assoc, List.map_append]; rfl
              refine ⟨Y, _, .ref U, rfl, rfl, eY14, by rw [List.length_map]; exact small1000 (by omega), _, _, qs' ++ [q], ts' ++ [U], Ys ++ [u.1], rfl, ?_, ?_, ?_, ?_, ?_, fun y hy => ?_, fun x hx => ?_, fun b o n n' y => Fr b o n n' (kp b o n n' y)⟩
              · rw [upd_ne nYM.symm, sU _ _ eM13, List.map_append]
                rfl
              · rw [emap]
                exact awSnoc (F := PqAt _) (T _ _ eq') (awMap (fun q e z => T _ _ z) hqs')
              · rw [emap]
                refine List.nodup_append.mpr ⟨nd', by simp, fun a ha b hb => ?_⟩
                rw [List.mem_singleton.mp hb]
                exact fun y => nin (y ▸ ha)
              · rw [upd_same, List.map_append]
                rfl
              · exact awSnoc en (awMap (fun a b z => z.stay T fun b u nz y => Fr b u (fun y => nz (.inl y)) (fun y => nz (.inr y)) y) hts')
              · rw [etake]
                rcases List.mem_append.mp hy with z | z
                · obtain ⟨a, ha⟩ := hsub y z
                  exact ⟨a, List.mem_append_left _ ha⟩
                · rw [List.mem_singleton.mp z]
                  exact ⟨u.2, List.mem_append_right _ (List.mem_singleton.mpr rfl)⟩
              · rw [etake] at hx
                rcases List.mem_append.mp hx with z | z
                · obtain ⟨e', he', a, b⟩ := hcov x z
                  refine ⟨e', ?_, a, b⟩
                  rw [← List.append_assoc]
                  exact List.mem_append_left _ he'
                · rw [List.mem_singleton.mp z]
                  exact ⟨u.1, by simp, rfl, Nat.le_refl _⟩
            · have hin : u.1.2 ∈ (Mn ++ Ys).map (·.2) := by
                by_cases y : u.1.2 ∈ (Mn ++ Ys).map (·.2)
                · exact y
                · exact absurd (by rw [decide_eq_false y]; rfl) z
              obtain ⟨e', he', e2⟩ := List.mem_map.mp hin
              have hle : numW m e'.1 ≤ numW m u.1.1 := by
                rcases List.mem_append.mp he' with z | z
                · exact num_len_lt m1 m3 (lp.cols e' z) uc (by have := lp.few e' z; omega)
                · obtain ⟨a, ha⟩ := hsub e' z
                  obtain ⟨vl, vc, _⟩ := inR _ (List.mem_of_mem_take ha)
                  obtain ⟨i, hi⟩ := List.mem_iff_getElem?.mp ha
                  have il : i < j := by
                    have := (List.getElem?_eq_some_iff.mp hi).1
                    rw [List.length_take] at this
                    omega
                  rw [List.getElem?_take_of_lt il] at hi
                  obtain ⟨il', hi'⟩ := List.getElem?_eq_some_iff.mp hi
                  obtain ⟨jl', hj'⟩ := List.getElem?_eq_some_iff.mp hu
                  have := List.pairwise_iff_getElem.mp pw i j il' jl' il
                  rw [hi', hj'] at this
                  exact numE_le m3 (e := e') (e' := u.1) (by rw [ul]; exact vl) vc uc this
              refine ⟨_, _, qs', ts', Ys, rfl, eM', hqs', nd', eY', hts', fun y hy => ?_, fun x hx => ?_, kp⟩
              · obtain ⟨a, ha⟩ := hsub y hy
                exact ⟨a, by rw [etake]; exact List.mem_append_left _ ha⟩
              · rw [etake] at hx
                rcases List.mem_append.mp hx with z | z
                · exact hcov x z
                · rw [List.mem_singleton.mp z]
                  exact ⟨e', he', e2, hle⟩
          · obtain ⟨y9, y10, qs', ts', Ys, rfl, eM', hqs', nd', eY', hts', hsub, hcov, kp⟩ := hp
            rw [List.length_map, List.take_length] at hsub hcov
            have hy : ∀ y ∈ Ys, ∃ e ∈ Mn, e.1.length = kk ∧ ∃ b ∈ allB m, y = (e.1 ++ [b], nxP mac e.2 b) := fun y hy => by
              obtain ⟨a, ha⟩ := hsub y hy
              exact (inR _ ha).2.2
            have nx := lp.next noE hy fun e he hk b hb => by
              have hin : (e.1 ++ [b], nxP mac e.2 b) ∈ latP mac (allP m Ls) := List.mem_map.mpr ⟨(e, b), allP_mem.mpr ⟨(hLs _).mpr ⟨he, hk⟩, hb⟩, rfl⟩
              obtain ⟨a, ha⟩ := zipMem hus _ hin
              exact hcov _ ((mm _).mpr ha)
            have yl : ∀ y ∈ Ys, y.1.length = kk + 1 := fun y hyy => by
              obtain ⟨e, _, hk, b, _, rfl⟩ := hy y hyy
              show (e.1 ++ [b]).length = _
              rw [List.length_append, hk]
              rfl
            have bdY : ∀ e ∈ Mn ++ Ys, e.2.1 < mac.length ∧ e.2.2 < mac.length := fun e' he' => by
              rcases List.mem_append.mp he' with z | z
              · exact bdM e' z
              · obtain ⟨e0, he0, _, b, hb, rfl⟩ := hy e' z
                exact ⟨(ok.nx (bdM e0 he0).1 hb).2, (ok.nx (bdM e0 he0).2 hb).2⟩
            have c81' := cap nd' bdY
            have lap : (Mn ++ Ys).length = Mn.length + Ys.length := List.length_append
            refine ⟨_, ?_, _, _, _, _, _, _, _, _, Y, qs', ts', Mn ++ Ys, Ys, kk + 1, rfl, eM', hqs', nd', bdY, nYM, eY', awMap (fun a b z => z.turn fun l o n _ => fun y => n (.inl y)) hts', fun e' => ⟨fun z => ⟨List.mem_append_right _ z, yl e' z⟩, fun z => ?_⟩, by omega, nx, by omega, fun z => ?_, fun b o z => kp b o (ne_of_none z hM) (ne_of_none (sZ2 _ _ (s8 _ _ (sB5 _ _ z))) hY) (s8S _ _ (s8 _ _ (sB5 _ _ z))), rfl⟩
            · rw [lap]
              by_cases z : Ys = []
              · rw [if_pos z, z]
                simp
              · have : 1 ≤ Ys.length := List.length_pos_iff.mpr z
                rw [if_neg z]
                omega
            · rcases List.mem_append.mp z.1 with y | y
              · have := lp.few e' y
                omega
              · exact y
            · have : 1 ≤ Ys.length := List.length_pos_iff.mpr z
              omega
    · have hne : Ls = [] := by
        cases ts with
        | nil => exact List.eq_nil_of_length_eq_zero tl.symm
        | cons t ts => exact absurd rfl e
      have lt : ∀ e ∈ Mn, e.1.length < kk := fun e he => by
        have h := lp.few e he
        rcases Nat.lt_or_ge e.1.length kk with z | z
        · exact z
        · have : e ∈ Ls := (hLs e).mpr ⟨he, by omega⟩
          rw [hne] at this
          cases this
      exact qA _ (s1B.trans (sB.trans sZ)) fun u hu => lp.none m1 m3 lt u hu
structure DrOk (m : Nat) (mac : List MRow) : Prop where
  pos : 0 < mac.length
  few : mac.length ≤ 9
  rows : ∀ row ∈ mac, row.length = 2 ^ m
  ends : ∀ row ∈ mac, ∀ e ∈ row, Bit e.1 ∧ ∃ j : Nat, e.2 = (j : Int) ∧ j < mac.length
def spDr : Sp := fun vs H Q _ => ∃ (tp : Addr) (m : Nat), vs = [.ref tp, .int (m : Int)] ∧ 1 ≤ m ∧ m ≤ 3 ∧ TP H tp ∧
  ∀ H' p ls mac, But tp H H' → TP H' tp → H p = none → H' p = some (.lst (ls.map V.ref)) → MacL H' ls mac → (∀ l ∈ ls, H l = none) → DrOk m mac → Q (.ref p) H'
theorem ok_d44 {f fD : Addr} {fd fdD : FuncData} {k : Nat} (F : Fun K "_law_drawn" "_law_drawn" s_law_drawn f fd) (GD : FnOk P w K mg base CX0 (k + 1) fD fdD ["tape", "many"] spDigit) (kD : PySem.W.keepIn K (.ref fD) = true) (bD : Binds K fdD ["tape", "many"] []) (gD : mg "_law_digit" = some (.ref fD))
    (mr : mg "range" = none) (mi : mg "int" = none) : FnOk P w K mg base CX0 (k + 2) f fd ["tape", "many"] spDr := by
  refine F.ok sc_law_drawn (fun vs H Q E h => ?_) (fun cdv A outer s H vs Q E hr h => ?_)
  · obtain ⟨tp, m, rfl, _⟩ := h
    rfl
  · obtain ⟨tp, m, rfl, m1, m3, t0, q⟩ := h
    have nd := sc_law_drawn.nd
    refine ⟨_, pss_cons (ps_set (i := 2) nd rfl (.inl rfl) (pe_op op_add pe_int (pe_call GD hr (by rfl) gD kD bD .nil pass0 (pa_cons (pv 0) (pa_cons pe_int pa_nil)))))
      (pss_cons (ps_set (i := 3) nd rfl (.inl rfl) (pe_lst pa_nil))
      (pss_cons (ps_for PassesOwn.never rfl (pi_range1 (by rfl) mr (pa_cons (pv 2) pa_nil)) (pg_name (i := 4) nd rfl (.inl rfl))
        (pss_cons (ps_set (i := 5) nd rfl (.inl rfl) (pe_lst pa_nil))
        (pss_cons (ps_for PassesOwn.never rfl (pi_range1 (by rfl) mr (pa_cons (pe_op op_shl pe_int (pv 1)) pa_nil)) (pg_name (i := 6) nd rfl (.inl rfl))
          (pss_one (ps_expr (pe_bm PySem.F.plainAttrs_list PySem.F.slot_list_append PySem.F.type_list_append mt_append (pv 5) (pa_cons
            (pe_tup (pa_cons (pe_callTy call_int1 (by rfl) mi (by decide +kernel) (pa_cons (pe_cmpR op_eq (pe_call GD hr (by rfl) gD kD bD .nil pass0 (pa_cons (pv 0) (pa_cons pe_int pa_nil))) pe_int (nomark _)) pa_nil)) (pa_cons (pe_call GD hr (by rfl) gD kD bD .nil pass0 (pa_cons (pv 0) (pa_cons (pv 2) pa_nil))) pa_nil))) pa_nil)))))
        (pss_one (ps_expr (pe_bm PySem.F.plainAttrs_list PySem.F.slot_list_append PySem.F.type_list_append mt_append (pv 3) (pa_cons (pv 5) pa_nil)))))))
      (pss_one (ps_ret (pv 3))))), ?_⟩
    have esz : (1 : Int) * 2 ^ ((m : Int).toNat) = ((2 ^ m : Nat) : Int) := by rw [Int.one_mul, Int.toNat_natCast, pw_cast]
    have p8 : 2 ^ m ≤ 8 := Nat.le_trans (Nat.pow_le_pow_right (by decide) m3) (by decide)
    refine ⟨.ref tp, rfl, tp, 7, rfl, by decide, by decide, t0, fun H1 z z0 z1 t1 b1 => ⟨1, z, rfl, rfl, ?_⟩⟩
    obtain ⟨sz, hsz⟩ : ∃ sz : Nat, 1 + z = (sz : Int) := ⟨(1 + z).toNat, by omega⟩
    change gName 2 (V.int (1 + z)) _ _ _
    rw [hsz]
    have sz1 : 1 ≤ sz ∧ sz ≤ 9 := by omega
    refine ⟨Nat.zero_le _, fun L hL => ?_⟩
    have sL := same_new (o := .lst []) hL
    have nL := t1.ne_new hL
    have hL0 : H L = none := by
      cases e : H L with
      | none => rfl
      | some u =>
        have := b1 L u nL e
        rw [hL] at this
        cases this
    refine ⟨.int sz, rfl, sz, rfl, by omega, by omega, for_range (lo := 0) (n := sz) (fun i σ H3 => ∃ y4 y5 y6 ls mac, σ = [some (.ref tp), some (.int (m : Int)), some (.int (sz : Int)), some (.ref L), y4, y5, y6] ∧ H3 L = some (.lst (ls.map V.ref)) ∧ MacL H3 ls mac ∧ mac.length = i ∧ (∀ row ∈ mac, row.length = 2 ^ m) ∧ (∀ row ∈ mac, ∀ e ∈ row, Bit e.1 ∧ ∃ j : Nat, e.2 = (j : Int) ∧ j < sz) ∧ (∀ l ∈ ls, l ≠ L ∧ l ≠ tp ∧ H l = none) ∧ TP H3 tp ∧ But tp H H3)
      ⟨none, none, none, [], [], rfl, upd_same, .nil, rfl, (fun _ z => nomatch z), (fun _ z => nomatch z), (fun _ z => nomatch z), t1.same sL, b1.trans (But.same sL)⟩ (fun i σ H3 hi hp => ?_) (fun σ H3 hp => ?_)⟩
    · obtain ⟨y4, y5, y6, ls, mac, rfl, eL, hmac, ml, hrows, hends, nls, t3, b3⟩ := hp
      have mll := awLen hmac
      refine ⟨(by show 0 ≤ sizeLine; decide), fun G hG => ?_⟩
      have nG := t3.ne_new hG
      have nGL : G ≠ L := fun z => by rw [z, eL] at hG; cases hG
      refine ⟨.int m, rfl, 1, m, rfl, rfl, ⟨by omega, by omega, by decide⟩, ((2 ^ m : Nat) : Int), congrArg (fun z => [V.int z]) esz, Int.le_trans (by decide) (Int.natCast_nonneg _), Int.lt_of_le_of_lt (b := ((8 : Nat) : Int)) (Int.ofNat_le.mpr p8) (by decide),
        for_range (lo := 0) (n := 2 ^ m) (fun t σ H4 => ∃ y6 ws row, σ = [some (.ref tp), some (.int (m : Int)), some (.int (sz : Int)), some (.ref L), some (.int (0 + i)), some (.ref G), y6] ∧ H4 G = some (.lst (ws.map V.ref)) ∧ PrAt H4 ws row ∧ row.length = t ∧ (∀ e ∈ row, Bit e.1 ∧ ∃ j : Nat, e.2 = (j : Int) ∧ j < sz) ∧ TP H4 tp ∧ But tp H3 H4)
        ⟨y6, [], [], rfl, upd_same, .nil, rfl, (fun _ z => nomatch z), t3.upd nG, But.same (same_new hG)⟩ (fun t σ H4 ht hp => ?_) (fun σ H4 hp => ?_)⟩
      · obtain ⟨y6, ws, row, rfl, eG, hw, rl, hb, t4, b4⟩ := hp
        refine ⟨.ref G, rfl, .inl ⟨rfl, _, .inl (.inl eG)⟩, .ref tp, rfl, tp, 8, rfl, by decide, by decide, t4, fun H6 a a0 a1 t6 b6 => ⟨rfl, .inr ⟨_, rfl, ?_⟩⟩⟩
        have bit : Bit (if decide (V.int a = V.int 0) = true then 1 else 0) := by
          by_cases z : decide (V.int a = V.int 0) = true
          · rw [if_pos z]; exact bit1
          · rw [if_neg z]; exact bit0
        refine ⟨.ref tp, rfl, .int sz, rfl, tp, sz, rfl, by omega, by omega, t6, fun H7 c c0 c1 t7 b7 => ?_⟩
        obtain ⟨x, hx⟩ : ∃ x : Int, x = if decide (V.int a = V.int 0) = true then 1 else 0 := ⟨_, rfl⟩
        rw [← hx] at bit ⊢
        refine ⟨by show 2 ≤ sizeLine; decide, fun T hT => ?_⟩
        have sT := same_new (o := .tup [.int x, .int c]) hT
        have nT := t7.ne_new hT
        have eG7 := sT _ _ (b7 _ _ nG (b6 _ _ nG eG))
        have tp8 := tups_put (o := .lst (ws.map V.ref ++ [V.ref T])) eG7
        have ts : TupsStay H4 (upd H7 T (.tup [.int x, .int c])) := ((b6.tape t4).trans (b7.tape t6)).trans (Same.tups sT)
        have wl := awLen hw
        obtain ⟨j, hj⟩ : ∃ j : Nat, c = (j : Int) := ⟨c.toNat, by omega⟩
        refine ⟨G, _, .ref T, rfl, rfl, eG7, ?_, _, ws ++ [T], row ++ [(x, c)], rfl, ?_, ?_, ?_, fun e he => ?_, (t7.same sT).upd nG, fun b u n e => ?_⟩
        · rw [List.length_map]
          exact small1000 (by omega)
        · rw [upd_same, List.map_append]
          rfl
        · exact prat_stay tp8 (awSnoc (F := fun (q : Addr) (e : Int × Int) => (upd H7 T (.tup [.int x, .int c])) q = some (.tup [.int e.1, .int e.2])) upd_same (prat_stay ts hw))
        · rw [List.length_append, rl]
          rfl
        · rcases List.mem_append.mp he with he | he
          · exact hb e he
          · rw [List.mem_singleton.mp he]
            exact ⟨bit, j, hj, by omega⟩
        · rw [upd_ne (ne_of_none e hG)]
          exact sT _ _ (b7 b u n (b6 b u n (b4 b u n e)))
      · obtain ⟨y6, ws, row, rfl, eG, hw, rl, hb, t4, b4⟩ := hp
        have eL4 := b4 _ _ nL eL
        have tp8 := tups_put (o := .lst (ls.map V.ref ++ [V.ref G])) eL4
        have hG0 : H G = none := by
          cases e : H G with
          | none => rfl
          | some u =>
            have := b3 G u nG e
            rw [hG] at this
            cases this
        refine ⟨.ref L, rfl, .inl ⟨rfl, _, .inl (.inl eL4)⟩, .ref G, rfl, L, _, _, rfl, rfl, eL4, ?_, some (.int (0 + i)), _, _, ls ++ [G], mac ++ [row], rfl, ?_, ?_, ?_, fun r hr' => ?_, fun r hr' => ?_, fun l hl => ?_, t4.upd nL, fun b u n e => ?_⟩
        · rw [List.length_map]
          exact small1000 (by omega)
        · rw [upd_same, List.map_append]
          rfl
        · refine awSnoc (F := RowL (upd H4 L (.lst (ls.map V.ref ++ [V.ref G])))) ⟨ws, ?_, prat_stay tp8 hw⟩ (macl_stay ((b4.tape t3).trans tp8) (fun l hl xs z => ?_) hmac)
          · rw [upd_ne nGL]
            exact eG
          · rw [upd_ne (nls l hl).1]
            exact b4 _ _ (nls l hl).2.1 z
        · rw [List.length_append, ml]
          rfl
        · rcases List.mem_append.mp hr' with h | h
          · exact hrows r h
          · rw [List.mem_singleton.mp h]
            exact rl
        · rcases List.mem_append.mp hr' with h | h
          · exact hends r h
          · rw [List.mem_singleton.mp h]
            exact hb
        · rcases List.mem_append.mp hl with h | h
          · exact nls l h
          · rw [List.mem_singleton.mp h]
            exact ⟨nGL, nG, hG0⟩
        · rw [upd_ne (ne_of_none e hL0)]
          exact b4 b u n (b3 b u n e)
    · obtain ⟨y4, y5, y6, ls, mac, rfl, eL, hmac, ml, hrows, hends, nls, t3, b3⟩ := hp
      exact ⟨.ref L, rfl, q H3 L ls mac b3 t3 hL0 eL hmac (fun l hl => (nls l hl).2.2) ⟨by omega, by omega, hrows, fun r hr' e he => by rw [ml]; exact hends r hr' e he⟩⟩
section rep1
open L2
variable {X : Cx}
theorem tuple_mul1 (l : Addr) (items : Array Value) (n : Nat) (dd : Option Addr) (sl : Array (Option Value)) (u : Tok) :
    Meets (Builtin.«tuple.__mul__» ⟨[.ref l, .int 1 u], []⟩) (fun _ R s => s.heap.get? l = some { cls := .type "tuple", dict := dd, data := .seq items n, slots := sl } ∧ R (.ok (.ret (Value.ref l))) s) :=
  .of_wp fun prog w A R s h => by
    obtain ⟨hp, g, d, tk, os⟩ := s
    obtain ⟨hl, h⟩ := h
    have f1 := AutoSeq1.idx_int
    have c1 : (items.isEmpty || (1 : Int) == 1) = true := by simp
    wp_walk using wpAny_loadPart' hl
    exact ⟨_, rfl, h⟩
theorem op_repT1 : OpR X (binaryOp .Mult) (fun x y H Q => ∃ l xs, x = .ref l ∧ y = .int 1 ∧ H l = some (.tup xs) ∧ Q (.ref l) H) := by
  intro pins s σ H x y v u Q I rx ry h
  obtain ⟨l, xs, rfl, rfl, hT, q⟩ := h
  cases rx
  obtain ⟨t, rfl⟩ := ry
  obtain ⟨its, r, ⟨⟨cls, dd, data, sl⟩, ho, hc, n, hd⟩, hs⟩ := I.tuple (SqT.of hT)
  simp only at hc hd
  subst hc hd
  refine wpAny_binaryOp_repeat_ref (T := "tuple") (U := "int") (by decide) ⟨_, ho, rfl⟩ (fun s' => typeIs_int s' 1 t) noFill_tuple_mul F.fills_int_mul F.slot_int_rmul repeat_tuple F.slot_int_index.lookup
    (call_meets F.slot_int_rmul (typeIs_int s 1 t) F.entry_int_rmul (F.args_int_rmul_2 _ _) (int_rmul_tuple 1 t l its.toArray n dd sl)
      ⟨ho, rfl, ⟨_, ho, rfl⟩, call_meets F.slot_tuple_mul ⟨_, ho, rfl⟩ F.entry_tuple_mul (F.args_tuple_mul_2 _ _) (tuple_mul1 l its.toArray n dd sl t) ⟨ho, ?_⟩⟩)
  exact ⟨.ref l, H, I, rfl, q⟩
/-- a tuple taken once or more -/
def rRepU : R2 := fun x y H Q => ∃ l xs, ∃ k : Nat, x = .ref l ∧ y = .int (k : Int) ∧ H l = some (.tup xs) ∧ xs ≠ [] ∧ 1 ≤ k ∧ k ≤ 1000 ∧ xs.length ≤ 1000 ∧ ∀ p H', Same H H' → H' p = some (.tup (List.replicate k xs).flatten) → Q (.ref p) H'
theorem op_repU : OpR X (binaryOp .Mult) rRepU := by
  intro pins s σ H x y v u Q I rx ry h
  obtain ⟨l, xs, k, rfl, rfl, hT, hne, k1, k2, hx, q⟩ := h
  by_cases e : k = 1
  · subst e
    exact op_repT1 pins s σ H _ _ v u Q I rx ry ⟨l, xs, rfl, rfl, hT, q l H (fun _ _ z => z) (by rw [hT]; simp)⟩
  · exact op_repT pins s σ H _ _ v u Q I rx ry ⟨l, k, xs, rfl, rfl, SqT.of hT, hne, by omega, by omega, hx, fun p hp => q p _ (same_new hp) (by rw [upd_same, Int.toNat_natCast])⟩
end rep1
theorem alk_out {m : Nat} {mac : List MRow} {E : Nat → Nat → Prop} (ok : MxOk m mac) (h : Alk mac E) : ∀ (w : Wd) (i j : Nat), (∀ c ∈ w, c ∈ allB m) → E i j → outM mac i w = outM mac j w
  | [], _, _, _, _ => rfl
  | b :: w, i, j, hw, e => by
    obtain ⟨r, s, hr, hs, p⟩ := h i j e
    obtain ⟨t, ht⟩ := List.mem_iff_getElem?.mp (hw b List.mem_cons_self)
    obtain ⟨y, hy, e1, e2⟩ := awGet p (ok.ent hr ht)
    have := ok.ent hs ht
    rw [hy] at this
    obtain rfl := Option.some.inj this
    show (entM mac i b).1 :: outM mac (nxM mac i b) w = (entM mac j b).1 :: outM mac (nxM mac j b) w
    rw [e1, alk_out ok h w _ _ (fun c hc => hw c (List.mem_cons_of_mem _ hc)) e2]
def chR (m k : Nat) : MRow := List.replicate (2 ^ m) (0, ((k + 1 : Nat) : Int))
def chM (m n : Nat) : List MRow := (List.range (n - 1)).map (chR m) ++ [List.replicate (2 ^ m) (1, ((n - 1 : Nat) : Int))]
theorem chM_len {m n : Nat} (h : 1 ≤ n) : (chM m n).length = n := by
  unfold chM
  rw [List.length_append, List.length_map, List.length_range, List.length_singleton]
  omega
theorem chM_at {m n k : Nat} (h : k < n) : (chM m n)[k]? = some (if k + 1 < n then chR m k else List.replicate (2 ^ m) (1, ((n - 1 : Nat) : Int))) := by
  unfold chM
  by_cases z : k + 1 < n
  · rw [if_pos z, List.getElem?_append_left (by rw [List.length_map, List.length_range]; omega), List.getElem?_map, List.getElem?_range (by omega)]
    rfl
  · rw [if_neg z, List.getElem?_append_right (by rw [List.length_map, List.length_range]; omega), List.length_map, List.length_range, show k - (n - 1) = 0 by omega]
    rfl
theorem chM_ok {m n : Nat} (m3 : m ≤ 3) (h : 2 ≤ n) (h2 : n ≤ 256) : MxOk m (chM m n) := by
  refine ⟨m3, by rw [chM_len (by omega)]; omega, by rw [chM_len (by omega)]; exact h2, fun row hr => ?_, fun row hr e he => ?_⟩
  · obtain ⟨k, hk⟩ := List.mem_iff_getElem?.mp hr
    have kl := (List.getElem?_eq_some_iff.mp hk).1
    rw [chM_len (by omega)] at kl
    rw [chM_at kl] at hk
    rw [← Option.some.inj hk]
    split
    · exact List.length_replicate
    · exact List.length_replicate
  · obtain ⟨k, hk⟩ := List.mem_iff_getElem?.mp hr
    have kl := (List.getElem?_eq_some_iff.mp hk).1
    rw [chM_len (by omega)] at kl ⊢
    rw [chM_at kl] at hk
    rw [← Option.some.inj hk] at he
    split at he
    · rw [(List.mem_replicate.mp he).2]
      exact ⟨k + 1, rfl, by omega⟩
    · rw [(List.mem_replicate.mp he).2]
      exact ⟨n - 1, rfl, by omega⟩
theorem chM_ent {m n k : Nat} {b : List Int} (m3 : m ≤ 3) (h : k < n) (hb : b ∈ allB m) : entM (chM m n) k b = if k + 1 < n then (0, ((k + 1 : Nat) : Int)) else (1, ((n - 1 : Nat) : Int)) := by
  have lb := idb_lt m3 hb
  have e0 : (chM m n).getD k [] = if k + 1 < n then chR m k else List.replicate (2 ^ m) (1, ((n - 1 : Nat) : Int)) := by
    rw [List.getD_eq_getElem?_getD, chM_at h]
    rfl
  unfold entM
  rw [e0]
  show (if k + 1 < n then chR m k else _).getD (idb b) (0, 0) = _
  split
  · rw [List.getD_eq_getElem?_getD]
    unfold chR
    rw [List.getElem?_replicate, if_pos lb]
    rfl
  · rw [List.getD_eq_getElem?_getD, List.getElem?_replicate, if_pos lb]
    rfl
theorem ch_out {m n : Nat} (m3 : m ≤ 3) : ∀ (u : Wd) (k : Nat), (∀ c ∈ u, c ∈ allB m) → k + u.length + 1 ≤ n → outM (chM m n) k u = List.replicate u.length 0 ∧ runM (chM m n) k u = k + u.length
  | [], k, _, _ => ⟨rfl, rfl⟩
  | b :: u, k, hu, h => by
    rw [List.length_cons] at h
    have e := chM_ent (n := n) (k := k) m3 (by omega) (hu b List.mem_cons_self)
    rw [if_pos (by omega)] at e
    have nx : nxM (chM m n) k b = k + 1 := by
      show (entM (chM m n) k b).2.toNat = _
      rw [e]
      exact Int.toNat_natCast _
    obtain ⟨i1, i2⟩ := ch_out (m := m) (n := n) m3 u (k + 1) (fun c hc => hu c (List.mem_cons_of_mem _ hc)) (by omega)
    refine ⟨?_, ?_⟩
    · show (entM (chM m n) k b).1 :: outM (chM m n) (nxM (chM m n) k b) u = _
      rw [nx, i1, e]
      rfl
    · show runM (chM m n) (nxM (chM m n) k b) u = _
      rw [nx, i2, List.length_cons]
      omega
abbrev zB (m : Nat) : List Int := List.replicate m 0
theorem zB_ok {m : Nat} (m3 : m ≤ 3) : zB m ∈ allB m ∧ idb (zB m) = 0 := by
  have hm : m = 0 ∨ m = 1 ∨ m = 2 ∨ m = 3 := by omega
  rcases hm with rfl | rfl | rfl | rfl <;> exact ⟨by decide +kernel, by decide +kernel⟩
theorem numW_zero {m : Nat} (m3 : m ≤ 3) : ∀ n : Nat, numW m (List.replicate n (zB m)) = (2 ^ m) ^ n
  | 0 => rfl
  | n + 1 => by
    rw [List.replicate_succ', numW_snoc, numW_zero m3 n, (zB_ok m3).2, Nat.pow_succ, Nat.add_zero]
theorem ch_parts {m n one two : Nat} (m1 : 1 ≤ m) (m3 : m ≤ 3) (h : one < two) (h2 : two < n) : PartsF m (chM m n) one two (List.replicate (n - two) (zB m)) := by
  obtain ⟨zm, z0⟩ := zB_ok m3
  obtain ⟨d, hd⟩ : ∃ d, n - two = d + 1 := ⟨n - two - 1, by omega⟩
  have zr : ∀ t, ∀ c ∈ List.replicate t (zB m), c ∈ allB m := fun t c hc => by rw [(List.mem_replicate.mp hc).2]; exact zm
  rw [hd]
  obtain ⟨a1, a2⟩ := ch_out (n := n) m3 (List.replicate d (zB m)) one (zr d) (by rw [List.length_replicate]; omega)
  obtain ⟨b1, b2⟩ := ch_out (n := n) m3 (List.replicate d (zB m)) two (zr d) (by rw [List.length_replicate]; omega)
  rw [List.length_replicate] at a1 a2 b1 b2
  refine ⟨⟨List.replicate d (zB m), zB m, List.replicate_succ', zr _, by rw [a1, b1], ?_⟩, fun w hw df => ?_⟩
  · rw [a2, b2, chM_ent m3 (by omega) zm, chM_ent m3 (by omega) zm, if_pos (by omega), if_neg (by omega)]
    show (0 : Int) ≠ 1
    decide
  · have wl : d + 1 ≤ w.length := by
      rcases Nat.lt_or_ge w.length (d + 1) with z | z
      · exfalso
        apply df
        rw [(ch_out (n := n) m3 w one hw (by omega)).1, (ch_out (n := n) m3 w two hw (by omega)).1]
      · exact z
    have := (numW_len m3 w hw).1
    rw [numW_zero m3]
    exact Nat.le_trans (Nat.pow_le_pow_right (by have := two_le m1; omega) wl) this
theorem paired_rep {α β : Type} {F : α → β → Prop} {a : α} {b : β} (h : F a b) : ∀ n, Paired F (List.replicate n a) (List.replicate n b)
  | 0 => .nil
  | n + 1 => by
    rw [List.replicate_succ, List.replicate_succ]
    exact .cons h (paired_rep h n)
theorem rep_flat {α β : Type} (f : α → β) (a : α) : ∀ n, (List.replicate n [f a]).flatten = (List.replicate n a).map f
  | 0 => rfl
  | n + 1 => by
    rw [List.replicate_succ, List.replicate_succ, List.flatten_cons, rep_flat f a n]
    rfl
theorem dpall_bits {H : Hp} : ∀ {fs : List Addr} {w : Wd}, TAt H fs w → DpAll K H (fs.map V.ref) (w.map encB)
  | _, _, .nil => .nil
  | _, _, .cons h t => .cons (.tup (SqT.of h) (dp_ints _)) (dpall_bits t)
theorem nd_word (w : Wd) : (encW w).hasDict = false := by
  have : ∀ w : Wd, PyData.hasDictAll (w.map encB) = false := fun w => by
    induction w with
    | nil => simp only [List.map_nil, PyData.hasDictAll]
    | cons b w ih =>
      have hi : ∀ xs : List Int, PyData.hasDictAll (xs.map PyData.int) = false := fun xs => by
        induction xs with
        | nil => simp only [List.map_nil, PyData.hasDictAll]
        | cons x xs ih => simp only [List.map_cons, PyData.hasDictAll, PyData.hasDict, ih, Bool.or_self]
      simp only [List.map_cons, PyData.hasDictAll, PyData.hasDict, hi, ih, Bool.or_self]
  show PyData.hasDict (.list _) = false
  simp only [PyData.hasDict, this]
theorem nice_word {m : Nat} {w : Wd} (m3 : m ≤ 3) (h : ∀ c ∈ w, c ∈ allB m) (hl : w.length ≤ 1000) : Nice 8000 2 (encW w) := by
  refine nice_lst (b := 3) (k := 1) (fun x hx => ?_) (by rw [List.length_map]; omega)
  obtain ⟨b, hb, rfl⟩ := List.mem_map.mp hx
  obtain ⟨b1, b2⟩ := allB_ok m b (h b hb)
  refine nice_tup (b := 0) (k := 0) (fun x hx => ?_) (by rw [List.length_map]; omega)
  obtain ⟨i, hi, rfl⟩ := List.mem_map.mp hx
  refine nice_int ?_
  rcases b2 i hi with z | z <;> rw [z] <;> decide
structure FnG (P : Program) (w : World) (K : PySem.W.Frag) (mg : Str → Option Value) (base : Heap) (k : Nat) (f : Addr) (fd : FuncData) (ps : List Str) (sp : Sp) : Prop where
  len : ∀ vs H Q E, sp vs H Q E → vs.length = ps.length
  run : ∀ (A : Around) (outer : List Env) (s : Shared) (H : Hp) (args : Args) (us : List Value) (vs : List V) (Q : VK) (E : XK), Room k A → A.guards = some [] → Env0 P w K mg base A outer s H → BindsTo s fd args (ps.zip us) → Vals vs us → sp vs H Q E →
    codeAny (model P w) A (.call (.ref f) args) (CR CX0 outer P w H s Q E) s
theorem fun_okG {x qual : Str} {st : Stmt} {f : Addr} {fd : FuncData} {N ps : List Str} {k : Nat} {sp : Sp} (F : Fun K x qual st f fd) (S : FnScope N ps (defScope st)) (len : ∀ vs H Q E, sp vs H Q E → vs.length = ps.length)
    (hbody : ∀ (cdv : Value) (A : Around) (outer : List Env) (s : Shared) (H : Hp) (vs : List V) (Q : VK) (E : XK), Room k (A.deeper (envOfC qual (defScope st) s.heap.objs.size f cdv)) → (A.deeper (envOfC qual (defScope st) s.heap.objs.size f cdv)).guards = some [] → sp vs H Q E →
      ∃ t, PSs (cxOf CX0 P w K mg base N qual (defScope st) f cdv A outer s H E).nox (defBody st) t ∧ t { nx := fun _ H' => Q .non H', rt := Q } (start N vs) H) : FnG P w K mg base (k + 1) f fd ps sp :=
  ⟨len, fun A outer s H args us vs Q E hr hg e0 hb r hs => fn_at F S hr e0 hb r (len _ _ _ _ hs) fun cdv => hbody cdv A outer s H vs Q E (Room.deeper hr _) hg hs⟩
section
variable {X : Cx} {k : Nat} {f : Addr} {fd : FuncData} {ps : List Str} {sp : Sp} {x : Str} {p pos : Pos} {e : Expr} {es : List Expr} {t : TA}
theorem run_fnG {pins : List (Addr × Obj)} {σ : L2.St} {H : Hp} {s : Shared} {Q : VK} {us : List Value} {vs : List V} (F : FnG X.prog X.w X.K X.mg X.base k f fd ps sp) (hr : Room k X.A) (hgd : X.A.guards = some []) (hb : Binds X.K fd ps [])
    (I : Inv X pins σ H s) (r : Vals vs us) (h : sp vs H Q E0) : wpAny (model X.prog X.w) X.A (call (.ref f) us) (EP X pins σ Q) X.xe s := by
  have hl : us.length = ps.length := by rw [← r.length]; exact F.len _ _ _ _ h
  have b := hb s us I.kIn (by rw [List.append_nil]; exact hl)
  rw [List.append_nil] at b
  refine wpAny_call (codeAny_mono (F.run X.A X.stack s H ⟨us, []⟩ us vs Q E0 hr hgd I.env0 b r h) fun r s' hq => ?_)
  cases r with
  | error e => exact False.elim hq
  | ok fl =>
    cases fl with
    | ret u => exact I.after hq
    | next => exact False.elim hq
    | brk => exact False.elim hq
    | cont => exact False.elim hq
theorem pe_callG (F : FnG X.prog X.w X.K X.mg X.base k f fd ps sp) (hr : Room k X.A) (hgd : X.A.guards = some []) (hg : Gl X x) (hm : X.mg x = some (.ref f)) (hk : PySem.W.keepIn X.K (.ref f) = true) (hb : Binds X.K fd ps [])
    (ha : PA X (e :: es) t) (hdb : (x == ("__debug__" : Str)) = false := by decide) (he : starEach (e :: es) X.env = (false, eval e X.env) :: starEach es X.env := by rfl) (hpl : (backTo pos (starEach es X.env)).any (·.1) = false := by rfl) :
    PE X (.Call (.Name x p) (e :: es) [] pos) (tCallS sp (fun _ => E0) t) := by
  refine ⟨fun pins s σ H Q I h => ?_⟩
  refine wpAny_Call_Name_kw (ld_glob I hg hm ?_ hdb)
  refine PySem.W.callWith_K (h₀ := X.base) I.ok.mod.kin hk (thn (ha.run pos pins s σ H _ I h) fun us s1 ⟨vs, H1, I1, r, q⟩ => ⟨I1.kIn, ?_⟩) he hpl
  exact run_fnG F hr hgd hb I1 r q
end
def spCr44 : Sp := fun vs H Q _ => ∃ (tp : Addr) (m : Nat), vs = [.ref tp, .int (m : Int)] ∧ 1 ≤ m ∧ m ≤ 3 ∧ TP H tp ∧ ∀ H', But tp H H' → TP H' tp → Q (.bl true) H'
set_option maxHeartbeats 4000000 in
theorem ok_cr44 {f fD fP : Addr} {fd fdD fdP : FuncData} {k : Nat} (F : Fun K "_law_chain_right" "_law_chain_right" s_law_chain_right f fd) (GD : FnOk P w K mg base CX0 (k + 1) fD fdD ["tape", "many"] spDigit) (kD : PySem.W.keepIn K (.ref fD) = true) (bD : Binds K fdD ["tape", "many"] []) (gD : mg "_law_digit" = some (.ref fD))
    (GP : FnOk P w K mg base CX0 (k + 3) fP fdP ["machine", "one", "other"] spPf) (kP : PySem.W.keepIn K (.ref fP) = true) (bP : Binds K fdP ["machine", "one", "other"] []) (gP : mg "parting" = some (.ref fP))
    (mr : mg "range" = none) (mp : mg "repr" = none) : FnG P w K mg base (k + 4) f fd ["tape", "many"] spCr44 := by
  refine fun_okG F sc_law_chain_right (fun vs H Q E h => ?_) (fun cdv A outer s H vs Q E hr hgd h => ?_)
  · obtain ⟨tp, m, rfl, _⟩ := h
    rfl
  · obtain ⟨tp, m, rfl, m1, m3, t0, q⟩ := h
    have nd := sc_law_chain_right.nd
    have hu := hr.units
    have r1 := hr.mono (show k + 1 ≤ k + 3 by omega)
    refine ⟨_, pss_cons (ps_set (i := 2) nd rfl (.inl rfl) (pe_op op_add pe_int (pe_call GD r1 (by rfl) gD kD bD .nil pass0 (pa_cons (pv 0) (pa_cons pe_int pa_nil)))))
      (pss_cons (ps_set (i := 3) nd rfl (.inl rfl) (pe_op op_cat
        (pe_lc (own := [("k", 6)]) (g := gName 6) (by rfl) nd (pi_range1 (by rfl) mr (pa_cons (pe_op op_sub (pv 2) pe_int) pa_nil)) (blkOk_by (own := [("k", 6)]) (N := N_law_chain_right) (sc := defScope s_law_chain_right) (by decide +kernel))
          (fun _ _ _ _ _ => pg_name (i := 6) nd rfl (Or.inl rfl)) (fun _ _ _ _ _ => pts_nil)
          (fun _ _ _ _ _ => pe_op op_rep (pe_lst (pa_cons (pe_tup (pa_cons pe_int (pa_cons (pe_op op_add (pv 6) pe_int) pa_nil))) pa_nil)) (pe_op op_shl pe_int (pv 1))))
        (pe_lst (pa_cons (pe_op op_rep (pe_lst (pa_cons (pe_tup (pa_cons pe_int (pa_cons (pe_op op_sub (pv 2) pe_int) pa_nil))) pa_nil)) (pe_op op_shl pe_int (pv 1))) pa_nil))))
      (pss_cons (ps_set (i := 4) nd rfl (.inl rfl) (pe_op op_add pe_int (pe_call GD r1 (by rfl) gD kD bD .nil pass0 (pa_cons (pv 0) (pa_cons (pe_op op_sub (pv 2) pe_int) pa_nil)))))
      (pss_cons (ps_set (i := 5) nd rfl (.inl rfl) (pe_call GD r1 (by rfl) gD kD bD .nil pass0 (pa_cons (pv 0) (pa_cons (pv 4) pa_nil))))
      (pss_one (ps_ret (pe_cmpR op_eq (pe_callB (call_repr hgd hu) (by rfl) mp (by decide +kernel) (pa_cons (pe_call GP hr (by rfl) gP kP bP .nil pass0 (pa_cons (pv 3) (pa_cons (pv 5) (pa_cons (pv 4) pa_nil)))) pa_nil))
        (pe_callB (call_repr hgd hu) (by rfl) mp (by decide +kernel) (pa_cons (pe_op op_rep (pe_lst (pa_cons (pe_op op_repU (pe_tup (pa_cons pe_int pa_nil)) (pv 1)) pa_nil)) (pe_op op_sub (pv 2) (pv 4))) pa_nil)) (nomark _))))))), ?_⟩
    have esz : (1 : Int) * 2 ^ ((m : Int).toNat) = ((2 ^ m : Nat) : Int) := by rw [Int.one_mul, Int.toNat_natCast, pw_cast]
    have p8 : 2 ^ m ≤ 8 := Nat.le_trans (Nat.pow_le_pow_right (by decide) m3) (by decide)
    refine ⟨.ref tp, rfl, tp, 69, rfl, by decide, by decide, t0, fun H1 z z0 z1 t1 b1 => ⟨2, z, rfl, rfl, ?_⟩⟩
    obtain ⟨n, hn⟩ : ∃ n : Nat, 2 + z = (n : Int) := ⟨(2 + z).toNat, by omega⟩
    change gName 2 (V.int (2 + z)) _ _ _
    rw [hn]
    have n2 : 2 ≤ n ∧ n ≤ 71 := by omega
    have en1 : (n : Int) - 1 = ((n - 1 : Nat) : Int) := by omega
    refine ⟨.int (n : Int), rfl, (n : Int), 1, rfl, rfl, ((n - 1 : Nat) : Int), congrArg (fun z => [V.int z]) en1, Int.le_trans (by decide) (Int.natCast_nonneg _), by omega, fun G hG => ?_⟩
    have nG := t1.ne_new hG
    refine lc_it (walk_range (lo := 0) (n := n - 1)) (fun t H4 => ∃ ls : List Addr, H4 G = some (.lst (ls.map V.ref)) ∧ MacL H4 ls ((List.range t).map (chR m)) ∧ (∀ l ∈ ls, l ≠ G ∧ l ≠ tp) ∧ Same H1 H4) ⟨[], upd_same, .nil, (fun _ z => nomatch z), same_new hG⟩ (fun _ _ _ _ => trivial) (fun t x H4 H5 ht hp hy => ?_) (fun H4 hp => ?_)
    · obtain ⟨ls, eG, hml, nls, s4⟩ := hp
      obtain ⟨rfl, rfl⟩ := hy
      refine ⟨rfl, .int (0 + t), rfl, 0 + (t : Int), 1, rfl, rfl, (by show 2 ≤ sizeLine; decide), fun T hT => ?_⟩
      have e1 : (0 : Int) + (t : Int) + 1 = ((t + 1 : Nat) : Int) := by omega
      have sT := same_new (o := .tup [.int 0, .int (0 + (t : Int) + 1)]) hT
      have eT : upd H5 T (.tup [.int 0, .int (0 + (t : Int) + 1)]) T = some (.tup [.int 0, .int ((t + 1 : Nat) : Int)]) := by rw [upd_same, e1]
      refine ⟨(by show 1 ≤ sizeLine; decide), fun L2 hL2 => ?_⟩
      have sL2 := same_new (o := .lst [.ref T]) hL2
      refine ⟨.int m, rfl, 1, m, rfl, rfl, ⟨by omega, by omega, by decide⟩, L2, _, [.ref T], rfl, rfl, upd_same, by rw [esz]; exact Int.le_trans (by decide) (Int.natCast_nonneg _), by rw [esz]; exact Int.lt_of_le_of_lt (b := ((8 : Nat) : Int)) (Int.ofNat_le.mpr p8) (by decide), by rw [esz, Int.toNat_natCast, sizeLine_eq]; show 1 * 2 ^ m ≤ _; omega, fun R hR => ?_⟩
      have sR := same_new (o := .lst (List.replicate ((1 : Int) * 2 ^ ((m : Int).toNat)).toNat [V.ref T]).flatten) hR
      have eR := upd_same (H := upd (upd H5 T (.tup [.int 0, .int (0 + (t : Int) + 1)])) L2 (.lst [.ref T])) (a := R) (o := .lst (List.replicate ((1 : Int) * 2 ^ ((m : Int).toNat)).toNat [V.ref T]).flatten)
      have s45 := sT.trans (sL2.trans sR)
      have eT5 := sR _ _ (sL2 _ _ eT)
      have nRG : R ≠ G := fun z => by rw [z, sL2 _ _ (sT _ _ eG)] at hR; cases hR
      have nRt : R ≠ tp := (((t1.same s4).same sT).same sL2).ne_new hR
      obtain ⟨H6, hH6⟩ : ∃ H6, H6 = upd (upd (upd H5 T (.tup [.int 0, .int (0 + (t : Int) + 1)])) L2 (.lst [.ref T])) R (.lst (List.replicate ((1 : Int) * 2 ^ ((m : Int).toNat)).toNat [V.ref T]).flatten) := ⟨_, rfl⟩
      rw [← hH6] at s45 eT5 eR ⊢
      rw [esz, Int.toNat_natCast, rep_flat] at eR
      have eG6 := s45 _ _ eG
      have tpG := tups_put (o := .lst (ls.map V.ref ++ [V.ref R])) eG6
      have ll := awLen hml
      rw [List.length_map, List.length_range] at ll
      refine ⟨_, eG6, by rw [List.length_map]; exact small1000 (by omega), ls ++ [R], by rw [upd_same, List.map_append]; rfl, ?_, fun l hl => ?_, fun b u e => ?_⟩
      · rw [List.range_succ, List.map_append]
        refine awSnoc (F := RowL (upd H6 G (.lst (ls.map V.ref ++ [V.ref R])))) ⟨List.replicate (2 ^ m) T, by rw [upd_ne nRG]; exact eR, paired_rep (F := fun (q : Addr) (e : Int × Int) => (upd H6 G (.lst (ls.map V.ref ++ [V.ref R]))) q = some (.tup [.int e.1, .int e.2])) (tpG _ _ eT5) _⟩ (macl_stay ((Same.tups s45).trans tpG) (fun l hl xs z => ?_) hml)
        rw [upd_ne (nls l hl).1]
        exact s45 _ _ z
      · rcases List.mem_append.mp hl with z | z
        · exact nls l z
        · rw [List.mem_singleton.mp z]
          exact ⟨nRG, nRt⟩
      · rw [upd_ne (ne_of_none e hG)]
        exact s45 _ _ (s4 _ _ e)
    · obtain ⟨ls, eG, hml, nls, s4⟩ := hp
      refine ⟨.int (n : Int), rfl, (n : Int), 1, rfl, rfl, (by show 2 ≤ sizeLine; decide), fun T hT => ?_⟩
      have sT := same_new (o := .tup [.int 1, .int ((n : Int) - 1)]) hT
      have eT : upd H4 T (.tup [.int 1, .int ((n : Int) - 1)]) T = some (.tup [.int 1, .int ((n - 1 : Nat) : Int)]) := by rw [upd_same, en1]
      refine ⟨(by show 1 ≤ sizeLine; decide), fun L2 hL2 => ?_⟩
      have sL2 := same_new (o := .lst [.ref T]) hL2
      refine ⟨.int m, rfl, 1, m, rfl, rfl, ⟨by omega, by omega, by decide⟩, L2, _, [.ref T], rfl, rfl, upd_same, by rw [esz]; exact Int.le_trans (by decide) (Int.natCast_nonneg _), by rw [esz]; exact Int.lt_of_le_of_lt (b := ((8 : Nat) : Int)) (Int.ofNat_le.mpr p8) (by decide), by rw [esz, Int.toNat_natCast, sizeLine_eq]; show 1 * 2 ^ m ≤ _; omega, fun R hR => ?_⟩
      have sR := same_new (o := .lst (List.replicate ((1 : Int) * 2 ^ ((m : Int).toNat)).toNat [V.ref T]).flatten) hR
      have eR := upd_same (H := upd (upd H4 T (.tup [.int 1, .int ((n : Int) - 1)])) L2 (.lst [.ref T])) (a := R) (o := .lst (List.replicate ((1 : Int) * 2 ^ ((m : Int).toNat)).toNat [V.ref T]).flatten)
      have s45 := sT.trans (sL2.trans sR)
      have eT5 := sR _ _ (sL2 _ _ eT)
      have nRt : R ≠ tp := (((t1.same s4).same sT).same sL2).ne_new hR
      obtain ⟨H6, hH6⟩ : ∃ H6, H6 = upd (upd (upd H4 T (.tup [.int 1, .int ((n : Int) - 1)])) L2 (.lst [.ref T])) R (.lst (List.replicate ((1 : Int) * 2 ^ ((m : Int).toNat)).toNat [V.ref T]).flatten) := ⟨_, rfl⟩
      rw [← hH6] at s45 eT5 eR ⊢
      rw [esz, Int.toNat_natCast, rep_flat] at eR
      have ll := awLen hml
      rw [List.length_map, List.length_range] at ll
      refine ⟨(by show 1 ≤ sizeLine; decide), fun L3 hL3 => ?_⟩
      have sL3 := same_new (o := .lst [.ref R]) hL3
      refine ⟨G, L3, _, _, rfl, rfl, sL3 _ _ (s45 _ _ eG), upd_same, ?_, fun Mc hMc => ?_⟩
      · rw [List.length_map, sizeLine_eq]
        show ls.length + 1 ≤ _
        omega
      have sMc := same_new (o := .lst (ls.map V.ref ++ [V.ref R])) hMc
      have s67 := sL3.trans sMc
      have s17 := s4.trans (s45.trans s67)
      have eMc := upd_same (H := upd H6 L3 (.lst [.ref R])) (a := Mc) (o := .lst (ls.map V.ref ++ [V.ref R]))
      have nMt : Mc ≠ tp := (((t1.same s4).same s45).same sL3).ne_new hMc
      have t7 := t1.same s17
      have hmc : MacL (upd (upd H6 L3 (.lst [.ref R])) Mc (.lst (ls.map V.ref ++ [V.ref R]))) (ls ++ [R]) (chM m n) := awSnoc (F := RowL (upd (upd H6 L3 (.lst [.ref R])) Mc (.lst (ls.map V.ref ++ [V.ref R])))) ⟨List.replicate (2 ^ m) T, s67 _ _ eR, paired_rep (F := fun (q : Addr) (e : Int × Int) => (upd (upd H6 L3 (.lst [.ref R])) Mc (.lst (ls.map V.ref ++ [V.ref R]))) q = some (.tup [.int e.1, .int e.2])) (s67 _ _ eT5) _⟩ (macl_same (s45.trans s67) hml)
      have nlt : ∀ l ∈ ls ++ [R], l ≠ tp := fun l hl => by
        rcases List.mem_append.mp hl with z | z
        · exact (nls l z).2
        · rw [List.mem_singleton.mp z]
          exact nRt
      rw [show ls.map V.ref ++ [V.ref R] = (ls ++ [R]).map V.ref by rw [List.map_append]; rfl] at *
      obtain ⟨H7, hH7⟩ : ∃ H7, H7 = upd (upd H6 L3 (.lst [.ref R])) Mc (.lst ((ls ++ [R]).map V.ref)) := ⟨_, rfl⟩
      rw [← hH7] at eMc t7 hmc s17 ⊢
      refine ⟨.ref tp, rfl, .int (n : Int), rfl, (n : Int), 1, rfl, rfl, tp, (n : Int) - 1, rfl, by omega, by omega, t7, fun H8 z2 z20 z21 t8 b8 => ⟨1, z2, rfl, rfl, ?_⟩⟩
      obtain ⟨two, htwo⟩ : ∃ two : Nat, 1 + z2 = (two : Int) := ⟨(1 + z2).toNat, by omega⟩
      change gName 4 (V.int (1 + z2)) _ _ _
      rw [htwo]
      refine ⟨.ref tp, rfl, .int (two : Int), rfl, tp, (two : Int), rfl, by omega, by omega, t8, fun H9 z3 z30 z31 t9 b9 => ?_⟩
      obtain ⟨one, hone⟩ : ∃ one : Nat, z3 = (one : Int) := ⟨z3.toNat, by omega⟩
      subst hone
      have b79 := b8.trans b9
      have hm9 : MacL H9 (ls ++ [R]) (chM m n) := macl_stay (b79.tape t7) (fun l hl xs e => b79 _ _ (nlt l hl) e) hmc
      have b19 : But tp H H9 := b1.trans ((But.same s17).trans b79)
      have lt12 : one < two ∧ two < n := by omega
      have cp := ch_parts (n := n) m1 m3 lt12.1 lt12.2
      have mx := chM_ok (m := m) (n := n) m3 n2.1 (by omega)
      have zr : ∀ c ∈ List.replicate (n - two) (zB m), c ∈ allB m := fun c hc => by rw [(List.mem_replicate.mp hc).2]; exact (zB_ok m3).1
      have nice := nice_word (w := List.replicate (n - two) (zB m)) m3 zr (by rw [List.length_replicate]; omega)
      refine ⟨.ref Mc, rfl, .int (one : Int), rfl, .int (two : Int), rfl, Mc, m, one, two, ls ++ [R], chM m n, rfl, b79 _ _ nMt eMc, hm9, m1, mx, by rw [chM_len (by omega)]; omega, by rw [chM_len (by omega)]; omega, fun H10 s10 al => ?_, fun H10 L bl way s10 nL eL hbl hpf hwl => ?_⟩
      · exfalso
        obtain ⟨E, al, e⟩ := al
        obtain ⟨⟨cols, b, ew, hc, ho, hne⟩, _⟩ := cp
        have := alk_out mx al _ _ _ hc e
        rw [ew, outM_snoc, outM_snoc, ho] at this
        have := List.append_cancel_left this
        injection this with this
        exact hne this
      · obtain rfl := first_one m1 m3 hpf cp
        refine ⟨.ref L, encW (List.replicate (n - two) (zB m)), rfl, .inr ⟨.lst (.inl (.inl eL)) (dpall_bits hbl), nd_word _⟩, nice.sh, Nat.le_trans nice.dp (by decide), nice.fits (by decide), ?_⟩
        refine ⟨(by show 1 ≤ sizeLine; decide), fun T1 hT1 => ?_⟩
        have sT1 := same_new (o := .tup [.int 0]) hT1
        refine ⟨.int (m : Int), rfl, T1, [.int 0], m, rfl, rfl, upd_same, (fun z => nomatch z), m1, by omega, (by show 1 ≤ 1000; decide), fun T2 H11 s11 eT2 => ?_⟩
        refine ⟨(by show 1 ≤ sizeLine; decide), fun L4 hL4 => ?_⟩
        have sL4 := same_new (o := .lst [.ref T2]) hL4
        have e2 : (n : Int) - (two : Int) = ((n - two : Nat) : Int) := by omega
        refine ⟨.int (n : Int), rfl, .int (two : Int), rfl, (n : Int), (two : Int), rfl, rfl, L4, _, [.ref T2], rfl, rfl, upd_same, by rw [e2]; omega, by rw [e2]; omega, by rw [e2, Int.toNat_natCast, sizeLine_eq]; show 1 * (n - two) ≤ _; omega, fun R2 hR2 => ?_⟩
        have sR2 := same_new (o := .lst (List.replicate ((n : Int) - (two : Int)).toNat [V.ref T2]).flatten) hR2
        have eR2 := upd_same (H := upd H11 L4 (.lst [.ref T2])) (a := R2) (o := .lst (List.replicate ((n : Int) - (two : Int)).toNat [V.ref T2]).flatten)
        obtain ⟨H12, hH12⟩ : ∃ H12, H12 = upd (upd H11 L4 (.lst [.ref T2])) R2 (.lst (List.replicate ((n : Int) - (two : Int)).toNat [V.ref T2]).flatten) := ⟨_, rfl⟩
        rw [← hH12] at sR2 eR2 ⊢
        rw [e2, Int.toNat_natCast, rep_flat] at eR2
        have eT3 : H12 T2 = some (.tup ((zB m).map V.int)) := by
          rw [sR2 _ _ (sL4 _ _ eT2), rep_flat (fun i : Int => V.int i) 0]
        have s10b := s10.trans (sT1.trans (s11.trans (sL4.trans sR2)))
        refine ⟨.ref R2, encW (List.replicate (n - two) (zB m)), rfl, .inr ⟨.lst (.inl (.inl eR2)) (dpall_bits (paired_rep (F := fun (f : Addr) (b : List Int) => H12 f = some (.tup (b.map V.int))) eT3 _)), nd_word _⟩, nice.sh, Nat.le_trans nice.dp (by decide), nice.fits (by decide), rfl, ?_⟩
        rw [decide_eq_true rfl]
        exact q _ (b19.trans (But.same s10b)) (t9.same s10b)
def prD (e : Int × Int) : PyData := .tuple [.int e.1, .int e.2]
def mrD (row : MRow) : PyData := .list (row.map prD)
def mcD (mac : List MRow) : PyData := .list (mac.map mrD)
theorem dp_prs {H : Hp} : ∀ {qs : List Addr} {row : MRow}, PrAt H qs row → DpAll K H (qs.map V.ref) (row.map prD)
  | _, _, .nil => .nil
  | _, _, .cons (b := e) h t => .cons (.tup (SqT.of h) (dp_ints [e.1, e.2])) (dp_prs t)
theorem dp_rows {H : Hp} : ∀ {ls : List Addr} {mac : List MRow}, MacL H ls mac → DpAll K H (ls.map V.ref) (mac.map mrD)
  | _, _, .nil => .nil
  | _, _, .cons ⟨_, h1, h2⟩ t => .cons (.lst (.inl (.inl h1)) (dp_prs h2)) (dp_rows t)
theorem nd_prs : ∀ row : MRow, PyData.hasDictAll (row.map prD) = false
  | [] => by simp only [List.map_nil, PyData.hasDictAll]
  | e :: row => by simp only [List.map_cons, PyData.hasDictAll, prD, PyData.hasDict, nd_prs row, Bool.or_self]
theorem nd_rows : ∀ mac : List MRow, PyData.hasDictAll (mac.map mrD) = false
  | [] => by simp only [List.map_nil, PyData.hasDictAll]
  | row :: mac => by simp only [List.map_cons, PyData.hasDictAll, mrD, PyData.hasDict, nd_prs row, nd_rows mac, Bool.or_self]
theorem nd_mac (mac : List MRow) : (mcD mac).hasDict = false := by simp only [mcD, PyData.hasDict, nd_rows]
theorem nice_mac {m : Nat} {mac : List MRow} (ok : DrOk m mac) (m3 : m ≤ 3) : Nice 225 3 (mcD mac) := by
  have few := ok.few
  have p8 : 2 ^ m ≤ 8 := Nat.le_trans (Nat.pow_le_pow_right (by decide) m3) (by decide)
  refine nice_lst (b := 24) (k := 2) (fun x hx' => ?_) (by rw [List.length_map]; omega)
  obtain ⟨row, hr, rfl⟩ := List.mem_map.mp hx'
  have rl := ok.rows row hr
  refine nice_lst (b := 2) (k := 1) (fun x hx' => ?_) (by rw [List.length_map]; omega)
  obtain ⟨e, he, rfl⟩ := List.mem_map.mp hx'
  obtain ⟨hb, j, hj, hj2⟩ := ok.ends row hr e he
  refine nice_tup (b := 0) (k := 0) (fun x hx' => ?_) (by simp only [List.length_cons, List.length_nil]; decide)
  simp only [List.mem_cons, List.not_mem_nil, or_false] at hx'
  rcases hx' with rfl | rfl
  · refine nice_int ?_
    rcases hb with h | h <;> rw [h] <;> decide
  · refine nice_int ?_
    rw [hj]
    omega
/-- what is told, as data -/
def ResD (m : Nat) (mac : List MRow) (one other : Nat) (d : PyData) : Prop := (d = .none ∧ ∀ w : Wd, (∀ c ∈ w, c ∈ allB m) → outM mac one w = outM mac other w) ∨ ∃ way, d = encW way ∧ PartsF m mac one other way
def Shw (d : PyData) : Prop := d.hasDict = false ∧ d.showable = true ∧ d.depth ≤ 40 ∧ d.shown.length ≤ sizeLine
theorem partsF_df {m : Nat} {mac : List MRow} {one other : Nat} {v : Wd} (h : PartsF m mac one other v) : (∀ c ∈ v, c ∈ allB m) ∧ outM mac one v ≠ outM mac other v := by
  obtain ⟨⟨cols, b, e, a, o, n⟩, _⟩ := h
  refine ⟨a, fun z => ?_⟩
  rw [e, outM_snoc, outM_snoc, o] at z
  have := List.append_cancel_left z
  injection this with this
  exact n this
theorem ResD.uniq {m : Nat} {mac : List MRow} {one other : Nat} {d d' : PyData} (m1 : 1 ≤ m) (m3 : m ≤ 3) (h : ResD m mac one other d) (h' : ResD m mac one other d') : d = d' := by
  rcases h with ⟨rfl, a⟩ | ⟨v, rfl, pv⟩ <;> rcases h' with ⟨rfl, b⟩ | ⟨w, rfl, pw⟩
  · rfl
  · obtain ⟨c, n⟩ := partsF_df pw
    exact absurd (a w c) n
  · obtain ⟨c, n⟩ := partsF_df pv
    exact absurd (b v c) n
  · rw [first_one m1 m3 pv pw]
theorem shw_none : Shw .none := ⟨by simp only [PyData.hasDict], by simp only [PyData.showable], by simp only [PyData.depth]; decide, by rw [sizeLine_eq]; decide +kernel⟩
theorem fn_imp {CX : CXT} {k : Nat} {f : Addr} {fd : FuncData} {ps : List Str} {sp sp2 : Sp} (a : FnOk P w K mg base CX k f fd ps sp) (i : ∀ vs H Q E, sp2 vs H Q E → sp vs H Q E) : FnOk P w K mg base CX k f fd ps sp2 :=
  ⟨fun vs H Q E h => a.len vs H Q E (i _ _ _ _ h), fun A outer s H args us vs Q E hr e0 hb r h => a.run A outer s H args us vs Q E hr e0 hb r (i _ _ _ _ h)⟩
def spLp2 (K : PySem.W.Frag) : Sp := fun vs H Q _ => ∃ (p : Addr) (m one other : Nat) (ls : List Addr) (mac : List MRow), vs = [.ref p, .int (m : Int), .int (one : Int), .int (other : Int)] ∧ H p = some (.lst (ls.map V.ref)) ∧ MacL H ls mac ∧ 1 ≤ m ∧ MxOk m mac ∧ mac.length ≤ 9 ∧ one < mac.length ∧ other < mac.length ∧
  ∀ H' x d, Same H H' → Dp K H' x d → ResD m mac one other d → Shw d → Q x H'
theorem lp_2 {k : Nat} {f : Addr} {fd : FuncData} (a : FnOk P w K mg base CX0 k f fd ["machine", "many", "one", "other"] spLpt) : FnOk P w K mg base CX0 k f fd ["machine", "many", "one", "other"] (spLp2 K) := fn_imp a fun vs H Q E h => by
  obtain ⟨p, m, one, other, ls, mac, rfl, ep, hm, m1, ok, n9, h1, h2, q⟩ := h
  refine ⟨p, m, one, other, ls, mac, rfl, ep, hm, m1, ok, n9, h1, h2, fun H' s no => q H' _ _ s .non (.inl ⟨rfl, no⟩) shw_none, fun H' l way s e pf hl => ?_⟩
  obtain ⟨fs, e1, e2⟩ := e
  have nice := nice_word ok.m3 (partsF_df pf).1 hl
  exact q H' _ _ s (.lst (.inl (.inl e1)) (dpall_bits e2)) (.inr ⟨way, rfl, pf⟩) ⟨nd_word way, nice.sh, Nat.le_trans nice.dp (by decide), nice.fits (by decide)⟩
def spPf2 (K : PySem.W.Frag) : Sp := fun vs H Q _ => ∃ (p : Addr) (m one other : Nat) (ls : List Addr) (mac : List MRow), vs = [.ref p, .int (one : Int), .int (other : Int)] ∧ H p = some (.lst (ls.map V.ref)) ∧ MacL H ls mac ∧ 1 ≤ m ∧ MxOk m mac ∧ one < mac.length ∧ other < mac.length ∧
  ∀ H' x d, Same H H' → Dp K H' x d → ResD m mac one other d → (x = .non ∨ ∃ L vs, x = .ref L ∧ H L = none ∧ H' L = some (.lst vs) ∧ vs.length ≤ 65537) → Q x H'
theorem pf_2 {k : Nat} {f : Addr} {fd : FuncData} (a : FnOk P w K mg base CX0 k f fd ["machine", "one", "other"] spPf) : FnOk P w K mg base CX0 k f fd ["machine", "one", "other"] (spPf2 K) := fn_imp a fun vs H Q E h => by
  obtain ⟨p, m, one, other, ls, mac, rfl, ep, hm, m1, ok, h1, h2, q⟩ := h
  refine ⟨p, m, one, other, ls, mac, rfl, ep, hm, m1, ok, h1, h2, fun H' s no => ?_, fun H' L bl way s nL e hbl pf hl => ?_⟩
  · obtain ⟨R, al, e⟩ := no
    exact q H' _ _ s .non (.inl ⟨rfl, fun w hw => alk_out ok al w _ _ hw e⟩) (.inl rfl)
  · exact q H' _ _ s (.lst (.inl (.inl e)) (dpall_bits hbl)) (.inr ⟨way, rfl, pf⟩) (.inr ⟨L, _, rfl, nL, e, by rw [List.length_map, awLen hbl]; exact hl⟩)
set_option maxHeartbeats 4000000 in
theorem law_run {fa fTa fDi fDr fCr fLp fPt : Addr} {fd fdTa fdDi fdDr fdCr fdLp fdPt : FuncData} {s : Shared} {a : Addr} {ns : List Int} {H : Hp} (F : Fun K "law" "law" s_law fa fd) (bL : Binds K fd ["script"] [])
    (GT : FnOk P w K mg base CX0 1 fTa fdTa ["script", "start"] (spTape K)) (kT : PySem.W.keepIn K (.ref fTa) = true) (bT : Binds K fdTa ["script", "start"] []) (gT : mg "_law_tape" = some (.ref fTa))
    (GD : FnOk P w K mg base CX0 1 fDi fdDi ["tape", "many"] spDigit) (kD : PySem.W.keepIn K (.ref fDi) = true) (bD : Binds K fdDi ["tape", "many"] []) (gD : mg "_law_digit" = some (.ref fDi))
    (GDr : FnOk P w K mg base CX0 2 fDr fdDr ["tape", "many"] spDr) (kDr : PySem.W.keepIn K (.ref fDr) = true) (bDr : Binds K fdDr ["tape", "many"] []) (gDr : mg "_law_drawn" = some (.ref fDr))
    (GC : FnG P w K mg base 4 fCr fdCr ["tape", "many"] spCr44) (kC' : PySem.W.keepIn K (.ref fCr) = true) (bC : Binds K fdCr ["tape", "many"] []) (gC : mg "_law_chain_right" = some (.ref fCr))
    (GL : FnOk P w K mg base CX0 2 fLp fdLp ["machine", "many", "one", "other"] (spLp2 K)) (kL : PySem.W.keepIn K (.ref fLp) = true) (bLp : Binds K fdLp ["machine", "many", "one", "other"] []) (gL : mg "_law_parted" = some (.ref fLp))
    (GP : FnOk P w K mg base CX0 3 fPt fdPt ["machine", "one", "other"] (spPf2 K)) (kP : PySem.W.keepIn K (.ref fPt) = true) (bP : Binds K fdPt ["machine", "one", "other"] []) (gP : mg "parting" = some (.ref fPt))
    (mr : mg "range" = none) (mn : mg "len" = none) (mx : mg "max" = none) (mi : mg "min" = none) (mp : mg "repr" = none) (hlen : ns.length ≤ 63) (hbits : ∀ z ∈ ns, Builtin.Int.intBits z ≤ 1048576) (e0 : Env0 P w K mg base callerA [] s H) (hS : SqL K H a (ns.map V.int)) :
    codeAny (model P w) callerA (.call (.ref fa) ⟨[.ref a], []⟩) (CR CX0 [] P w H s (fun v _ => v = .bl true) E0) s := by
  refine fn_at (k := 6) (us := [.ref a]) (vs := [.ref a]) F sc_law ⟨rfl, by decide, by decide⟩ e0 ?_ (.cons rfl .nil) rfl (fun cdv => ?_)
  · have := bL s [.ref a] (e0.mod.kin.keeps fun b o e => (e0.bs b o e).1) rfl
    simpa using this
  have hr : Room 6 (callerA.deeper (envOfC "law" (defScope s_law) s.heap.objs.size fa cdv)) := Room.deeper (k := 6) ⟨rfl, by decide, by decide⟩ _
  have hg : (callerA.deeper (envOfC "law" (defScope s_law) s.heap.objs.size fa cdv)).guards = some [] := rfl
  have R1 := hr.mono (show 1 ≤ 6 by decide)
  have R2 := hr.mono (show 2 ≤ 6 by decide)
  have R3 := hr.mono (show 3 ≤ 6 by decide)
  have R4 := hr.mono (show 4 ≤ 6 by decide)
  have nd := sc_law.nd
  refine ⟨_, pss_cons (ps_for PassesOwn.never rfl (pi_range1 (by rfl) mr (pa_cons (pe_callB (call_max2 rfl) (by rfl) mx (by decide +kernel) (pa_cons pe_int (pa_cons (pe_callB (call_min2 rfl) (by rfl) mi (by decide +kernel) (pa_cons pe_int (pa_cons (pe_callB call_len_seq (by rfl) mn PySem.boot_len (pa_cons (pv 0) pa_nil)) pa_nil))) pa_nil))) pa_nil)) (pg_name (i := 1) nd rfl (.inl rfl))
      (pss_cons (ps_set (i := 2) nd rfl (.inl rfl) (pe_call GT R1 (by rfl) gT kT bT .nil pass0 (pa_cons (pv 0) (pa_cons (pv 1) pa_nil))))
      (pss_cons (ps_set (i := 3) nd rfl (.inl rfl) (pe_op op_add pe_int (pe_call GD R1 (by rfl) gD kD bD .nil pass0 (pa_cons (pv 2) (pa_cons pe_int pa_nil)))))
      (pss_cons (ps_set (i := 4) nd rfl (.inl rfl) (pe_call GDr R2 (by rfl) gDr kDr bDr .nil pass0 (pa_cons (pv 2) (pa_cons (pv 3) pa_nil))))
      (pss_cons (ps_set (i := 5) nd rfl (.inl rfl) (pe_callB (call_repr hg hr.units) (by rfl) mp (by decide +kernel) (pa_cons (pv 4) pa_nil)))
      (pss_mid (ps_if (PW.pt (pw_and (pt_cmpR op_eq (pe_call GD R1 (by rfl) gD kD bD .nil pass0 (pa_cons (pv 2) (pa_cons pe_int pa_nil))) pe_int (nomark _)) (pw_and1 (pt_not (pt_val (pe_callG GC R4 hg (by rfl) gC kC' bC (pa_cons (pv 2) (pa_cons (pv 3) pa_nil)))))))) (pss_one (ps_ret pe_bl)) pss_nil)
      (pss_one (ps_for PassesOwn.never rfl (pi_range1 (by rfl) mr (pa_cons pe_int pa_nil)) (pg_name (i := 6) nd rfl (.inl rfl))
        (pss_cons (ps_par (i := 7) (j := 8) rfl nd rfl rfl (by decide) rfl rfl (pa_cons (pe_call GD R1 (by rfl) gD kD bD .nil pass0 (pa_cons (pv 2) (pa_cons (pe_callB call_len_seq (by rfl) mn PySem.boot_len (pa_cons (pv 4) pa_nil)) pa_nil))) (pa_cons (pe_call GD R1 (by rfl) gD kD bD .nil pass0 (pa_cons (pv 2) (pa_cons (pe_callB call_len_seq (by rfl) mn PySem.boot_len (pa_cons (pv 4) pa_nil)) pa_nil))) pa_nil)) (by rfl))
        (pss_cons (ps_set (i := 9) nd rfl (.inl rfl) (pe_callB (call_repr hg hr.units) (by rfl) mp (by decide +kernel) (pa_cons (pe_call GL R2 (by rfl) gL kL bLp .nil pass0 (pa_cons (pv 4) (pa_cons (pv 3) (pa_cons (pv 7) (pa_cons (pv 8) pa_nil))))) pa_nil)))
        (pss_one (ps_for PassesOwn.never rfl (pi_range1 (by rfl) mr (pa_cons pe_int pa_nil)) (pg_name (i := 10) nd rfl (.inl rfl))
          (pss_cons (ps_set (i := 11) nd rfl (.inl rfl) (pe_call GP R3 (by rfl) gP kP bP .nil pass0 (pa_cons (pv 4) (pa_cons (pv 7) (pa_cons (pv 8) pa_nil)))))
          (pss_cons (ps_if (PW.pt (pw_or (pt_cmpR op_ne (pe_callB (call_repr hg hr.units) (by rfl) mp (by decide +kernel) (pa_cons (pv 11) pa_nil)) (pv 9) (nomark _))
            (pw_or1 (pt_cmpR op_ne (pe_callB (call_repr hg hr.units) (by rfl) mp (by decide +kernel) (pa_cons (pv 4) pa_nil)) (pv 5) (nomark _))))) (pss_one (ps_ret pe_bl)) pss_nil)
          (pss_one (ps_if (pt_cmp (pc_notN (pv 11))) (pss_one (ps_expr (pe_bm PySem.F.plainAttrs_list PySem.F.slot_list_append PySem.F.type_list_append mt_append (pv 11) (pa_cons pe_int pa_nil)))) pss_nil))))))))))))))))
    (pss_one (ps_ret pe_bl)), ?_⟩
  refine ⟨.ref a, rfl, a, _, rfl, .inl hS, 5, _, rfl, 1, _, rfl, ?_⟩
  obtain ⟨N, hN⟩ : ∃ N : Int, N = if (if ((ns.map V.int).length : Int) < 5 then ((ns.map V.int).length : Int) else 5) > 1 then (if ((ns.map V.int).length : Int) < 5 then ((ns.map V.int).length : Int) else 5) else 1 := ⟨_, rfl⟩
  have hN1 : 0 ≤ N ∧ N ≤ 5 := by
    rw [hN]
    split <;> split <;> omega
  rw [← hN]
  refine ⟨N, rfl, by omega, by omega, for_range (lo := 0) (n := N.toNat) (fun i σ H3 => (∃ y1 y2 y3 y4 y5 y6 y7 y8 y9 y10 y11, σ = [some (.ref a), y1, y2, y3, y4, y5, y6, y7, y8, y9, y10, y11]) ∧ Same H H3) ⟨⟨none, none, none, none, none, none, none, none, none, none, none, rfl⟩, Same.refl H⟩ (fun i σ H3 hi hp => ?_) (fun σ H3 hp => rfl)⟩
  obtain ⟨⟨y1, y2, y3, y4, y5, y6, y7, y8, y9, y10, y11, rfl⟩, s3⟩ := hp
  refine ⟨.ref a, rfl, .int (0 + i), rfl, a, ns, 0 + i, rfl, s3.seq hS, by omega, by omega, fun H4 tp s4 htp t4 => ?_⟩
  have nold : ∀ b o, H b = some o → b ≠ tp := fun b o e => ne_of_none (s3 _ _ e) htp
  refine ⟨.ref tp, rfl, tp, 3, rfl, by decide, by decide, t4, fun H5 mz m0 m1 t5 b5 => ⟨1, mz, rfl, rfl, ?_⟩⟩
  obtain ⟨m, hm⟩ : ∃ m : Nat, 1 + mz = (m : Int) := ⟨(1 + mz).toNat, by omega⟩
  change gName 3 (V.int (1 + mz)) _ _ _
  rw [hm]
  have m13 : 1 ≤ m ∧ m ≤ 3 := by omega
  refine ⟨.ref tp, rfl, .int m, rfl, tp, m, rfl, m13.1, m13.2, t5, fun H6 p ls mac b6 t6 np ep hmac nls dr => ?_⟩
  have npt : p ≠ tp := fun z => by
    obtain ⟨x, y, e⟩ := t5
    rw [z, e] at np
    cases np
  have nlt : ∀ l ∈ ls, l ≠ tp := fun l hl z => by
    obtain ⟨x, y, e⟩ := t5
    have := nls l hl
    rw [z, e] at this
    cases this
  have nice := nice_mac dr m13.2
  have mxk : MxOk m mac := ⟨m13.2, dr.pos, Nat.le_trans dr.few (by decide), dr.rows, fun row hr e he => (dr.ends row hr e he).2⟩
  have few := dr.few
  have pos := dr.pos
  refine ⟨.ref p, rfl, .ref p, mcD mac, rfl, .inr ⟨.lst (.inl (.inl ep)) (dp_rows hmac), nd_mac mac⟩, nice.sh, Nat.le_trans nice.dp (by decide), nice.fits (by decide), ?_⟩
  refine ⟨fun σ' H' => σ' = [some (.ref a), some (.int (0 + i)), some (.ref tp), some (.int (m : Int)), some (.ref p), some (.str (mcD mac).shown), y6, y7, y8, y9, y10, y11] ∧ TP H' tp ∧ But tp H6 H', ?_, ?_⟩
  · refine ⟨.ref tp, rfl, tp, 3, rfl, by decide, by decide, t6, fun H7 z z0 z1 t7 b7 => ⟨rfl, _, rfl, ite2 (fun e => ?_) (fun e => iteF ⟨rfl, t7, b7⟩)⟩⟩
    exact ⟨.ref tp, rfl, .int m, rfl, tp, m, rfl, m13.1, m13.2, t7, fun H8 b8 t8 => ⟨true, rfl, iteF ⟨rfl, t8, b7.trans b8⟩⟩⟩
  · rintro σ7 H7 ⟨rfl, t7, b7⟩
    refine ⟨4, rfl, by decide, by decide, for_range (lo := 0) (n := 4) (fun j σ H8 => (∃ y6 y7 y8 y9 y10 y11, σ = [some (.ref a), some (.int (0 + i)), some (.ref tp), some (.int (m : Int)), some (.ref p), some (.str (mcD mac).shown), y6, y7, y8, y9, y10, y11]) ∧ TP H8 tp ∧ But tp H6 H8)
      ⟨⟨y6, y7, y8, y9, y10, y11, rfl⟩, t7, b7⟩ (fun j σ H8 hj hp => ?_) (fun σ H8 hp => ?_)⟩
    · obtain ⟨⟨y6, y7, y8, y9, y10, y11, rfl⟩, t8, b8⟩ := hp
      have mac_at : ∀ {H' : Hp}, But tp H6 H' → MacL H' ls mac := fun {H'} b => macl_stay (b.tape t6) (fun l hl xs e => b _ _ (nlt l hl) e) hmac
      have ll := awLen hmac
      refine ⟨.ref tp, rfl, .ref p, rfl, p, _, rfl, .inl (.inl (.inl (b8 _ _ npt ep))), tp, _, rfl, by rw [List.length_map]; omega, by rw [List.length_map]; omega, t8, fun H9 z z0 z1 t9 b9 => ?_⟩
      have b69 := b8.trans b9
      refine ⟨.ref tp, rfl, .ref p, rfl, p, _, rfl, .inl (.inl (.inl (b69 _ _ npt ep))), tp, _, rfl, by rw [List.length_map]; omega, by rw [List.length_map]; omega, t9, fun H10 z' z0' z1' t10 b10 => ⟨_, _, rfl, ?_⟩⟩
      have b610 := b69.trans b10
      rw [List.length_map] at z1 z1'
      obtain ⟨one, rfl⟩ : ∃ one : Nat, z = (one : Int) := ⟨z.toNat, by omega⟩
      obtain ⟨other, rfl⟩ : ∃ other : Nat, z' = (other : Int) := ⟨z'.toNat, by omega⟩
      have h1 : one < mac.length := by omega
      have h2 : other < mac.length := by omega
      refine ⟨.ref p, rfl, .int (m : Int), rfl, .int (one : Int), rfl, .int (other : Int), rfl, p, m, one, other, ls, mac, rfl, b610 _ _ npt ep, mac_at b610, m13.1, mxk, few, h1, h2, fun H11 x d s11 dx rd sw => ?_⟩
      refine ⟨x, d, rfl, .inr ⟨dx, sw.1⟩, sw.2.1, sw.2.2.1, sw.2.2.2, ?_⟩
      refine ⟨2, rfl, by decide, by decide, for_range (lo := 0) (n := 2) (fun r σ H12 => (∃ y10 y11, σ = [some (.ref a), some (.int (0 + i)), some (.ref tp), some (.int (m : Int)), some (.ref p), some (.str (mcD mac).shown), some (.int (0 + j)), some (.int (one : Int)), some (.int (other : Int)), some (.str d.shown), y10, y11]) ∧ TP H12 tp ∧ But tp H6 H12)
        ⟨⟨y10, y11, rfl⟩, t10.same s11, b610.trans (But.same s11)⟩ (fun r σ H12 hr' hp => ?_) (fun σ H12 hp => ?_)⟩
      · obtain ⟨⟨y10, y11, rfl⟩, t12, b12⟩ := hp
        have ep12 := b12 _ _ npt ep
        have hm12 := mac_at b12
        refine ⟨.ref p, rfl, .int (one : Int), rfl, .int (other : Int), rfl, p, m, one, other, ls, mac, rfl, ep12, hm12, m13.1, mxk, h1, h2, fun H13 x' d' s13 dx' rd' ox => ?_⟩
        obtain rfl := rd'.uniq m13.1 m13.2 rd
        refine ⟨x', rfl, x', d', rfl, .inr ⟨dx', sw.1⟩, sw.2.1, sw.2.2.1, sw.2.2.2, .str _, rfl, rfl, _, rfl, iteNS rfl ?_⟩
        refine ⟨.ref p, rfl, .ref p, mcD mac, rfl, .inr ⟨.lst (.inl (.inl (s13 _ _ ep12))) (dp_rows (macl_same s13 hm12)), nd_mac mac⟩, nice.sh, Nat.le_trans nice.dp (by decide), nice.fits (by decide), .str _, rfl, rfl, _, rfl, iteNS rfl ?_⟩
        refine ⟨x', rfl, _, rfl, ite2 (fun e => ?_) (fun e => ?_)⟩
        · rcases ox with rfl | ⟨L, vs, rfl, nL, eL, hl⟩
          · cases e
          · refine ⟨.ref L, rfl, .inl ⟨rfl, _, .inl (.inl eL)⟩, L, _, .int 7, rfl, rfl, eL, by rw [sizeLine_eq]; omega, ⟨_, _, rfl⟩, (t12.same s13).upd (t12.ne_new nL), fun b u n e => ?_⟩
            rw [upd_ne (ne_of_none (b12 b u n e) nL)]
            exact s13 _ _ (b12 b u n e)
        · exact ⟨⟨_, _, rfl⟩, t12.same s13, b12.trans (But.same s13)⟩
      · obtain ⟨⟨y10, y11, rfl⟩, t12, b12⟩ := hp
        exact ⟨⟨_, _, _, _, _, _, rfl⟩, t12, b12⟩
    · obtain ⟨⟨y6, y7, y8, y9, y10, y11, rfl⟩, t8, b8⟩ := hp
      exact ⟨⟨_, _, _, _, _, _, _, _, _, _, _, rfl⟩, fun b o e => b8 _ _ (nold b o e) (b6 _ _ (nold b o e) (b5 _ _ (nold b o e) (s4 _ _ (s3 _ _ e))))⟩
theorem awL1 {α : Type} : ∀ {l : List α}, l.length = 1 → ∃ a0, l = [a0]
  | [a0], _ => ⟨a0, rfl⟩
theorem awL2 {α : Type} : ∀ {l : List α}, l.length = 2 → ∃ a0 a1, l = [a0, a1]
  | [a0, a1], _ => ⟨a0, a1, rfl⟩
theorem awL3 {α : Type} : ∀ {l : List α}, l.length = 3 → ∃ a0 a1 a2, l = [a0, a1, a2]
  | [a0, a1, a2], _ => ⟨a0, a1, a2, rfl⟩
theorem awL4 {α : Type} : ∀ {l : List α}, l.length = 4 → ∃ a0 a1 a2 a3, l = [a0, a1, a2, a3]
  | [a0, a1, a2, a3], _ => ⟨a0, a1, a2, a3, rfl⟩
set_option maxHeartbeats 4000000 in
theorem all_mk {l : PySem.W.OpenLaw} {w : World} {K : PySem.W.Frag} {h : Heap} {mg : Str → Option Value} {fa : Addr} (X : K.In h) (G : h.Ns mainGlobals mg) (hfa : mg "law" = some (.ref fa))
    {f0 : Addr} {od0 an0 : Option Addr} {sl0 : Array (Option Value)} {oc0 kV0 dc0 pm0 cd0 ct0 : Value}
    {f1 : Addr} {od1 an1 : Option Addr} {sl1 : Array (Option Value)} {oc1 kV1 dc1 pm1 cd1 ct1 : Value}
    {f2 : Addr} {od2 an2 : Option Addr} {sl2 : Array (Option Value)} {oc2 kV2 dc2 pm2 cd2 ct2 : Value}
    {f3 : Addr} {od3 an3 : Option Addr} {sl3 : Array (Option Value)} {oc3 kV3 dc3 pm3 cd3 ct3 : Value}
    {f4 : Addr} {od4 an4 : Option Addr} {sl4 : Array (Option Value)} {oc4 kV4 dc4 pm4 cd4 ct4 : Value}
    {f5 : Addr} {od5 an5 : Option Addr} {sl5 : Array (Option Value)} {oc5 kV5 dc5 pm5 cd5 ct5 : Value}
    {f6 : Addr} {od6 an6 : Option Addr} {sl6 : Array (Option Value)} {oc6 kV6 dc6 pm6 cd6 ct6 : Value}
    {f7 : Addr} {od7 an7 : Option Addr} {sl7 : Array (Option Value)} {oc7 kV7 dc7 pm7 cd7 ct7 : Value}
    {f8 : Addr} {od8 an8 : Option Addr} {sl8 : Array (Option Value)} {oc8 kV8 dc8 pm8 cd8 ct8 : Value}
    {f9 : Addr} {od9 an9 : Option Addr} {sl9 : Array (Option Value)} {oc9 kV9 dc9 pm9 cd9 ct9 : Value}
    {f10 : Addr} {od10 an10 : Option Addr} {sl10 : Array (Option Value)} {oc10 kV10 dc10 pm10 cd10 ct10 : Value}
    {f11 : Addr} {od11 an11 : Option Addr} {sl11 : Array (Option Value)} {oc11 kV11 dc11 pm11 cd11 ct11 : Value}
    {CWalk : Addr}
    {fWalk___init__ : Addr} {odWalk___init__ anWalk___init__ : Option Addr} {slWalk___init__ : Array (Option Value)} {ocWalk___init__ kVWalk___init__ dcWalk___init__ pmWalk___init__ cdWalk___init__ ctWalk___init__ : Value}
    {fWalk_meet : Addr} {odWalk_meet anWalk_meet : Option Addr} {slWalk_meet : Array (Option Value)} {ocWalk_meet kVWalk_meet dcWalk_meet pmWalk_meet cdWalk_meet ctWalk_meet : Value}
    {fWalk_bits_to : Addr} {odWalk_bits_to anWalk_bits_to : Option Addr} {slWalk_bits_to : Array (Option Value)} {ocWalk_bits_to kVWalk_bits_to dcWalk_bits_to pmWalk_bits_to cdWalk_bits_to ctWalk_bits_to : Value}
    (a0 : PySem.W.nsIn K mainGlobals "all_bits" = some (some (.ref f0)))
    (l0 : K.lookup f0 = some ⟨oc0, od0, .func (PySem.W.fnOf "all_bits" "all_bits" (defArgs s_all_bits) (defBody s_all_bits) (defScope s_all_bits) .none kV0 dc0 pm0 an0 cd0 ct0), sl0⟩)
    (c0 : PySem.W.codeIn K cd0 "all_bits" = true) (k0 : PySem.W.keepIn K (.ref f0) = true)
    (a1 : PySem.W.nsIn K mainGlobals "both_steps" = some (some (.ref f1)))
    (l1 : K.lookup f1 = some ⟨oc1, od1, .func (PySem.W.fnOf "both_steps" "both_steps" (defArgs s_both_steps) (defBody s_both_steps) (defScope s_both_steps) .none kV1 dc1 pm1 an1 cd1 ct1), sl1⟩)
    (c1 : PySem.W.codeIn K cd1 "both_steps" = true) (k1 : PySem.W.keepIn K (.ref f1) = true)
    (a2 : PySem.W.nsIn K mainGlobals "leader_of" = some (some (.ref f2)))
    (l2 : K.lookup f2 = some ⟨oc2, od2, .func (PySem.W.fnOf "leader_of" "leader_of" (defArgs s_leader_of) (defBody s_leader_of) (defScope s_leader_of) .none kV2 dc2 pm2 an2 cd2 ct2), sl2⟩)
    (c2 : PySem.W.codeIn K cd2 "leader_of" = true) (k2 : PySem.W.keepIn K (.ref f2) = true)
    (a3 : PySem.W.nsIn K mainGlobals "join_states" = some (some (.ref f3)))
    (l3 : K.lookup f3 = some ⟨oc3, od3, .func (PySem.W.fnOf "join_states" "join_states" (defArgs s_join_states) (defBody s_join_states) (defScope s_join_states) .none kV3 dc3 pm3 an3 cd3 ct3), sl3⟩)
    (c3 : PySem.W.codeIn K cd3 "join_states" = true) (k3 : PySem.W.keepIn K (.ref f3) = true)
    (a4 : PySem.W.nsIn K mainGlobals "parting" = some (some (.ref f4)))
    (l4 : K.lookup f4 = some ⟨oc4, od4, .func (PySem.W.fnOf "parting" "parting" (defArgs s_parting) (defBody s_parting) (defScope s_parting) .none kV4 dc4 pm4 an4 cd4 ct4), sl4⟩)
    (c4 : PySem.W.codeIn K cd4 "parting" = true) (k4 : PySem.W.keepIn K (.ref f4) = true)
    (a5 : PySem.W.nsIn K mainGlobals "_law_tape" = some (some (.ref f5)))
    (l5 : K.lookup f5 = some ⟨oc5, od5, .func (PySem.W.fnOf "_law_tape" "_law_tape" (defArgs s_law_tape) (defBody s_law_tape) (defScope s_law_tape) .none kV5 dc5 pm5 an5 cd5 ct5), sl5⟩)
    (c5 : PySem.W.codeIn K cd5 "_law_tape" = true) (k5 : PySem.W.keepIn K (.ref f5) = true)
    (a6 : PySem.W.nsIn K mainGlobals "_law_digit" = some (some (.ref f6)))
    (l6 : K.lookup f6 = some ⟨oc6, od6, .func (PySem.W.fnOf "_law_digit" "_law_digit" (defArgs s_law_digit) (defBody s_law_digit) (defScope s_law_digit) .none kV6 dc6 pm6 an6 cd6 ct6), sl6⟩)
    (c6 : PySem.W.codeIn K cd6 "_law_digit" = true) (k6 : PySem.W.keepIn K (.ref f6) = true)
    (a7 : PySem.W.nsIn K mainGlobals "_law_drawn" = some (some (.ref f7)))
    (l7 : K.lookup f7 = some ⟨oc7, od7, .func (PySem.W.fnOf "_law_drawn" "_law_drawn" (defArgs s_law_drawn) (defBody s_law_drawn) (defScope s_law_drawn) .none kV7 dc7 pm7 an7 cd7 ct7), sl7⟩)
    (c7 : PySem.W.codeIn K cd7 "_law_drawn" = true) (k7 : PySem.W.keepIn K (.ref f7) = true)
    (a8 : PySem.W.nsIn K mainGlobals "_law_all_bits" = some (some (.ref f8)))
    (l8 : K.lookup f8 = some ⟨oc8, od8, .func (PySem.W.fnOf "_law_all_bits" "_law_all_bits" (defArgs s_law_all_bits) (defBody s_law_all_bits) (defScope s_law_all_bits) .none kV8 dc8 pm8 an8 cd8 ct8), sl8⟩)
    (c8 : PySem.W.codeIn K cd8 "_law_all_bits" = true) (k8 : PySem.W.keepIn K (.ref f8) = true)
    (a9 : PySem.W.nsIn K mainGlobals "_law_parted" = some (some (.ref f9)))
    (l9 : K.lookup f9 = some ⟨oc9, od9, .func (PySem.W.fnOf "_law_parted" "_law_parted" (defArgs s_law_parted) (defBody s_law_parted) (defScope s_law_parted) .none kV9 dc9 pm9 an9 cd9 ct9), sl9⟩)
    (c9 : PySem.W.codeIn K cd9 "_law_parted" = true) (k9 : PySem.W.keepIn K (.ref f9) = true)
    (a10 : PySem.W.nsIn K mainGlobals "_law_chain_right" = some (some (.ref f10)))
    (l10 : K.lookup f10 = some ⟨oc10, od10, .func (PySem.W.fnOf "_law_chain_right" "_law_chain_right" (defArgs s_law_chain_right) (defBody s_law_chain_right) (defScope s_law_chain_right) .none kV10 dc10 pm10 an10 cd10 ct10), sl10⟩)
    (c10 : PySem.W.codeIn K cd10 "_law_chain_right" = true) (k10 : PySem.W.keepIn K (.ref f10) = true)
    (a11 : PySem.W.nsIn K mainGlobals "law" = some (some (.ref f11)))
    (l11 : K.lookup f11 = some ⟨oc11, od11, .func (PySem.W.fnOf "law" "law" (defArgs s_law) (defBody s_law) (defScope s_law) .none kV11 dc11 pm11 an11 cd11 ct11), sl11⟩)
    (c11 : PySem.W.codeIn K cd11 "law" = true) (k11 : PySem.W.keepIn K (.ref f11) = true)
    (oa_Walk : PySem.W.nsIn K mainGlobals "Walk" = some (some (.ref CWalk)))
    (ma_Walk___init__ : PySem.W.findIn K (.ref CWalk) "__init__" = some (some (.ref fWalk___init__)))
    (mi_Walk___init__ : PySem.W.isFn K (.ref fWalk___init__) = true)
    (ml_Walk___init__ : K.lookup fWalk___init__ = some ⟨ocWalk___init__, odWalk___init__, .func (PySem.W.fnOf "__init__" "Walk.__init__" (defArgs sWalk___init__) (defBody sWalk___init__) (defScope sWalk___init__) .none kVWalk___init__ dcWalk___init__ pmWalk___init__ anWalk___init__ cdWalk___init__ ctWalk___init__), slWalk___init__⟩)
    (mc_Walk___init__ : PySem.W.codeIn K cdWalk___init__ "Walk.__init__" = true)
    (mk_Walk___init__ : PySem.W.keepIn K (.ref fWalk___init__) = true)
    (ma_Walk_meet : PySem.W.findIn K (.ref CWalk) "meet" = some (some (.ref fWalk_meet)))
    (mi_Walk_meet : PySem.W.isFn K (.ref fWalk_meet) = true)
    (ml_Walk_meet : K.lookup fWalk_meet = some ⟨ocWalk_meet, odWalk_meet, .func (PySem.W.fnOf "meet" "Walk.meet" (defArgs sWalk_meet) (defBody sWalk_meet) (defScope sWalk_meet) .none kVWalk_meet dcWalk_meet pmWalk_meet anWalk_meet cdWalk_meet ctWalk_meet), slWalk_meet⟩)
    (mc_Walk_meet : PySem.W.codeIn K cdWalk_meet "Walk.meet" = true)
    (mk_Walk_meet : PySem.W.keepIn K (.ref fWalk_meet) = true)
    (ma_Walk_bits_to : PySem.W.findIn K (.ref CWalk) "bits_to" = some (some (.ref fWalk_bits_to)))
    (mi_Walk_bits_to : PySem.W.isFn K (.ref fWalk_bits_to) = true)
    (ml_Walk_bits_to : K.lookup fWalk_bits_to = some ⟨ocWalk_bits_to, odWalk_bits_to, .func (PySem.W.fnOf "bits_to" "Walk.bits_to" (defArgs sWalk_bits_to) (defBody sWalk_bits_to) (defScope sWalk_bits_to) .none kVWalk_bits_to dcWalk_bits_to pmWalk_bits_to anWalk_bits_to cdWalk_bits_to ctWalk_bits_to), slWalk_bits_to⟩)
    (mc_Walk_bits_to : PySem.W.codeIn K cdWalk_bits_to "Walk.bits_to" = true)
    (mk_Walk_bits_to : PySem.W.keepIn K (.ref fWalk_bits_to) = true)
    (pg_Walk : PySem.W.plainGet K CWalk Str.empty = true)
    (hd_Walk : PySem.W.hasDictIn K CWalk = true)
    (po_Walk : PySem.W.plainOver K CWalk = true)
    (sa_Walk : PySem.W.findIn K (.ref CWalk) "__setattr__" = some (some (.builtin "object.__setattr__")))
    (mk_Walk : PySem.W.makesIn K CWalk = true)
    (kc_Walk : PySem.W.keepIn K (.ref CWalk) = true)
    (na_Walk_met : PySem.W.findIn K (.ref CWalk) "met" = some none)
    (na_Walk_numbers : PySem.W.findIn K (.ref CWalk) "numbers" = some none)
    (na_Walk_ways : PySem.W.findIn K (.ref CWalk) "ways" = some none)
    (z_abs : PySem.W.nsIn K mainGlobals "abs" = some none)
    (z_enumerate : PySem.W.nsIn K mainGlobals "enumerate" = some none)
    (z_int : PySem.W.nsIn K mainGlobals "int" = some none)
    (z_len : PySem.W.nsIn K mainGlobals "len" = some none)
    (z_list : PySem.W.nsIn K mainGlobals "list" = some none)
    (z_max : PySem.W.nsIn K mainGlobals "max" = some none)
    (z_min : PySem.W.nsIn K mainGlobals "min" = some none)
    (z_range : PySem.W.nsIn K mainGlobals "range" = some none)
    (z_repr : PySem.W.nsIn K mainGlobals "repr" = some none)
    (z_sorted : PySem.W.nsIn K mainGlobals "sorted" = some none)
    (z_zip : PySem.W.nsIn K mainGlobals "zip" = some none)
    : ∀ (s : Shared) (a : Addr) (ns : List Int) (base : Heap) (H : Hp), ns.length ≤ 63 → (∀ z ∈ ns, Builtin.Int.intBits z ≤ 1048576) → Env0 l.prog w K mg base callerA [] s H → SqL K H a (ns.map V.int) →
      codeAny (model l.prog w) callerA (.call (.ref fa) ⟨[.ref a], []⟩) (CR CX0 [] l.prog w H s (fun v _ => v = .bl true) E0) s := by
  have F_all_bits := fun_mk (st := s_all_bits) l0 c0 k0
  have b_all_bits := F_all_bits.binds (ps := ["many"]) fun _ _ _ _ _ _ us hl => by
    obtain ⟨_, rfl⟩ := awL1 hl
    rfl
  have g_all_bits := PySem.W.mg_of X G a0
  have F_both_steps := fun_mk (st := s_both_steps) l1 c1 k1
  have b_both_steps := F_both_steps.binds (ps := ["ones", "others"]) fun _ _ _ _ _ _ us hl => by
    obtain ⟨_, _, rfl⟩ := awL2 hl
    rfl
  have g_both_steps := PySem.W.mg_of X G a1
  have F_leader_of := fun_mk (st := s_leader_of) l2 c2 k2
  have b_leader_of := F_leader_of.binds (ps := ["leaders", "state"]) fun _ _ _ _ _ _ us hl => by
    obtain ⟨_, _, rfl⟩ := awL2 hl
    rfl
  have g_leader_of := PySem.W.mg_of X G a2
  have F_join_states := fun_mk (st := s_join_states) l3 c3 k3
  have b_join_states := F_join_states.binds (ps := ["leaders", "one", "other"]) fun _ _ _ _ _ _ us hl => by
    obtain ⟨_, _, _, rfl⟩ := awL3 hl
    rfl
  have g_join_states := PySem.W.mg_of X G a3
  have F_parting := fun_mk (st := s_parting) l4 c4 k4
  have b_parting := F_parting.binds (ps := ["machine", "one", "other"]) fun _ _ _ _ _ _ us hl => by
    obtain ⟨_, _, _, rfl⟩ := awL3 hl
    rfl
  have g_parting := PySem.W.mg_of X G a4
  have F_law_tape := fun_mk (st := s_law_tape) l5 c5 k5
  have b_law_tape := F_law_tape.binds (ps := ["script", "start"]) fun _ _ _ _ _ _ us hl => by
    obtain ⟨_, _, rfl⟩ := awL2 hl
    rfl
  have g_law_tape := PySem.W.mg_of X G a5
  have F_law_digit := fun_mk (st := s_law_digit) l6 c6 k6
  have b_law_digit := F_law_digit.binds (ps := ["tape", "many"]) fun _ _ _ _ _ _ us hl => by
    obtain ⟨_, _, rfl⟩ := awL2 hl
    rfl
  have g_law_digit := PySem.W.mg_of X G a6
  have F_law_drawn := fun_mk (st := s_law_drawn) l7 c7 k7
  have b_law_drawn := F_law_drawn.binds (ps := ["tape", "many"]) fun _ _ _ _ _ _ us hl => by
    obtain ⟨_, _, rfl⟩ := awL2 hl
    rfl
  have g_law_drawn := PySem.W.mg_of X G a7
  have F_law_all_bits := fun_mk (st := s_law_all_bits) l8 c8 k8
  have b_law_all_bits := F_law_all_bits.binds (ps := ["many"]) fun _ _ _ _ _ _ us hl => by
    obtain ⟨_, rfl⟩ := awL1 hl
    rfl
  have g_law_all_bits := PySem.W.mg_of X G a8
  have F_law_parted := fun_mk (st := s_law_parted) l9 c9 k9
  have b_law_parted := F_law_parted.binds (ps := ["machine", "many", "one", "other"]) fun _ _ _ _ _ _ us hl => by
    obtain ⟨_, _, _, _, rfl⟩ := awL4 hl
    rfl
  have g_law_parted := PySem.W.mg_of X G a9
  have F_law_chain_right := fun_mk (st := s_law_chain_right) l10 c10 k10
  have b_law_chain_right := F_law_chain_right.binds (ps := ["tape", "many"]) fun _ _ _ _ _ _ us hl => by
    obtain ⟨_, _, rfl⟩ := awL2 hl
    rfl
  have g_law_chain_right := PySem.W.mg_of X G a10
  have F_law := fun_mk (st := s_law) l11 c11 k11
  have b_law := F_law.binds (ps := ["script"]) fun _ _ _ _ _ _ us hl => by
    obtain ⟨_, rfl⟩ := awL1 hl
    rfl
  obtain rfl : fa = f11 := by
    have e := hfa.symm.trans (PySem.W.mg_of X G a11)
    cases e
    rfl
  have FWalk___init__ := fun_mk (st := sWalk___init__) ml_Walk___init__ mc_Walk___init__ mk_Walk___init__
  have MWalk___init__ : Meth K CWalk "__init__" fWalk___init__ := ⟨ma_Walk___init__, mi_Walk___init__, mk_Walk___init__⟩
  have FWalk_meet := fun_mk (st := sWalk_meet) ml_Walk_meet mc_Walk_meet mk_Walk_meet
  have MWalk_meet : Meth K CWalk "meet" fWalk_meet := ⟨ma_Walk_meet, mi_Walk_meet, mk_Walk_meet⟩
  have FWalk_bits_to := fun_mk (st := sWalk_bits_to) ml_Walk_bits_to mc_Walk_bits_to mk_Walk_bits_to
  have MWalk_bits_to : Meth K CWalk "bits_to" fWalk_bits_to := ⟨ma_Walk_bits_to, mi_Walk_bits_to, mk_Walk_bits_to⟩
  have TWalk : Cls K CWalk := ⟨pg_Walk, hd_Walk, po_Walk, sa_Walk⟩
  have gWalk := PySem.W.mg_of X G oa_Walk
  have KWalk : Mk K CWalk fWalk___init__ := ⟨mk_Walk, ma_Walk___init__, mi_Walk___init__, kc_Walk⟩
  have m_abs := PySem.W.mg_none_of X G z_abs
  have m_enumerate := PySem.W.mg_none_of X G z_enumerate
  have m_int := PySem.W.mg_none_of X G z_int
  have m_len := PySem.W.mg_none_of X G z_len
  have m_list := PySem.W.mg_none_of X G z_list
  have m_max := PySem.W.mg_none_of X G z_max
  have m_min := PySem.W.mg_none_of X G z_min
  have m_range := PySem.W.mg_none_of X G z_range
  have m_repr := PySem.W.mg_none_of X G z_repr
  have m_sorted := PySem.W.mg_none_of X G z_sorted
  have m_zip := PySem.W.mg_none_of X G z_zip
  intro s a ns base H hlen hbits e0 hS
  have GT := ok_tape (P := l.prog) (w := w) (mg := mg) (base := base) (k := 0) F_law_tape m_abs m_len
  have GD := ok_digit (P := l.prog) (w := w) (mg := mg) (base := base) (k := 0) F_law_digit
  have GAl := ok_all (P := l.prog) (w := w) (mg := mg) (base := base) (k := 0) F_all_bits m_range
  have WT : WCls K mg CWalk := ⟨TWalk, na_Walk_met, na_Walk_numbers, na_Walk_ways, gWalk⟩
  have bI := FWalk___init__.binds (ps := ["self", "first"]) fun _ _ _ _ _ _ us hl => by
    obtain ⟨_, _, rfl⟩ := awL2 hl
    rfl
  have bM := FWalk_meet.binds (ps := ["self", "thing", "ahead", "bits"]) fun _ _ _ _ _ _ us hl => by
    obtain ⟨_, _, _, _, rfl⟩ := awL4 hl
    rfl
  have bTo := FWalk_bits_to.binds (ps := ["self", "number"]) fun _ _ _ _ _ _ us hl => by
    obtain ⟨_, _, rfl⟩ := awL2 hl
    rfl
  have GI := ok_wi (P := l.prog) (w := w) (mg := mg) (base := base) (k := 0) FWalk___init__ WT
  have GM := ok_wm (P := l.prog) (w := w) (mg := mg) (base := base) (k := 0) FWalk_meet WT m_len
  have GTo := ok_bt (P := l.prog) (w := w) (mg := mg) (base := base) (k := 0) FWalk_bits_to WT
  have GBo := ok_bs (P := l.prog) (w := w) (mg := mg) (base := base) (k := 0) F_both_steps m_zip
  have GLd := ok_ld (P := l.prog) (w := w) (mg := mg) (base := base) (k := 0) F_leader_of
  have GJn := ok_jn (P := l.prog) (w := w) (mg := mg) (base := base) (k := 0) F_join_states GLd F_leader_of.kp b_leader_of g_leader_of
  have GPt := pf_2 (ok_pf (P := l.prog) (w := w) (mg := mg) (base := base) (k := 0) F_parting WT GAl F_all_bits.kp b_all_bits g_all_bits GJn F_join_states.kp b_join_states g_join_states GBo F_both_steps.kp b_both_steps g_both_steps KWalk GI bI MWalk_meet GM bM MWalk_bits_to GTo bTo m_len m_zip m_list m_range)
  have GPt0 := ok_pf (P := l.prog) (w := w) (mg := mg) (base := base) (k := 0) F_parting WT GAl F_all_bits.kp b_all_bits g_all_bits GJn F_join_states.kp b_join_states g_join_states GBo F_both_steps.kp b_both_steps g_both_steps KWalk GI bI MWalk_meet GM bM MWalk_bits_to GTo bTo m_len m_zip m_list m_range
  have GAb := ok_lab (P := l.prog) (w := w) (mg := mg) (base := base) (k := 0) F_law_all_bits m_range m_sorted
  have GDr := ok_d44 (P := l.prog) (w := w) (mg := mg) (base := base) (k := 0) F_law_drawn GD F_law_digit.kp b_law_digit g_law_digit m_range m_int
  have GCr := ok_cr44 (P := l.prog) (w := w) (mg := mg) (base := base) (k := 0) F_law_chain_right GD F_law_digit.kp b_law_digit g_law_digit GPt0 F_parting.kp b_parting g_parting m_range m_repr
  have GLp := lp_2 (ok_lp (P := l.prog) (w := w) (mg := mg) (base := base) (k := 0) F_law_parted GAb F_law_all_bits.kp b_law_all_bits g_law_all_bits m_enumerate m_sorted)
  exact law_run F_law b_law GT F_law_tape.kp b_law_tape g_law_tape GD F_law_digit.kp b_law_digit g_law_digit GDr F_law_drawn.kp b_law_drawn g_law_drawn GCr F_law_chain_right.kp b_law_chain_right g_law_chain_right GLp F_law_parted.kp b_law_parted g_law_parted GPt F_parting.kp b_parting g_parting m_range m_len m_max m_min m_repr hlen hbits e0 hS
end
end KK
open PySem PySem.W PyProof.Rows
set_option maxHeartbeats 0 in
theorem PySem.Challenge.cw_anywide_k44_states_parted_holds : PySem.Challenge.rw_anywide_k44_states_parted.Holds := by
  w_on; o_law; k_head; (case hw => w_witness2)
  k_fill
  refine AW.walkG (l := PySem.Challenge.rw_anywide_k44_states_parted) (n := 63) rfl (by decide) rfl (fun w h Y => PySem.W.kIn_of Y) ?F
  case F =>
    intro w mg fa h KX G hmg
    refine' KK.all_mk KX G hmg ?a0 ?l0 ?c0 ?k0 ?a1 ?l1 ?c1 ?k1 ?a2 ?l2 ?c2 ?k2 ?a3 ?l3 ?c3 ?k3 ?a4 ?l4 ?c4 ?k4 ?a5 ?l5 ?c5 ?k5 ?a6 ?l6 ?c6 ?k6 ?a7 ?l7 ?c7 ?k7 ?a8 ?l8 ?c8 ?k8 ?a9 ?l9 ?c9 ?k9 ?a10 ?l10 ?c10 ?k10 ?a11 ?l11 ?c11 ?k11 ?oa_Walk ?ma_Walk___init__ ?mi_Walk___init__ ?ml_Walk___init__ ?mc_Walk___init__ ?mk_Walk___init__ ?ma_Walk_meet ?mi_Walk_meet ?ml_Walk_meet ?mc_Walk_meet ?mk_Walk_meet ?ma_Walk_bits_to ?mi_Walk_bits_to ?ml_Walk_bits_to ?mc_Walk_bits_to ?mk_Walk_bits_to ?pg_Walk ?hd_Walk ?po_Walk ?sa_Walk ?mk_Walk ?kc_Walk ?na_Walk_met ?na_Walk_numbers ?na_Walk_ways ?z_abs ?z_enumerate ?z_int ?z_len ?z_list ?z_max ?z_min ?z_range ?z_repr ?z_sorted ?z_zip
    (case a0 => k_is)
    (case l0 => k_is)
    (case c0 => k_is)
    (case k0 => k_is)
    (case a1 => k_is)
    (case l1 => k_is)
    (case c1 => k_is)
    (case k1 => k_is)
    (case a2 => k_is)
    (case l2 => k_is)
    (case c2 => k_is)
    (case k2 => k_is)
    (case a3 => k_is)
    (case l3 => k_is)
    (case c3 => k_is)
    (case k3 => k_is)
    (case a4 => k_is)
    (case l4 => k_is)
    (case c4 => k_is)
    (case k4 => k_is)
    (case a5 => k_is)
    (case l5 => k_is)
    (case c5 => k_is)
    (case k5 => k_is)
    (case a6 => k_is)
    (case l6 => k_is)
    (case c6 => k_is)
    (case k6 => k_is)
    (case a7 => k_is)
    (case l7 => k_is)
    (case c7 => k_is)
    (case k7 => k_is)
    (case a8 => k_is)
    (case l8 => k_is)
    (case c8 => k_is)
    (case k8 => k_is)
    (case a9 => k_is)
    (case l9 => k_is)
    (case c9 => k_is)
    (case k9 => k_is)
    (case a10 => k_is)
    (case l10 => k_is)
    (case c10 => k_is)
    (case k10 => k_is)
    (case a11 => k_is)
    (case l11 => k_is)
    (case c11 => k_is)
    (case k11 => k_is)
    (case oa_Walk => k_is)
    (case ma_Walk___init__ => k_is)
    (case mi_Walk___init__ => k_is)
    (case ml_Walk___init__ => k_is)
    (case mc_Walk___init__ => k_is)
    (case mk_Walk___init__ => k_is)
    (case ma_Walk_meet => k_is)
    (case mi_Walk_meet => k_is)
    (case ml_Walk_meet => k_is)
    (case mc_Walk_meet => k_is)
    (case mk_Walk_meet => k_is)
    (case ma_Walk_bits_to => k_is)
    (case mi_Walk_bits_to => k_is)
    (case ml_Walk_bits_to => k_is)
    (case mc_Walk_bits_to => k_is)
    (case mk_Walk_bits_to => k_is)
    (case pg_Walk => k_is)
    (case hd_Walk => k_is)
    (case po_Walk => k_is)
    (case sa_Walk => k_is)
    (case mk_Walk => k_is)
    (case kc_Walk => k_is)
    (case na_Walk_met => k_is)
    (case na_Walk_numbers => k_is)
    (case na_Walk_ways => k_is)
    (case z_abs => k_is)
    (case z_enumerate => k_is)
    (case z_int => k_is)
    (case z_len => k_is)
    (case z_list => k_is)
    (case z_max => k_is)
    (case z_min => k_is)
    (case z_range => k_is)
    (case z_repr => k_is)
    (case z_sorted => k_is)
    (case z_zip => k_is)
