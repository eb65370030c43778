import PyProof.Rows.All
import Wide.All
import OpenK.AllK
import Wide.FinOn
import HandS.DictComp
import HandS.SetKeys
import KE.KDictCopyH
import KE.KEqDict
import KE.SortData
import HandS.Base
import HandS.Call
import HandS.List
import HandS.Comp
import HandS.Ends
import HandS.Dict
import HandS.Iter
import HandS.EndBits
import HandS.Words
import HandS.WordsList
import HandS.WordsDict
import HandS.Text
import HandS.Wide
import HandS.WideBits
import HandS.Conv
import HandS.TupLe
import HandS.IsInst
import HandS.ExcIs
import HandS.ExcValue
import HandS.TupSets
import HandS.Zip
import HandS.Walk
import HandS.TupAny
import HandS.Deep
import PyProof.ReprRoads
import PyProof.ReprBulk
import KE.GoesZip
import KE.GoesMore
import KE.GoesEnum
import HandS.DictTup
import KE.KSortTupG
import HandS.TupLen
import HandS.NoneIn
import HandS.Records
import HandS.Flow
import HandS.More
import KE.KDictWalk
import KE.KDictDisplayH
import PyProof.WalkInts
import PyProof.DictTable
import KE.KeyNested
import KE.KDictKeyed
import PyProof.DictMoreH
import HandS.ListItems
import KE.KTurns
import HandS.Star
import PyProof.StrOps2
import HandS.TryOnly
import HandS.WordsExc
import HandS.Style
import HandS.RaiseMore
import HandS.FStr
import HandS.ExcOwn
import HandS.ExcCtx
import HandS.SetFor
import PySem.Challenge.RW_anywide_k73_books_of_few_names
set_option Elab.async false
set_option linter.all false
set_option maxRecDepth 100000
namespace AW
open PySem PySem.Spec PyProof.Rows L2

/-! ### a def's call at one around -/
theorem fn_at {P : Program} {w : World} {K : PySem.W.Frag} {mg : Str → Option Value} {base : Heap} {k : Nat} {f : Addr} {x qual : Str} {st : Stmt} {fd : FuncData} {N ps : List Str}
    (F : Fun K x qual st f fd) (S : FnScope N ps (defScope st)) {A : Around} {outer : List Env} {s : Shared} {H : Hp} {args : Args} {us : List Value} {vs : List V} {Q : VK} {E : XK}
    (hr : Room (k + 1) A) (e0 : Env0 P w K mg base A outer s H) (hb : BindsTo s fd args (ps.zip us)) (r : Vals vs us) (hl : vs.length = ps.length)
    (hbody : ∀ cdv : Value, ∃ t, PSs (cxOf CX0 P w K mg base N qual (defScope st) f cdv A outer s H E).nox (defBody st) t ∧ t { nx := fun _ H' => Q .non H', rt := Q } (start N vs) H) :
    codeAny (model P w) A (.call (.ref f) args) (CR CX0 outer P w H s Q E) s := by
  obtain ⟨oc, od, kV, doc, pm, an, cdv, ct, osl, rfl, lk, hcd⟩ := F.ex
  have keep0 : ∀ b o, base.get? b = some o → s.heap.get? b = some o := fun b o e => (e0.bs b o e).1
  have KX := e0.mod.kin.keeps keep0
  refine codeAny_call_function (Room.depth hr) (KX _ _ lk) rfl S.co S.gen rfl (PySem.W.codeRec_of KX hcd) (hb _ _ _ _ ?_)
  have kinds : ∀ y ∈ ps.zip us, (defScope st).names.lookup y.1 = some .local ∨ ((defScope st).names.lookup y.1 = some .cell ∧ ((cellsFrom (s.heap.objs.size + 1) (defScope st).names []).lookup y.1).isSome = true) := by
    intro y hy
    obtain ⟨n, v⟩ := y
    exact (S.par n (List.of_mem_zip hy).1).elim Or.inl fun q => Or.inr ⟨q, PySem.W.cellsFrom_some _ _ _ (.inl q)⟩
  refine wpAny_newFunctionEnv_cells S.kind kinds ?_
  rintro env rfl s1 ic
  obtain ⟨t, ht, hq⟩ := hbody cdv
  refine ⟨(e0.mod.nolimit.keeps keep0).keeps ic.toInCall.keep, codeAny_func (wpAny_mono (ht.nox.run [] s1 (start N vs) H _ (inv_start S hr.hd e0 hl r ic) hq) ?_ (fun _ _ z => z))⟩
  intro fl s' hs
  cases fl with
  | ret u =>
    obtain ⟨v, σ', H', J, rv, q⟩ := hs
    exact ⟨v, H', J.os, J.bare, J.base, J.hok, rv, q⟩
  | next =>
    obtain ⟨σ', H', J, q⟩ := hs
    exact ⟨V.non, H', J.os, J.bare, J.base, J.hok, rfl, q⟩
  | brk => exact hs.elim fun _ z => z.elim fun _ z => z.2.elim
  | cont => exact hs.elim fun _ z => z.elim fun _ z => z.2.elim

/-! ### the law's own call -/
theorem env_at {P : Program} {w : World} {K : PySem.W.Frag} {mg mb : Str → Option Value} {a : Addr} {s1 : Shared} {vs : List Value} {H : Hp}
    (KX : K.In s1.heap) (hns : s1.heap.Ns mainGlobals mg) (hb : s1.heap.Ns builtinsNs mb) (hbb : ∀ x : Str, x ≠ "__name__" → mb x = bootBuiltins x) (hlim : s1.heap.NoLimit) (hg : s1.gens = #[])
    (ha : s1.heap.get? a = some { cls := .type "list", data := .seq vs.toArray }) (one : ∀ b u, H b = some u → b = a) (out : ∀ o, K.lookup a = some o → H a = none) (ok : HOk P w H s1.heap) :
    Env0 P w K mg (hidT s1.heap H) callerA [] s1 H := by
  have dicts : ∀ {b : Addr} {m : Str → Option Value}, s1.heap.Ns b m → (hidT s1.heap H).Ns b m := by
    rintro b m ⟨o, es, ep, e, d, r⟩
    refine ⟨o, es, ep, hidT_get e ?_, d, r⟩
    match q : H b with
    | none => rfl
    | some u =>
      obtain rfl := one b u q
      have e2 := Option.some.inj (e.symm.trans ha)
      rw [e2] at d
      cases d
  have kin : K.In (hidT s1.heap H) := by
    intro b o e
    refine hidT_get (KX b o e) ?_
    match q : H b with
    | none => rfl
    | some u =>
      obtain rfl := one b u q
      exact q.symm.trans (out o e)
  obtain ⟨mc, l1, l2⟩ := hlim
  exact ⟨rfl, ⟨kin, dicts hns, ⟨mb, dicts hb, hbb⟩, ⟨mc, dicts l1, l2⟩⟩, fun b o e => of_hidT e, Nat.le_of_eq (hidT_size _ _), trivial, (fun b z => nomatch z), ok, .of_eq hg⟩

theorem law_end {P : Program} {w : World} {K : PySem.W.Frag} {mg mb : Str → Option Value} {fa a : Addr} {s1 : Shared} {vs : List Value} {ns : List Int}
    (KX : K.In s1.heap) (hns : s1.heap.Ns mainGlobals mg) (hb : s1.heap.Ns builtinsNs mb) (hbb : ∀ x : Str, x ≠ "__name__" → mb x = bootBuiltins x) (hlim : s1.heap.NoLimit) (hg : s1.gens = #[])
    (ha : s1.heap.get? a = some { cls := .type "list", data := .seq vs.toArray }) (hi : IntsAre vs ns) (hl : ns.length ≤ sizeLine)
    (run : ∀ (base : Heap) (H : Hp), Env0 P w K mg base callerA [] s1 H → SqL K H a (ns.map V.int) →
      codeAny (model P w) callerA (.call (.ref fa) ⟨[.ref a], []⟩) (CR CX0 [] P w H s1 (fun v _ => v = .bl true) E0) s1) :
    codeAny (model P w) callerA (.call (.ref fa) ⟨[.ref a], []⟩) (fun r s' => r = .ok (.ret (.bool true)) ∧ OldK s1.heap s'.heap ∧ s'.os = s1.os ∧ AllBare s'.gens) s1 := by
  have rv := vals_ints hi
  have fin : ∀ H : Hp, HOk P w H s1.heap → (∀ b u, H b = some u → ∃ o xs, u = .frz o (.lst xs)) → ∀ r s', CR CX0 [] P w H s1 (fun v _ => v = .bl true) E0 r s' →
      r = .ok (.ret (.bool true)) ∧ OldK s1.heap s'.heap ∧ s'.os = s1.os ∧ AllBare s'.gens := by
    intro H ok hf r s' h
    match r, h with
    | .ok (.ret u), ⟨v, H', os, bare, un, ok2, rel, q⟩ =>
      obtain rfl : v = .bl true := q
      obtain rfl : u = Value.bool true := rel
      refine ⟨rfl, OldK.of_keep ?_, os, bare⟩
      intro b o e
      match qb : H b with
      | none => exact un.keep b o e qb (fun z => nomatch z) (fun z => nomatch z)
      | some ho =>
        obtain ⟨o2, xs, rfl⟩ := hf b ho qb
        have k1 := (ok b _ qb).1
        have k2 := (ok2 b _ (un.frzs b o2 _ qb)).1
        rw [e] at k1
        cases k1
        exact k2
  match hk : K.lookup a with
  | some o =>
    have e := (KX a o hk).symm.trans ha
    obtain rfl := Option.some.inj e
    have ok : HOk P w (fun _ => none) s1.heap := fun b u z => nomatch z
    refine codeAny_mono (run _ (fun _ => none) (env_at KX hns hb hbb hlim hg ha (fun b u z => nomatch z) (fun _ _ => rfl) ok) ?_) (fin _ ok fun b u z => nomatch z)
    exact .inr ⟨_, vs.toArray, _, hk, rfl, rfl, rfl, by rw [List.size_toArray, hi.length]; exact hl, by simpa using rv⟩
  | none =>
    let o : Obj := { cls := .type "list", data := .seq vs.toArray }
    have at_ : ∀ b u, (if b = a then some (HO.frz o (.lst (ns.map V.int))) else none) = some u → b = a ∧ u = HO.frz o (.lst (ns.map V.int)) := by
      intro b u z
      by_cases hb : b = a
      · rw [if_pos hb] at z
        exact ⟨hb, (Option.some.inj z).symm⟩
      · rw [if_neg hb] at z
        cases z
    have ok : HOk P w (fun b => if b = a then some (HO.frz o (.lst (ns.map V.int))) else none) s1.heap := by
      intro b u z
      obtain ⟨rfl, rfl⟩ := at_ b u z
      exact ⟨ha, by rw [List.length_map]; exact hl, vs, _, rv, ha⟩
    refine codeAny_mono (run _ _ (env_at KX hns hb hbb hlim hg ha (fun b u z => (at_ b u z).1) (fun o' e => absurd (hk.symm.trans e) (fun z => nomatch z)) ok) ?_) (fin _ ok fun b u z => ⟨_, _, (at_ b u z).2⟩)
    exact .inl (.inr ⟨o, if_pos rfl⟩)

theorem walkG {l : PySem.W.OpenLaw} {n : Nat} {q : Program} {loose : List Str} {XP : (Str → Option Value) → Heap → Prop} {YP : World → Heap → Prop} {d : DefRec} {K : Params → PySem.W.Frag}
    (hn : l.most = some n) (hn2 : n ≤ sizeLine) (hdf : d.params.defaults = []) (hY : ∀ (w : World) (h : Heap), YP w h → (K w.params).In h)
    (F : ∀ (w : World) (mg : Str → Option Value) (fa : Addr) (h : Heap), (K w.params).In h → h.Ns mainGlobals mg → mg d.name = some (.ref fa) →
      ∀ (s : Shared) (a : Addr) (ns : List Int) (base : Heap) (H : Hp), ns.length ≤ n → (∀ z ∈ ns, Builtin.Int.intBits z ≤ 1048576) → Env0 l.prog w (K w.params) mg base callerA [] s H → SqL (K w.params) H a (ns.map V.int) →
        codeAny (model l.prog w) callerA (.call (.ref fa) ⟨[.ref a], []⟩) (CR CX0 [] l.prog w H s (fun v _ => v = .bl true) E0) s) :
    PySem.W.WalkO q loose XP YP l.row.toRowW d [] (fun f vs => PySem.call f vs) := by
  apply Att.attach_callB hn hdf
  intro w s0 s1 mg mb fa o pm cd doc a vs ns G Y ho hd hcd hmg hobj hints hlen hbits hg
  have KX := hY w _ Y
  exact law_end KX G.T.g G.T.b G.T.builtins G.T.nolimit hg hobj hints (Nat.le_trans hlen hn2) fun base H e0 hS => F w mg fa _ KX G.T.g hmg s1 a ns base H hlen hbits e0 hS

/-! ### repr of data -/
section
variable {X : Cx}
/-- what a value reads, whatever the state -/
def Rz (X : Cx) (H : Hp) (v : V) (d : PyData) : Prop := ∀ pins σ s u, Inv X pins σ H s → RelV v u → ∃ as, Reads s.heap u d as ∧ sysModules ∉ as
def rRepr (X : Cx) : List V → Hp → VK → Prop := fun xs H Q => ∃ (x : V) (d : PyData), xs = [x] ∧ (Rz X H x d ∨ (Dp X.K H x d ∧ d.hasDict = false)) ∧ d.showable = true ∧ d.depth ≤ 40 ∧ d.shown.length ≤ sizeLine ∧ Q (.str d.shown) H
theorem call_repr (hg : X.A.guards = some []) (hu : X.A.units + 64 < cLine) : CallR X (.builtin "repr") (rRepr X) := by
  intro pins s σ H xs us Q I r h
  obtain ⟨x, d, rfl, hd, hs, hp, hz, q⟩ := h
  match us, r with
  | [u], .cons rx .nil =>
    have rd : ∃ as, Reads s.heap u d as ∧ (d.hasDict = true → sysModules ∉ as) := by
      rcases hd with hd | ⟨hd, hn⟩
      · obtain ⟨as, h1, h2⟩ := hd pins σ s u I rx
        exact ⟨as, h1, fun _ => h2⟩
      · obtain ⟨as, h1⟩ := Dp.reads I d x u hd rx
        exact ⟨as, h1, fun z => by rw [hn] at z; cases z⟩
    obtain ⟨as, h1, h2⟩ := rd
    cases h1 with
    | none => exact PySem.P.repr_of_none ⟨.str _, H, I.tok _, ⟨_, rfl⟩, q⟩
    | bool b => exact PySem.P.repr_of_bool ⟨.str _, H, I.tok _, ⟨_, rfl⟩, by have q' := q; simp only [PyData.shown] at q'; cases b <;> exact q'⟩
    | int i t => exact PySem.P.repr_of_int (by simpa [PyData.showable] using hs) ⟨.str _, H, I.tok _, ⟨_, rfl⟩, by simpa only [PyData.shown] using q⟩
    | str x t => exact PySem.P.repr_of_str ⟨.str _, H, I.tok _, ⟨_, rfl⟩, by simpa only [PyData.shown] using q⟩ (by simpa only [PyData.shown] using hz)
    | list a b c e => exact repr_of_reads' (Reads.list a b c e) hs h2 hg (by omega) (fun _ _ e => e) (fun h' u tk k => ⟨.str _, H, I.kept k, ⟨_, rfl⟩, q⟩) hz
    | tuple a b c e => exact repr_of_reads' (Reads.tuple a b c e) hs h2 hg (by omega) (fun _ _ e => e) (fun h' u tk k => ⟨.str _, H, I.kept k, ⟨_, rfl⟩, q⟩) hz
    | dict a b c e f => exact repr_of_reads' (Reads.dict a b c e f) hs h2 hg (by omega) (fun _ _ e => e) (fun h' u tk k => ⟨.str _, H, I.kept k, ⟨_, rfl⟩, q⟩) hz

theorem Rz.int (H : Hp) (i : Int) : Rz X H (.int i) (.int i) := by
  rintro pins σ s u I ⟨t, rfl⟩
  exact ⟨_, Reads.int i t, (fun z => nomatch z)⟩
theorem Rz.str (H : Hp) (x : Str) : Rz X H (.str x) (.str x) := by
  rintro pins σ s u I ⟨t, rfl⟩
  exact ⟨_, Reads.str x t, (fun z => nomatch z)⟩
theorem rz_all {H : Hp} : ∀ {vs : List V} {ds : List PyData}, Paired (Rz X H) vs ds → ∀ {pins σ s us}, Inv X pins σ H s → Vals vs us → ∃ as, ReadsAll s.heap us ds as ∧ sysModules ∉ as
  | _, _, .nil, _, _, _, _, _, .nil => ⟨_, ReadsAll.nil, (fun z => nomatch z)⟩
  | _, _, .cons h t, _, _, _, _, I, .cons r rs => by
    obtain ⟨as, a1, a2⟩ := h _ _ _ _ I r
    obtain ⟨bs, b1, b2⟩ := rz_all t I rs
    exact ⟨_, ReadsAll.cons a1 b1, fun z => (List.mem_append.mp z).elim a2 b2⟩
theorem Rz.tup {H : Hp} {a : Addr} {xs : List V} {ds : List PyData} (h : SqT X.K H a xs) (hs : Paired (Rz X H) xs ds) : Rz X H (.ref a) (.tuple ds) := by
  intro pins σ s u I r
  obtain rfl : u = Value.ref a := r
  obtain ⟨its, rv, ⟨o, ho, hc, n, hd⟩, _⟩ := I.tuple h
  obtain ⟨as, h1, h2⟩ := rz_all hs I rv
  exact ⟨_, Reads.tuple ho hc hd h1, h2⟩
end
end AW
namespace AW
open PySem PySem.Spec PyProof.Rows L2
section
variable {X : Cx}
def CPowW (i j : Int) : Prop := 0 ≤ j ∧ (Builtin.Int.intBits i : Int) * j ≤ 2 ^ 27
theorem op_powW : OpR X (binaryOp .Pow) (rI CPowW fun i j => .int (i ^ j.toNat)) := opI fun _ _ _ _ _ _ _ hc q => pow_int hc.1 hc.2 q
end
theorem bits_lt {z : Int} {n : Nat} (h : Builtin.Int.intBits z ≤ n) : z.natAbs < 2 ^ n := by
  unfold Builtin.Int.intBits at h
  by_cases e : z = 0
  · subst e
    exact Nat.pos_of_ne_zero (by simp)
  · rw [if_neg (by simpa using e)] at h
    have : z.natAbs ≠ 0 := by omega
    exact (Nat.log2_lt this).mp (by omega)
theorem seed_ok {z c : Int} (h0 : 0 ≤ z) (h1 : z ≤ 2147483629) (h2 : Builtin.Int.intBits c ≤ 1048576) : CPowW (z * 50021 + c) 3 := by
  refine ⟨by decide, ?_⟩
  have hc := bits_lt h2
  have h3 : (z * 50021 + c).natAbs < 2 ^ 1048577 := by
    have a : (z * 50021 + c).natAbs ≤ (z * 50021).natAbs + c.natAbs := Int.natAbs_add_le _ _
    have b : (z * 50021).natAbs ≤ 2 ^ 48 := by omega
    have d : (2 : Nat) ^ 48 ≤ 2 ^ 1048576 := Nat.pow_le_pow_right (by decide) (by decide)
    have e : (2 : Nat) ^ 1048577 = 2 ^ 1048576 + 2 ^ 1048576 := by rw [Nat.pow_succ]; omega
    omega
  have h4 := PyProof.Rows.intBits_le h3
  have e : (2 : Int) ^ 27 = 134217728 := by decide
  rw [e]
  omega
/-! ### what follows an if, shown once -/
def tMid (t u : TS) : TS := fun D σ H => ∃ M : L2.St → Hp → Prop, t { D with nx := M } σ H ∧ ∀ σ2 H2, M σ2 H2 → u D σ2 H2
theorem pss_mid {X : Cx} {st : Stmt} {r : List Stmt} {t u : TS} (a : PS X st t) (b : PSs X r u) : PSs X (st :: r) (tMid t u) := by
  constructor
  rintro pins s σ H D I ⟨M, h1, h2⟩
  apply wpAny_execs_cons
  refine thn (a.run pins s σ H _ I h1) ?_
  intro fl s2 z
  match fl, z with
  | .next, ⟨σ2, H2, I2, m⟩ => exact b.run pins s2 σ2 H2 D I2 (h2 σ2 H2 m)
  | .ret _, z => exact z
  | .brk, z => exact z
  | .cont, z => exact z
/-! ### the well -/
def WL (H : Hp) (a c : Addr) : Prop := a ≠ c ∧ ∃ (cs : List Int) (r s : Int), H a = some (.lst [.ref c, .int r, .int s]) ∧ H c = some (.lst (cs.map V.int))
/-- all but the well stands as it stood -/
def Kp (a c : Addr) (H H' : Hp) : Prop := ∀ b o, b ≠ a → b ≠ c → H b = some o → H' b = some o
theorem Kp.refl (a c : Addr) (H : Hp) : Kp a c H H := fun _ _ _ _ h => h
theorem Kp.trans {a c : Addr} {H H1 H2 : Hp} (h : Kp a c H H1) (k : Kp a c H1 H2) : Kp a c H H2 := fun b o n1 n2 e => k b o n1 n2 (h b o n1 n2 e)
theorem Kp.tup {a c : Addr} {H H' : Hp} (w : WL H a c) (k : Kp a c H H') {b : Addr} {xs : List V} (h : H b = some (.tup xs)) : H' b = some (.tup xs) := by
  obtain ⟨_, cs, r, s, e1, e2⟩ := w
  exact k b _ (ne_of h e1 (fun z => nomatch z)) (ne_of h e2 (fun z => nomatch z)) h
theorem Kp.same {a c : Addr} {H H1 H2 : Hp} (ha : H a = none) (hc : H c = none) (s : Same H H1) (k : Kp a c H1 H2) : Same H H2 := fun b o e => k b o (ne_of_none e ha) (ne_of_none e hc) (s b o e)
theorem same_new {H : Hp} {p : Addr} {o : HO} (h : H p = none) : Same H (upd H p o) := fun b x e => by
  rw [upd_ne (ne_of_none e h)]
  exact e
theorem WL.same {H H' : Hp} {a c : Addr} (w : WL H a c) (k : Same H H') : WL H' a c := by
  obtain ⟨n, cs, r, s, e1, e2⟩ := w
  exact ⟨n, cs, r, s, k _ _ e1, k _ _ e2⟩
theorem WL.ne_new {H : Hp} {a c p : Addr} (w : WL H a c) (h : H p = none) : p ≠ a ∧ p ≠ c := by
  obtain ⟨n, cs, r, s, e1, e2⟩ := w
  exact ⟨(ne_of_none e1 h).symm, (ne_of_none e2 h).symm⟩
theorem WL.upd {H : Hp} {a c p : Addr} {o : HO} (w : WL H a c) (h1 : p ≠ a) (h2 : p ≠ c) : WL (upd H p o) a c := by
  obtain ⟨n, cs, r, s, e1, e2⟩ := w
  exact ⟨n, cs, r, s, by rw [upd_ne h1.symm]; exact e1, by rw [upd_ne h2.symm]; exact e2⟩
theorem Same.kp {a c : Addr} {H H' : Hp} (s : Same H H') : Kp a c H H' := fun b o _ _ e => s b o e
theorem dp_ints {K : PySem.W.Frag} {H : Hp} : ∀ cs : List Int, DpAll K H (cs.map V.int) (cs.map PyData.int)
  | [] => .nil
  | c :: cs => .cons (.int c) (dp_ints cs)
theorem lay_ints : ∀ cs : List Int, PyData.canLayAll0 (cs.map PyData.int) = true ∧ PyData.depthAll (cs.map PyData.int) = 0
  | [] => ⟨by simp only [List.map_nil, PyData.canLayAll0], by simp only [List.map_nil, PyData.depthAll]⟩
  | c :: cs => by
    obtain ⟨h1, h2⟩ := lay_ints cs
    exact ⟨by simp only [List.map_cons, PyData.canLayAll0, PyData.canLay0, h1, Bool.and_self], by simp only [List.map_cons, PyData.depthAll, PyData.depth, h2, Nat.max_self]⟩
theorem shaped_ints (cs : List Int) : SeqAt.shaped (.list (cs.map PyData.int)) = true := by
  obtain ⟨h1, h2⟩ := lay_ints cs
  simp only [SeqAt.shaped, PyData.canLay0, PyData.depth, h1, h2, Bool.true_and]
  decide
theorem dp_strs {K : PySem.W.Frag} {H : Hp} : ∀ cs : List Str, DpAll K H (cs.map V.str) (cs.map PyData.str)
  | [] => .nil
  | c :: cs => .cons (.str c) (dp_strs cs)
theorem lay_strs : ∀ cs : List Str, (∀ x ∈ cs, PyData.strOk x = true) → PyData.canLayAll0 (cs.map PyData.str) = true ∧ PyData.depthAll (cs.map PyData.str) = 0
  | [], _ => ⟨by simp only [List.map_nil, PyData.canLayAll0], by simp only [List.map_nil, PyData.depthAll]⟩
  | c :: cs, h => by
    obtain ⟨h1, h2⟩ := lay_strs cs fun x hx => h x (List.mem_cons_of_mem _ hx)
    exact ⟨by simp only [List.map_cons, PyData.canLayAll0, PyData.canLay0, h1, h c List.mem_cons_self, Bool.and_self], by simp only [List.map_cons, PyData.depthAll, PyData.depth, h2, Nat.max_self]⟩
theorem shaped_strs (cs : List Str) (h : ∀ x ∈ cs, PyData.strOk x = true) : SeqAt.shaped (.list (cs.map PyData.str)) = true := by
  obtain ⟨h1, h2⟩ := lay_strs cs h
  simp only [SeqAt.shaped, PyData.canLay0, PyData.depth, h1, h2, Bool.true_and]
  decide
theorem seq0 (n : Nat) : seqIndex? 0 (n + 1) = some 0 := by
  unfold seqIndex?
  simp
/-! ### the words of deeds, deeds, rows -/
def fwL : List (Str × Int) := [("none", 0), ("one", 0), ("all", 0), ("not", 1), ("neg", 1), ("twice", 1), ("and", 2), ("or", 2), ("xor", 2), ("add", 2), ("sub", 2)]
theorem fw_ok : ∀ x ∈ fwL.map (·.1), PyData.strOk x = true := by decide +kernel
def fwK : List (Key × V) := fwL.map fun p => (Sum.inr p.1, .int p.2)
/-- a deed: its word and its numbers -/
abbrev Deed := Str × List Int
def dV (d : Deed) : List V := .str d.1 :: d.2.map V.int
theorem dv0 (d : Deed) : atI (dV d) 0 = some (.str d.1) := atI_nat (j := 0) rfl
theorem dvN {d : Deed} {k : Nat} {i : Int} (h : d.2[k]? = some i) : atI (dV d) ((k + 1 : Nat) : Int) = some (.int i) := atI_nat (by show (d.2.map V.int)[k]? = _; rw [List.getElem?_map, h]; rfl)
structure DeedOk (m : Int) (d : Deed) : Prop where
  word : (d.1, (d.2.length : Int)) ∈ fwL
  ahead : ∀ i ∈ d.2, 0 ≤ i ∧ i < m
theorem fw_at {z : Int} (h0 : 0 ≤ z) (h1 : z < 11) : ∃ x n, (x, n) ∈ fwL ∧ 0 ≤ n ∧ n ≤ 2 ∧ atI (fwK.map fun kv => kV kv.1) z = some (.str x) ∧ valV fwK (Sum.inr x) = some (.int n) := by
  obtain ⟨k, rfl⟩ := Int.eq_ofNat_of_zero_le h0
  have hk : k = 0 ∨ k = 1 ∨ k = 2 ∨ k = 3 ∨ k = 4 ∨ k = 5 ∨ k = 6 ∨ k = 7 ∨ k = 8 ∨ k = 9 ∨ k = 10 := by omega
  rcases hk with rfl | rfl | rfl | rfl | rfl | rfl | rfl | rfl | rfl | rfl | rfl
  · exact ⟨"none", 0, by decide +kernel, by decide, by decide, by decide +kernel, by decide +kernel⟩
  · exact ⟨"one", 0, by decide +kernel, by decide, by decide, by decide +kernel, by decide +kernel⟩
  · exact ⟨"all", 0, by decide +kernel, by decide, by decide, by decide +kernel, by decide +kernel⟩
  · exact ⟨"not", 1, by decide +kernel, by decide, by decide, by decide +kernel, by decide +kernel⟩
  · exact ⟨"neg", 1, by decide +kernel, by decide, by decide, by decide +kernel, by decide +kernel⟩
  · exact ⟨"twice", 1, by decide +kernel, by decide, by decide, by decide +kernel, by decide +kernel⟩
  · exact ⟨"and", 2, by decide +kernel, by decide, by decide, by decide +kernel, by decide +kernel⟩
  · exact ⟨"or", 2, by decide +kernel, by decide, by decide, by decide +kernel, by decide +kernel⟩
  · exact ⟨"xor", 2, by decide +kernel, by decide, by decide, by decide +kernel, by decide +kernel⟩
  · exact ⟨"add", 2, by decide +kernel, by decide, by decide, by decide +kernel, by decide +kernel⟩
  · exact ⟨"sub", 2, by decide +kernel, by decide, by decide, by decide +kernel, by decide +kernel⟩
theorem awSnoc {α β : Type} {F : α → β → Prop} {x : α} {y : β} (h : F x y) : ∀ {l : List α} {l2 : List β}, Paired F l l2 → Paired F (l ++ [x]) (l2 ++ [y])
  | _, _, .nil => .cons h .nil
  | _, _, .cons r t => .cons r (awSnoc h t)
theorem awMap {α β : Type} {F G : α → β → Prop} (f : ∀ a b, F a b → G a b) : ∀ {l : List α} {l2 : List β}, Paired F l l2 → Paired G l l2
  | _, _, .nil => .nil
  | _, _, .cons r t => .cons (f _ _ r) (awMap f t)
theorem awLen {α β : Type} {F : α → β → Prop} : ∀ {l : List α} {l2 : List β}, Paired F l l2 → l.length = l2.length
  | _, _, .nil => rfl
  | _, _, .cons _ t => congrArg (· + 1) (awLen t)
theorem awGet {α β : Type} {F : α → β → Prop} : ∀ {l : List α} {l2 : List β} {i : Nat} {x : α}, Paired F l l2 → l[i]? = some x → ∃ y, l2[i]? = some y ∧ F x y
  | _, _, _, _, .nil, e => by simp at e
  | _, _, 0, _, .cons r _, e => by
    simp only [List.getElem?_cons_zero, Option.some.injEq] at e
    subst e
    exact ⟨_, rfl, r⟩
  | _, _, i + 1, x, .cons _ t, e => by
    simp only [List.getElem?_cons_succ] at e ⊢
    exact awGet t e
theorem awGet2 {α β : Type} {F : α → β → Prop} {l : List α} {l2 : List β} {i : Nat} {y : β} (h : Paired F l l2) (e : l2[i]? = some y) : ∃ x, l[i]? = some x ∧ F x y := by
  have hi : i < l.length := by
    rw [awLen h]
    exact (List.getElem?_eq_some_iff.mp e).1
  obtain ⟨y2, e2, f⟩ := awGet h (List.getElem?_eq_getElem hi)
  rw [e] at e2
  obtain rfl := Option.some.inj e2
  exact ⟨_, List.getElem?_eq_getElem hi, f⟩
/-- deeds that stand in the heap as tuples -/
abbrev DsAt (H : Hp) : List Addr → List Deed → Prop := Paired fun r d => H r = some (.tup (dV d))
def RowAt (H : Hp) (R : Addr) (m : Int) (ds : List Deed) (o : Int) : Prop := ∃ D rs, H R = some (.tup [.int m, .ref D, .int o]) ∧ H D = some (.tup (rs.map V.ref)) ∧ DsAt H rs ds
structure DsOk (m : Int) (ds : List Deed) : Prop where
  each : ∀ (k : Nat) d, ds[k]? = some d → DeedOk (m + k) d
structure RowOk (m : Int) (ds : List Deed) (o : Int) : Prop where
  m1 : 1 ≤ m
  m3 : m ≤ 3
  len : ds.length ≤ 8
  deeds : DsOk m ds
  o0 : 0 ≤ o
  o1 : o < m + ds.length
/-- all tuples stand -/
def TupsStay (H H' : Hp) : Prop := ∀ b xs, H b = some (.tup xs) → H' b = some (.tup xs)
theorem Same.tups {H H' : Hp} (s : Same H H') : TupsStay H H' := fun b xs e => s b _ e
theorem Kp.tups {a c : Addr} {H H' : Hp} (k : Kp a c H H') (w : WL H a c) : TupsStay H H' := fun b xs e => k.tup w e
theorem TupsStay.trans {H H1 H2 : Hp} (a : TupsStay H H1) (b : TupsStay H1 H2) : TupsStay H H2 := fun c xs e => b c xs (a c xs e)
theorem tups_put {H : Hp} {l : Addr} {xs : List V} {o : HO} (h : H l = some (.lst xs)) : TupsStay H (upd H l o) := fun b ys e => by
  rw [upd_ne (ne_of e h (fun z => nomatch z))]
  exact e
theorem TupsStay.ds {H H' : Hp} (t : TupsStay H H') {rs : List Addr} {ds : List Deed} (h : DsAt H rs ds) : DsAt H' rs ds := awMap (fun r d e => t r _ e) h
theorem TupsStay.row {H H' : Hp} (t : TupsStay H H') {R : Addr} {m o : Int} {ds : List Deed} (h : RowAt H R m ds o) : RowAt H' R m ds o := by
  obtain ⟨D, rs, e1, e2, e3⟩ := h
  exact ⟨D, rs, t _ _ e1, t _ _ e2, t.ds e3⟩
theorem dsOk_snoc {m : Int} {ds : List Deed} {d : Deed} (h : DsOk m ds) (k : DeedOk (m + ds.length) d) : DsOk m (ds ++ [d]) := by
  constructor
  intro i d' e
  by_cases hi : i < ds.length
  · rw [List.getElem?_append_left hi] at e
    exact h.each i d' e
  · rw [List.getElem?_append_right (by omega)] at e
    obtain ⟨h1, h2⟩ := List.getElem?_eq_some_iff.mp e
    have h3 : i = ds.length := by simp only [List.length_cons, List.length_nil] at h1; omega
    subst h3
    simp at h2
    subst h2
    exact k
/-! ### data that is shown in few signs -/
structure Nice (b k : Nat) (d : PyData) : Prop where
  sh : d.showable = true
  lv : d.leavesShort 21 = true
  bk : d.bulk ≤ b
  dp : d.depth ≤ k
theorem Nice.fits {b k : Nat} {d : PyData} (h : Nice b k d) (hb : b ≤ 100000) : d.shown.length ≤ sizeLine := by
  have h1 := PyData.shown_le_bulk 21 (by decide) d h.lv
  have h2 := h.bk
  rw [sizeLine_eq]
  omega
theorem Nice.mono {b b2 k k2 : Nat} {d : PyData} (h : Nice b k d) (hb : b ≤ b2) (hk : k ≤ k2) : Nice b2 k2 d := ⟨h.sh, h.lv, Nat.le_trans h.bk hb, Nat.le_trans h.dp hk⟩
theorem nice_int {i : Int} (h : i.natAbs < 10 ^ 20) : Nice 0 0 (.int i) := by
  refine ⟨?_, ?_, ?_, ?_⟩
  · simp only [PyData.showable, decide_eq_true_eq]
    have : i.natAbs < 2 ^ 70 := Nat.lt_trans h (by decide)
    by_cases e : i.natAbs = 0
    · rw [e]; decide
    · have := (Nat.log2_lt e).mpr this
      omega
  · simp only [PyData.leavesShort, decide_eq_true_eq]
    have e := int_text_length_le10 (k := 20) (by decide) h
    simp only [PyData.shown]
    rw [PySem.ofString_length]
    exact e
  · simp only [PyData.bulk, Nat.le_refl]
  · simp only [PyData.depth, Nat.le_refl]
theorem nice_str {x : Str} {n : Nat} (h : x.cps.size ≤ n) (hx : (x.cps.toList.all fun c => decide (c < 16 ^ 8)) = true) : Nice n 0 (.str x) := by
  refine ⟨?_, ?_, ?_, ?_⟩
  · simp only [PyData.showable]
  · simp only [PyData.leavesShort]
    exact hx
  · simp only [PyData.bulk]
    exact h
  · simp only [PyData.depth, Nat.le_refl]
theorem nice_all {b k : Nat} : ∀ {xs : List PyData}, (∀ x ∈ xs, Nice b k x) → PyData.showableAll xs = true ∧ PyData.leavesShortAll 21 xs = true ∧ PyData.bulkAll xs ≤ xs.length * (b + 1) ∧ PyData.depthAll xs ≤ k
  | [], _ => ⟨by simp only [PyData.showableAll], by simp only [PyData.leavesShortAll], by simp only [PyData.bulkAll, Nat.zero_le], by simp only [PyData.depthAll, Nat.zero_le]⟩
  | x :: xs, h => by
    obtain ⟨h1, h2, h3, h4⟩ := nice_all fun y hy => h y (List.mem_cons_of_mem _ hy)
    obtain ⟨g1, g2, g3, g4⟩ := h x List.mem_cons_self
    refine ⟨by simp only [PyData.showableAll, g1, h1, Bool.and_self], by simp only [PyData.leavesShortAll, g2, h2, Bool.and_self], ?_, ?_⟩
    · simp only [PyData.bulkAll, List.length_cons, Nat.add_mul, Nat.one_mul]
      omega
    · simp only [PyData.depthAll]
      omega
theorem nice_tup {b k n : Nat} {xs : List PyData} (h : ∀ x ∈ xs, Nice b k x) (hn : xs.length * (b + 1) ≤ n) : Nice n (k + 1) (.tuple xs) := by
  obtain ⟨h1, h2, h3, h4⟩ := nice_all h
  exact ⟨by simpa only [PyData.showable] using h1, by simpa only [PyData.leavesShort] using h2, by simp only [PyData.bulk]; omega, by simp only [PyData.depth]; omega⟩
theorem nice_lst {b k n : Nat} {xs : List PyData} (h : ∀ x ∈ xs, Nice b k x) (hn : xs.length * (b + 1) ≤ n) : Nice n (k + 1) (.list xs) := by
  obtain ⟨h1, h2, h3, h4⟩ := nice_all h
  exact ⟨by simpa only [PyData.showable] using h1, by simpa only [PyData.leavesShort] using h2, by simp only [PyData.bulk]; omega, by simp only [PyData.depth]; omega⟩
def deedD (d : Deed) : PyData := .tuple (.str d.1 :: d.2.map PyData.int)
def rowD (m : Int) (ds : List Deed) (o : Int) : PyData := .tuple [.int m, .tuple (ds.map deedD), .int o]
theorem fw_short : ∀ p ∈ fwL, p.1.cps.size ≤ 5 ∧ (p.1.cps.toList.all fun c => decide (c < 16 ^ 8)) = true ∧ p.2 ≤ 2 := by decide +kernel
theorem nice_deed {m : Int} {d : Deed} (h : DeedOk m d) (hm : m ≤ 100) : Nice 18 1 (deedD d) := by
  obtain ⟨h1, h2, h3⟩ := fw_short _ h.word
  refine nice_tup (b := 5) (k := 0) (fun x hx => ?_) ?_
  · rcases List.mem_cons.mp hx with rfl | hx
    · exact nice_str h1 h2
    · obtain ⟨i, hi, rfl⟩ := List.mem_map.mp hx
      obtain ⟨i0, i1⟩ := h.ahead i hi
      exact (nice_int (by omega)).mono (by decide) (by decide)
  · rw [List.length_cons, List.length_map]
    have : (d.2.length : Int) ≤ 2 := h3
    omega
theorem nice_row {m o : Int} {ds : List Deed} (h : RowOk m ds o) : Nice 459 3 (rowD m ds o) := by
  have hm := h.m1
  have hm3 := h.m3
  have hl := h.len
  have ho := h.o0
  have ho1 := h.o1
  refine nice_tup (b := 152) (k := 2) (fun x hx => ?_) (by simp only [List.length_cons, List.length_nil]; decide)
  simp only [List.mem_cons, List.not_mem_nil, or_false] at hx
  rcases hx with rfl | rfl | rfl
  · exact (nice_int (by omega)).mono (by decide) (by decide)
  · refine nice_tup (b := 18) (k := 1) (fun x hx => ?_) ?_
    · obtain ⟨d, hd, rfl⟩ := List.mem_map.mp hx
      obtain ⟨k, hk⟩ := List.mem_iff_getElem?.mp hd
      have hk1 := (List.getElem?_eq_some_iff.mp hk).1
      exact nice_deed (h.deeds.each k d hk) (by omega)
    · rw [List.length_map]
      omega
  · exact (nice_int (by omega)).mono (by decide) (by decide)
/-! ### what the row reads -/
section
variable {X : Cx}
theorem rz_ints (H : Hp) : ∀ l : List Int, Paired (Rz X H) (l.map V.int) (l.map PyData.int)
  | [] => .nil
  | i :: l => .cons (Rz.int H i) (rz_ints H l)
theorem rz_deed {H : Hp} {r : Addr} {d : Deed} (h : H r = some (.tup (dV d))) : Rz X H (.ref r) (deedD d) := Rz.tup (SqT.of h) (.cons (Rz.str H _) (rz_ints H _))
theorem rz_deeds {H : Hp} : ∀ {rs : List Addr} {ds : List Deed}, DsAt H rs ds → Paired (Rz X H) (rs.map V.ref) (ds.map deedD)
  | _, _, .nil => .nil
  | _, _, .cons h t => .cons (rz_deed h) (rz_deeds t)
theorem rz_row {H : Hp} {R : Addr} {m o : Int} {ds : List Deed} (h : RowAt H R m ds o) : Rz X H (.ref R) (rowD m ds o) := by
  obtain ⟨D, rs, e1, e2, e3⟩ := h
  exact Rz.tup (SqT.of e1) (.cons (Rz.int H m) (.cons (Rz.tup (SqT.of e2) (rz_deeds e3)) (.cons (Rz.int H o) .nil)))
/-- a dict of texts and ints -/
abbrev siK (es : List (Str × Int)) : List (Key × V) := es.map fun p => (Sum.inr p.1, .int p.2)
theorem si_reads {prog : Program} {w : World} {h : Heap} : ∀ (es : List (Str × Int)) (vs : List (Key × Value)) (en : List DictEntry), KV (siK es) vs → Pairs (mixKind prog w) en vs →
    ReadsAll h (en.map (·.key)) ((es.map fun p => (PyData.str p.1, PyData.int p.2)).map (·.1)) [] ∧ ReadsAll h (en.map (·.val)) ((es.map fun p => (PyData.str p.1, PyData.int p.2)).map (·.2)) []
  | [], _, _, .nil, .nil => ⟨.nil, .nil⟩
  | (x, i) :: es, _, _, .cons hh t, .cons hk hv hp => by
    obtain ⟨h1, h2⟩ := si_reads es _ _ t hp
    obtain ⟨k1, t1, e1⟩ := hh
    rw [← k1] at hk
    obtain ⟨t2, e2⟩ := Value.isStrOf_shape (x := x) hk
    refine ⟨?_, ?_⟩
    · simp only [List.map_cons]
      rw [e2]
      exact ReadsAll.cons (as := []) (Reads.str x t2) h1
    · simp only [List.map_cons]
      rw [hv, e1]
      exact ReadsAll.cons (as := []) (Reads.int i t1) h2
theorem rz_dict {H : Hp} {C : Addr} {es : List (Str × Int)} (h : H C = some (.dK (siK es))) : Rz X H (.ref C) (.dict (es.map fun p => (PyData.str p.1, PyData.int p.2))) := by
  intro pins σ s u I r
  obtain rfl : u = Value.ref C := r
  obtain ⟨_, hs, vs, hkv, o, en, ep, e1, e2, e3, e4, e5, e6⟩ := I.hok C _ h
  obtain ⟨r1, r2⟩ := si_reads (prog := X.prog) (w := X.w) (h := s.heap) es vs _ hkv e5
  refine ⟨_, Reads.dict e1 e2.1 e3 r1 r2, ?_⟩
  intro z
  simp only [List.append_nil, List.mem_cons, List.not_mem_nil, or_false] at z
  rw [← z] at hs
  simp at hs
end
theorem nice_dict {n : Nat} : ∀ {es : List (Str × Int)}, (∀ p ∈ es, p.1.cps.size ≤ 5 ∧ (p.1.cps.toList.all fun c => decide (c < 16 ^ 8)) = true ∧ p.2.natAbs < 10 ^ 20) → es.length * 7 ≤ n →
    Nice n 1 (.dict (es.map fun p => (PyData.str p.1, PyData.int p.2))) := by
  intro es h hn
  have key : ∀ es : List (Str × Int), (∀ p ∈ es, p.1.cps.size ≤ 5 ∧ (p.1.cps.toList.all fun c => decide (c < 16 ^ 8)) = true ∧ p.2.natAbs < 10 ^ 20) →
      PyData.showableKv (es.map fun p => (PyData.str p.1, PyData.int p.2)) = true ∧ PyData.leavesShortKv 21 (es.map fun p => (PyData.str p.1, PyData.int p.2)) = true ∧ PyData.bulkKv (es.map fun p => (PyData.str p.1, PyData.int p.2)) ≤ es.length * 7 ∧ PyData.depthKv (es.map fun p => (PyData.str p.1, PyData.int p.2)) = 0 := by
    intro es
    induction es with
    | nil => intro _; exact ⟨by simp only [List.map_nil, PyData.showableKv], by simp only [List.map_nil, PyData.leavesShortKv], by simp only [List.map_nil, PyData.bulkKv, Nat.zero_le], by simp only [List.map_nil, PyData.depthKv]⟩
    | cons p es ih =>
      intro h
      obtain ⟨h1, h2, h3, h4⟩ := ih fun q hq => h q (List.mem_cons_of_mem _ hq)
      obtain ⟨a, b, c⟩ := h p List.mem_cons_self
      obtain ⟨i1, i2, i3, i4⟩ := nice_int c
      obtain ⟨s1, s2, s3, s4⟩ := nice_str a b
      refine ⟨by simp only [List.map_cons, PyData.showableKv, i1, s1, h1, Bool.and_self], by simp only [List.map_cons, PyData.leavesShortKv, i2, s2, h2, Bool.and_self], ?_, ?_⟩
      · simp only [List.map_cons, PyData.bulkKv, List.length_cons]
        omega
      · simp only [List.map_cons, PyData.depthKv]
        omega
  obtain ⟨h1, h2, h3, h4⟩ := key es h
  exact ⟨by simpa only [PyData.showable] using h1, by simpa only [PyData.leavesShort] using h2, by simp only [PyData.bulk]; omega, by simp only [PyData.depth]; omega⟩
/-! ### values of rows -/
theorem strEq {x y : Str} (h : decide (V.str x = V.str y) = true) : x = y := V.str.inj (of_decide_eq_true h)
theorem strNe {x y : Str} (h : ¬ decide (V.str x = V.str y) = true) : ¬ x = y := fun e => h (decide_eq_true (congrArg V.str e))
def argAt (d : Deed) (told : List Int) (k : Nat) : Int := told.getD (d.2.getD k 0).toNat 0
def dvalue (x : Str) (A B size : Int) : Int :=
  if x = "none" then 0 else if x = "one" then 1 else if x = "all" then size - 1 else if x = "not" then size - 1 - A else if x = "neg" then -A else if x = "twice" then A + A
  else if x = "and" then Builtin.bitAnd A B else if x = "or" then Builtin.bitOr A B else if x = "xor" then Builtin.bitXor A B else if x = "add" then A + B else A - B
def dval (size : Int) (d : Deed) (told : List Int) : Int := dvalue d.1 (argAt d told 0) (argAt d told 1) size % size
def vals (size : Int) : List Deed → List Int → List Int
  | [], told => told
  | d :: ds, told => vals size ds (told ++ [dval size d told])
theorem vals_append (size : Int) : ∀ (l1 l2 : List Deed) (t : List Int), vals size (l1 ++ l2) t = vals size l2 (vals size l1 t)
  | [], _, _ => rfl
  | d :: l1, l2, t => vals_append size l1 l2 (t ++ [dval size d t])
theorem vals_len {size : Int} : ∀ (ds : List Deed) (t : List Int), (vals size ds t).length = t.length + ds.length
  | [], _ => rfl
  | d :: ds, t => by
    show (vals size ds (t ++ [dval size d t])).length = _
    rw [vals_len ds, List.length_append, List.length_cons, List.length_cons, List.length_nil]
    omega
theorem vals_next {size : Int} {ds : List Deed} {i : Nat} {d : Deed} {t : List Int} (h : ds[i]? = some d) : vals size (ds.take (i + 1)) t = vals size (ds.take i) t ++ [dval size d (vals size (ds.take i) t)] := by
  rw [List.take_add_one, h, vals_append]
  rfl
theorem atI_ints {l : List Int} {o : Int} (h0 : 0 ≤ o) (h1 : o < l.length) : atI (l.map V.int) o = some (.int (l.getD o.toNat 0)) := by
  obtain ⟨k, rfl⟩ := Int.eq_ofNat_of_zero_le h0
  have hk : k < l.length := by omega
  apply atI_nat
  rw [List.getElem?_map, List.getElem?_eq_getElem hk, Int.toNat_natCast, List.getD_eq_getElem?_getD, List.getElem?_eq_getElem hk]
  rfl
theorem fw_one : ∀ p ∈ fwL, ¬ p.1 = "none" → ¬ p.1 = "one" → ¬ p.1 = "all" → 1 ≤ p.2 := by decide +kernel
theorem fw_two' : ∀ p ∈ fwL, (decide (p.1 ∈ (["none", "one", "all", "not", "neg", "twice"] : List Str)) || decide (2 ≤ p.2)) = true := by decide +kernel
theorem fw_two (p : Str × Int) (h : p ∈ fwL) (n1 : ¬ p.1 = "none") (n2 : ¬ p.1 = "one") (n3 : ¬ p.1 = "all") (n4 : ¬ p.1 = "not") (n5 : ¬ p.1 = "neg") (n6 : ¬ p.1 = "twice") : 2 ≤ p.2 := by
  have e := fw_two' p h
  rw [Bool.or_eq_true] at e
  rcases e with e | e
  · have e2 := of_decide_eq_true e
    simp only [List.mem_cons, List.not_mem_nil, or_false] at e2
    rcases e2 with e2 | e2 | e2 | e2 | e2 | e2
    · exact absurd e2 n1
    · exact absurd e2 n2
    · exact absurd e2 n3
    · exact absurd e2 n4
    · exact absurd e2 n5
    · exact absurd e2 n6
  · exact of_decide_eq_true e
theorem arg_of {d : Deed} {told : List Int} (h : DeedOk told.length d) {k : Nat} (hk : k < d.2.length) : ∃ i, d.2[k]? = some i ∧ 0 ≤ i ∧ atI (told.map V.int) i = some (.int (argAt d told k)) := by
  have hg := List.getElem?_eq_getElem hk
  obtain ⟨i0, i1⟩ := h.ahead _ (List.getElem_mem hk)
  refine ⟨d.2[k], hg, i0, ?_⟩
  rw [atI_ints i0 i1]
  unfold argAt
  rw [List.getD_eq_getElem?_getD (l := d.2), hg]
  rfl
theorem arg1 {d : Deed} {told : List Int} (h : DeedOk told.length d) (n1 : ¬ d.1 = "none") (n2 : ¬ d.1 = "one") (n3 : ¬ d.1 = "all") : ∃ i, d.2[0]? = some i ∧ 0 ≤ i ∧ atI (told.map V.int) i = some (.int (argAt d told 0)) :=
  arg_of h (by have := fw_one _ h.word n1 n2 n3; show 0 < d.2.length; have e : (1 : Int) ≤ (d.2.length : Int) := this; omega)
theorem arg2 {d : Deed} {told : List Int} (h : DeedOk told.length d) (n1 : ¬ d.1 = "none") (n2 : ¬ d.1 = "one") (n3 : ¬ d.1 = "all") (n4 : ¬ d.1 = "not") (n5 : ¬ d.1 = "neg") (n6 : ¬ d.1 = "twice") :
    ∃ i, d.2[1]? = some i ∧ 0 ≤ i ∧ atI (told.map V.int) i = some (.int (argAt d told 1)) :=
  arg_of h (by have := fw_two _ h.word n1 n2 n3 n4 n5 n6; show 1 < d.2.length; have e : (2 : Int) ≤ (d.2.length : Int) := this; omega)
/-! ### the low bits of values -/
theorem pw_cast (n : Nat) : (2 : Int) ^ n = ((2 ^ n : Nat) : Int) := (PySem.W.kbt_cast n).symm
theorem pw_le {n k : Nat} (h : n ≤ k) : (2 : Int) ^ n ≤ 2 ^ k := by
  rw [pw_cast, pw_cast]
  exact Int.ofNat_le.mpr (Nat.pow_le_pow_right (by decide) h)
theorem pw_pos (n : Nat) : (0 : Int) < 2 ^ n := Int.pow_pos (by decide)
theorem castMod (a n : Nat) : ((a : Int) % 2 ^ n) = ((a % 2 ^ n : Nat) : Int) := by rw [pw_cast, Int.natCast_emod]
theorem low_and {A B : Int} (n : Nat) (ha : 0 ≤ A) (hb : 0 ≤ B) : Builtin.bitAnd (A % 2 ^ n) (B % 2 ^ n) % 2 ^ n = Builtin.bitAnd A B % 2 ^ n := by
  obtain ⟨a, rfl⟩ := Int.eq_ofNat_of_zero_le ha
  obtain ⟨b, rfl⟩ := Int.eq_ofNat_of_zero_le hb
  rw [castMod, castMod, bitAnd_pp (Int.natCast_nonneg _) (Int.natCast_nonneg _), bitAnd_pp (Int.natCast_nonneg _) (Int.natCast_nonneg _), castMod, castMod]
  simp only [Int.toNat_natCast]
  rw [Nat.and_mod_two_pow, Nat.and_mod_two_pow, Nat.mod_mod, Nat.mod_mod]
theorem low_or {A B : Int} (n : Nat) (ha : 0 ≤ A) (hb : 0 ≤ B) : Builtin.bitOr (A % 2 ^ n) (B % 2 ^ n) % 2 ^ n = Builtin.bitOr A B % 2 ^ n := by
  obtain ⟨a, rfl⟩ := Int.eq_ofNat_of_zero_le ha
  obtain ⟨b, rfl⟩ := Int.eq_ofNat_of_zero_le hb
  rw [castMod, castMod, bitOr_nn (Int.natCast_nonneg _) (Int.natCast_nonneg _), bitOr_nn (Int.natCast_nonneg _) (Int.natCast_nonneg _), castMod, castMod]
  simp only [Int.toNat_natCast]
  rw [Nat.or_mod_two_pow, Nat.or_mod_two_pow, Nat.mod_mod, Nat.mod_mod]
theorem low_xor {A B : Int} (n : Nat) (ha : 0 ≤ A) (hb : 0 ≤ B) : Builtin.bitXor (A % 2 ^ n) (B % 2 ^ n) % 2 ^ n = Builtin.bitXor A B % 2 ^ n := by
  obtain ⟨a, rfl⟩ := Int.eq_ofNat_of_zero_le ha
  obtain ⟨b, rfl⟩ := Int.eq_ofNat_of_zero_le hb
  rw [castMod, castMod, Bits.bitXor_pp (Int.natCast_nonneg _) (Int.natCast_nonneg _), Bits.bitXor_pp (Int.natCast_nonneg _) (Int.natCast_nonneg _), castMod, castMod]
  simp only [Int.toNat_natCast]
  rw [Nat.xor_mod_two_pow, Nat.xor_mod_two_pow, Nat.mod_mod, Nat.mod_mod]
theorem pw_dvd {n k : Nat} (h : n ≤ k) : (2 : Int) ^ n ∣ 2 ^ k := ⟨2 ^ (k - n), by rw [← Int.pow_add]; congr 1; omega⟩
theorem emod_same {a b m : Int} (k : Int) (h : a - b = m * k) : a % m = b % m := Int.emod_eq_emod_iff_emod_sub_eq_zero.mpr (by rw [h]; exact Int.mul_emod_right m k)
theorem dvalue_low' {x : Str} {N c qa qb ra rb A B : Int} (ea : N * qa + ra = A) (eb : N * qb + rb = B) (l1 : Builtin.bitAnd ra rb % N = Builtin.bitAnd A B % N) (l2 : Builtin.bitOr ra rb % N = Builtin.bitOr A B % N)
    (l3 : Builtin.bitXor ra rb % N = Builtin.bitXor A B % N) : dvalue x ra rb N % N = dvalue x A B (N * c) % N := by
  unfold dvalue
  by_cases h1 : x = "none"
  · rw [if_pos h1, if_pos h1]
  rw [if_neg h1, if_neg h1]
  by_cases h2 : x = "one"
  · rw [if_pos h2, if_pos h2]
  rw [if_neg h2, if_neg h2]
  by_cases h3 : x = "all"
  · rw [if_pos h3, if_pos h3]
    exact emod_same (1 - c) (by rw [Int.mul_sub, Int.mul_one]; omega)
  rw [if_neg h3, if_neg h3]
  by_cases h4 : x = "not"
  · rw [if_pos h4, if_pos h4]
    exact emod_same (1 - c + qa) (by rw [Int.mul_add, Int.mul_sub, Int.mul_one]; omega)
  rw [if_neg h4, if_neg h4]
  by_cases h5 : x = "neg"
  · rw [if_pos h5, if_pos h5]
    exact emod_same qa (by omega)
  rw [if_neg h5, if_neg h5]
  by_cases h6 : x = "twice"
  · rw [if_pos h6, if_pos h6]
    exact emod_same (-qa - qa) (by rw [Int.mul_sub, Int.mul_neg]; omega)
  rw [if_neg h6, if_neg h6]
  by_cases h7 : x = "and"
  · rw [if_pos h7, if_pos h7]
    exact l1
  rw [if_neg h7, if_neg h7]
  by_cases h8 : x = "or"
  · rw [if_pos h8, if_pos h8]
    exact l2
  rw [if_neg h8, if_neg h8]
  by_cases h9 : x = "xor"
  · rw [if_pos h9, if_pos h9]
    exact l3
  rw [if_neg h9, if_neg h9]
  by_cases h10 : x = "add"
  · rw [if_pos h10, if_pos h10]
    exact emod_same (-qa - qb) (by rw [Int.mul_sub, Int.mul_neg]; omega)
  rw [if_neg h10, if_neg h10]
  exact emod_same (qb - qa) (by rw [Int.mul_sub]; omega)
theorem dvalue_low {x : Str} {A B : Int} {n k : Nat} (hA : 0 ≤ A) (hB : 0 ≤ B) (h : n ≤ k) : dvalue x (A % 2 ^ n) (B % 2 ^ n) (2 ^ n) % 2 ^ n = dvalue x A B (2 ^ k) % 2 ^ n := by
  obtain ⟨c, hc⟩ := pw_dvd h
  rw [hc]
  exact dvalue_low' (Int.mul_ediv_add_emod A (2 ^ n)) (Int.mul_ediv_add_emod B (2 ^ n)) (low_and n hA hB) (low_or n hA hB) (low_xor n hA hB)
theorem getD_low (N : Int) (l : List Int) (i : Nat) : (l.map (· % N)).getD i 0 = l.getD i 0 % N := by
  rw [List.getD_eq_getElem?_getD, List.getD_eq_getElem?_getD, List.getElem?_map]
  cases l[i]? with
  | none => exact (Int.zero_emod N).symm
  | some y => rfl
theorem arg_nn {told : List Int} (h : ∀ x ∈ told, 0 ≤ x) (d : Deed) (j : Nat) : 0 ≤ argAt d told j := by
  unfold argAt
  rw [List.getD_eq_getElem?_getD]
  cases e : told[(d.2.getD j 0).toNat]? with
  | none => exact Int.le_refl 0
  | some y => exact h y (List.mem_of_getElem? e)
theorem dval_low {d : Deed} {told : List Int} {n k : Nat} (h : ∀ x ∈ told, 0 ≤ x) (hk : n ≤ k) : dval (2 ^ n) d (told.map (· % 2 ^ n)) = dval (2 ^ k) d told % 2 ^ n := by
  unfold dval
  have e : ∀ j, argAt d (told.map (· % 2 ^ n)) j = argAt d told j % 2 ^ n := fun j => getD_low _ _ _
  rw [e, e, dvalue_low (arg_nn h d 0) (arg_nn h d 1) hk, Int.emod_emod_of_dvd _ (pw_dvd hk)]
theorem vals_low {n k : Nat} (hk : n ≤ k) : ∀ (ds : List Deed) (told : List Int), (∀ x ∈ told, 0 ≤ x) → vals (2 ^ n) ds (told.map (· % 2 ^ n)) = (vals (2 ^ k) ds told).map (· % 2 ^ n)
  | [], _, _ => rfl
  | d :: ds, told, h => by
    show vals (2 ^ n) ds (told.map (· % 2 ^ n) ++ [dval (2 ^ n) d (told.map (· % 2 ^ n))]) = (vals (2 ^ k) ds (told ++ [dval (2 ^ k) d told])).map (· % 2 ^ n)
    rw [dval_low h hk, ← vals_low hk ds, List.map_append]
    · rfl
    · intro x hx
      rcases List.mem_append.mp hx with hx | hx
      · exact h x hx
      · rw [List.mem_singleton.mp hx]
        exact Int.emod_nonneg _ (by have := pw_pos k; omega)
theorem vals_range {size : Int} (hs : 0 < size) : ∀ (ds : List Deed) (told : List Int), (∀ x ∈ told, 0 ≤ x ∧ x < size) → ∀ x ∈ vals size ds told, 0 ≤ x ∧ x < size
  | [], _, h => h
  | d :: ds, told, h => by
    refine vals_range hs ds (told ++ [dval size d told]) fun x hx => ?_
    rcases List.mem_append.mp hx with hx | hx
    · exact h x hx
    · rw [List.mem_singleton.mp hx]
      exact ⟨Int.emod_nonneg _ (by omega), Int.emod_lt_of_pos _ hs⟩
/-! ### lists of ints compared -/
theorem eqv_ints : ∀ l : List Int, PyData.eqv (.list (l.map PyData.int)) (.list (l.map PyData.int)) = true := fun l => SeqAt.eqv_refl _ (SeqAt.canLay_of_shaped (shaped_ints l))
theorem dget_at {H : Hp} {a : Addr} {kvs : List (Key × V)} {k : Key} {v : V} (e : H a = some (.dK kvs)) (h : valV kvs k = some v) : DGet H a (kV k) (some v) := h ▸ DGet.k e
theorem fw_cases {x : Str} {n : Nat} (h : (x, (n : Int)) ∈ fwL) : (n = 0 ∧ (x = "none" ∨ x = "one" ∨ x = "all")) ∨ (n = 1 ∧ (x = "not" ∨ x = "neg" ∨ x = "twice")) ∨ (n = 2 ∧ (x = "and" ∨ x = "or" ∨ x = "xor" ∨ x = "add" ∨ x = "sub")) := by
  unfold fwL at h
  simp only [List.mem_cons, List.not_mem_nil, or_false, Prod.mk.injEq] at h
  rcases h with h | h | h | h | h | h | h | h | h | h | h
  · exact .inl ⟨by omega, .inl h.1⟩
  · exact .inl ⟨by omega, .inr (.inl h.1)⟩
  · exact .inl ⟨by omega, .inr (.inr h.1)⟩
  · exact .inr (.inl ⟨by omega, .inl h.1⟩)
  · exact .inr (.inl ⟨by omega, .inr (.inl h.1)⟩)
  · exact .inr (.inl ⟨by omega, .inr (.inr h.1)⟩)
  · exact .inr (.inr ⟨by omega, .inl h.1⟩)
  · exact .inr (.inr ⟨by omega, .inr (.inl h.1)⟩)
  · exact .inr (.inr ⟨by omega, .inr (.inr (.inl h.1))⟩)
  · exact .inr (.inr ⟨by omega, .inr (.inr (.inr (.inl h.1)))⟩)
  · exact .inr (.inr ⟨by omega, .inr (.inr (.inr (.inr h.1)))⟩)
theorem and_lt {A B : Int} {n : Nat} (a0 : 0 ≤ A) (a1 : A < 2 ^ n) (b0 : 0 ≤ B) : Builtin.bitAnd A B % 2 ^ n = Builtin.bitAnd A B := by
  obtain ⟨a, rfl⟩ := Int.eq_ofNat_of_zero_le a0
  obtain ⟨b, rfl⟩ := Int.eq_ofNat_of_zero_le b0
  rw [bitAnd_pp (Int.natCast_nonneg _) (Int.natCast_nonneg _), castMod]
  rw [pw_cast] at a1
  simp only [Int.toNat_natCast]
  rw [Nat.mod_eq_of_lt (Nat.lt_of_le_of_lt Nat.and_le_left (by omega))]
theorem or_lt {A B : Int} {n : Nat} (a0 : 0 ≤ A) (a1 : A < 2 ^ n) (b0 : 0 ≤ B) (b1 : B < 2 ^ n) : Builtin.bitOr A B % 2 ^ n = Builtin.bitOr A B := by
  obtain ⟨a, rfl⟩ := Int.eq_ofNat_of_zero_le a0
  obtain ⟨b, rfl⟩ := Int.eq_ofNat_of_zero_le b0
  rw [bitOr_nn (Int.natCast_nonneg _) (Int.natCast_nonneg _), castMod]
  rw [pw_cast] at a1 b1
  simp only [Int.toNat_natCast]
  rw [Nat.mod_eq_of_lt (Nat.or_lt_two_pow (by omega) (by omega))]
theorem xor_lt {A B : Int} {n : Nat} (a0 : 0 ≤ A) (a1 : A < 2 ^ n) (b0 : 0 ≤ B) (b1 : B < 2 ^ n) : Builtin.bitXor A B % 2 ^ n = Builtin.bitXor A B := by
  obtain ⟨a, rfl⟩ := Int.eq_ofNat_of_zero_le a0
  obtain ⟨b, rfl⟩ := Int.eq_ofNat_of_zero_le b0
  rw [Bits.bitXor_pp (Int.natCast_nonneg _) (Int.natCast_nonneg _), castMod]
  rw [pw_cast] at a1 b1
  simp only [Int.toNat_natCast]
  rw [Nat.mod_eq_of_lt (Nat.xor_lt_two_pow (by omega) (by omega))]
/-! ### all but the first -/
theorem sIx_one (x : V) (xs : List V) : HT.sIx (x :: xs).length 0 (some 1) = 1 := by
  have e : HT.sIx (x :: xs).length 0 (some 1) = min 1 (x :: xs).length := HT.sIx_nat (x :: xs).length 0 1
  rw [e, List.length_cons]
  omega
theorem cutTail (x : V) (xs : List V) : cutV (x :: xs) (some 1) none = xs := by
  have h2 : HT.sIx (x :: xs).length (x :: xs).length none = (x :: xs).length := HT.sIx_none _ _
  unfold cutV
  rw [sIx_one, h2]
  simp
theorem notWhole (x : V) (xs : List V) : ¬ (HT.sIx (x :: xs).length 0 (some 1) = 0 ∧ HT.sIx (x :: xs).length (x :: xs).length none = (x :: xs).length) := by
  rw [sIx_one]
  exact fun h => absurd h.1 (by decide)
theorem intEq {x y : Int} (h : decide (V.int x = V.int y) = true) : x = y := V.int.inj (of_decide_eq_true h)
theorem intNe {x y : Int} (h : ¬ decide (V.int x = V.int y) = true) : ¬ x = y := fun e => h (decide_eq_true (congrArg V.int e))
/-! ### t + u of two tuples at hand, whatever they hold -/
section
variable {X : Cx}
def rCatZ : R2 := fun x y H Q => ∃ a b xs ys, x = .ref a ∧ y = .ref b ∧ H a = some (.tup xs) ∧ H b = some (.tup ys) ∧ xs.length + ys.length ≤ sizeLine ∧ ∀ p H2, Same H H2 → H2 p = some (.tup (xs ++ ys)) → Q (.ref p) H2
theorem op_catZ : OpR X (binaryOp .Add) rCatZ := by
  intro pins s σ H x y v u Q I rx ry h
  obtain ⟨a, b, xs, ys, rfl, rfl, ha, hb, hz, q⟩ := h
  refine op_catA pins s σ H _ _ v u Q I rx ry ⟨a, b, xs, ys, rfl, rfl, SqT.of ha, SqT.of hb, hz, fun e => ?_, fun _ e => ?_, fun _ _ p hp => ?_⟩
  · subst e
    exact q b H (Same.refl H) hb
  · subst e
    exact q a H (Same.refl H) (by rw [List.append_nil]; exact ha)
  · exact q p _ (same_new hp) upd_same
end
theorem awAppend {α β : Type} {F : α → β → Prop} : ∀ {l k : List α} {l2 k2 : List β}, Paired F l l2 → Paired F k k2 → Paired F (l ++ k) (l2 ++ k2)
  | _, _, _, _, .nil, h => h
  | _, _, _, _, .cons r t, h => .cons r (awAppend t h)
theorem dsOk_append {m t : Int} {ds es : List Deed} (h : DsOk m ds) (k : DsOk t es) (e : t = m + ds.length) : DsOk m (ds ++ es) := by
  constructor
  intro i d hi
  by_cases hl : i < ds.length
  · rw [List.getElem?_append_left hl] at hi
    exact h.each i d hi
  · rw [List.getElem?_append_right (by omega)] at hi
    have := k.each _ d hi
    rw [e] at this
    have e2 : m + (ds.length : Int) + ((i - ds.length : Nat) : Int) = m + i := by omega
    rw [e2] at this
    exact this
/-- all but one stands as it stood -/
def But (f : Addr) (H H2 : Hp) : Prop := ∀ b o, b ≠ f → H b = some o → H2 b = some o
theorem But.trans {f : Addr} {H H1 H2 : Hp} (a : But f H H1) (b : But f H1 H2) : But f H H2 := fun c o n e => b c o n (a c o n e)
theorem But.same {f : Addr} {H H2 : Hp} (s : Same H H2) : But f H H2 := fun b o _ e => s b o e
theorem But.put {f : Addr} {H : Hp} {o : HO} : But f H (upd H f o) := fun b u n e => by
  rw [upd_ne n]
  exact e
theorem But.tups {f : Addr} {H H2 : Hp} {xs : List V} (h : But f H H2) (e : H f = some (.lst xs)) : TupsStay H H2 := fun b ys z => h b _ (ne_of z e (fun q => nomatch q)) z
/-! ### the tape -/
def TP (H : Hp) (a : Addr) : Prop := ∃ x y : Int, H a = some (.lst [.int x, .int y])
theorem TP.same {H H2 : Hp} {a : Addr} (h : TP H a) (s : Same H H2) : TP H2 a := by
  obtain ⟨x, y, e⟩ := h
  exact ⟨x, y, s _ _ e⟩
theorem TP.ne_new {H : Hp} {a p : Addr} (h : TP H a) (e : H p = none) : p ≠ a := by
  obtain ⟨x, y, e1⟩ := h
  exact (ne_of_none e1 e).symm
theorem TP.upd {H : Hp} {a p : Addr} {o : HO} (h : TP H a) (n : p ≠ a) : TP (upd H p o) a := by
  obtain ⟨x, y, e1⟩ := h
  exact ⟨x, y, by rw [upd_ne n.symm]; exact e1⟩
theorem But.tape {a : Addr} {H H2 : Hp} (h : But a H H2) (t : TP H a) : TupsStay H H2 := by
  obtain ⟨x, y, e⟩ := t
  exact h.tups e
theorem But.refl (a : Addr) (H : Hp) : But a H H := fun _ _ _ e => e
theorem atI_in {α : Type} {l : List α} {i : Int} (h0 : 0 ≤ i) (h1 : i < l.length) : ∃ v, atI l i = some v ∧ v ∈ l := by
  obtain ⟨k, rfl⟩ := Int.eq_ofNat_of_zero_le h0
  have hk : k < l.length := by omega
  exact ⟨l[k], atI_nat (List.getElem?_eq_getElem hk), List.getElem_mem hk⟩
/-! ### texts in written tuples -/
theorem inS (x : Str) : ∀ l : List Str, inV (.str x) (l.map V.str) = decide (x ∈ l)
  | [] => rfl
  | y :: l => by
    have ih := inS x l
    show (eqV (.str y) (.str x) || inV (.str x) (l.map V.str)) = _
    rw [ih]
    by_cases h : x = y
    · subst h
      simp [eqV]
    · have h2 : ¬ y = x := fun e => h e.symm
      simp [eqV, h, h2]
def tw12 : List Str := ["add", "sub", "and", "xor", "or", "not", "twice", "neg", "all", "one", "none", "add"]
def twC : List Str := ["add", "sub", "twice", "neg", "one"]
theorem tw_zero : ∀ x ∈ (["all", "one", "none"] : List Str), (x, (0 : Int)) ∈ fwL := by decide +kernel
theorem tw_one : ∀ x ∈ (["not", "twice", "neg"] : List Str), (x, (1 : Int)) ∈ fwL := by decide +kernel
theorem tw_two : ∀ x ∈ tw12, x ∈ (["all", "one", "none"] : List Str) ∨ x ∈ (["not", "twice", "neg"] : List Str) ∨ (x, (2 : Int)) ∈ fwL := by decide +kernel
theorem tw_four : ∀ x ∈ (["and", "or", "xor", "not"] : List Str), x ∈ tw12 := by decide +kernel
theorem mem_strs {v : V} {l : List Str} (h : v ∈ l.map V.str) : ∃ x, x ∈ l ∧ v = .str x := by
  obtain ⟨x, hx, e⟩ := List.mem_map.mp h
  exact ⟨x, hx, e.symm⟩
/-! ### bits and carries of rows -/
def fcD (d : Deed) : Int := if d.1 ∈ (["neg", "one"] : List Str) then 1 else 0
def dbit (x : Str) (a b c : Int) : Int :=
  if x = "none" then 0 else if x = "all" then 1 else if x = "one" then c else if x = "twice" then c else if x = "not" then 1 - a else if x = "neg" then Builtin.bitXor (1 - a) c
  else if x = "and" then Builtin.bitAnd a b else if x = "or" then Builtin.bitOr a b else if x = "xor" then Builtin.bitXor a b else Builtin.bitXor (Builtin.bitXor a b) c
def dcar (x : Str) (a b c : Int) : Int :=
  if x = "neg" then Builtin.bitAnd (1 - a) c else if x = "twice" then a else if x = "add" then (a + b + c) / 2 else if x = "sub" then (1 - a + b + c) / 2 else 0
def dbitAt (d : Deed) (c : Int) (told : List Int) : Int := dbit d.1 (argAt d told 0) (argAt d told 1) c
def dcarAt (d : Deed) (c : Int) (told : List Int) : Int := dcar d.1 (argAt d told 0) (argAt d told 1) c
def bts : List Deed → List Int → List Int → List Int
  | d :: ds, c :: cs, told => bts ds cs (told ++ [dbitAt d c told])
  | _, _, told => told
def nxt (ds : List Deed) (cs told : List Int) : List Int := List.zipWith (fun d c => dcarAt d c told) ds cs
abbrev Bit (x : Int) : Prop := x = 0 ∨ x = 1
theorem bit0 : Bit 0 := .inl rfl
theorem bit1 : Bit 1 := .inr rfl
theorem dbit_bit {x : Str} {a b c : Int} (ha : Bit a) (hb : Bit b) (hc : Bit c) : Bit (dbit x a b c) := by
  have n1 : Bit (1 - a) := by rcases ha with rfl | rfl <;> simp [Bit]
  have hx : ∀ {p q : Int}, Bit p → Bit q → Bit (Builtin.bitXor p q) := fun hp hq => by
    rcases hp with rfl | rfl <;> rcases hq with rfl | rfl <;> decide
  have hand : ∀ {p q : Int}, Bit p → Bit q → Bit (Builtin.bitAnd p q) := fun hp hq => by
    rcases hp with rfl | rfl <;> rcases hq with rfl | rfl <;> decide
  have hor : ∀ {p q : Int}, Bit p → Bit q → Bit (Builtin.bitOr p q) := fun hp hq => by
    rcases hp with rfl | rfl <;> rcases hq with rfl | rfl <;> decide
  unfold dbit
  split; · exact bit0
  split; · exact bit1
  split; · exact hc
  split; · exact hc
  split; · exact n1
  split; · exact hx n1 hc
  split; · exact hand ha hb
  split; · exact hor ha hb
  split; · exact hx ha hb
  exact hx (hx ha hb) hc
theorem dcar_bit {x : Str} {a b c : Int} (ha : Bit a) (hb : Bit b) (hc : Bit c) : Bit (dcar x a b c) := by
  unfold dcar
  split
  · rcases ha with rfl | rfl <;> rcases hc with rfl | rfl <;> decide
  split; · exact ha
  split
  · rcases ha with rfl | rfl <;> rcases hb with rfl | rfl <;> rcases hc with rfl | rfl <;> decide
  split
  · rcases ha with rfl | rfl <;> rcases hb with rfl | rfl <;> rcases hc with rfl | rfl <;> decide
  exact bit0
theorem argAt_bit {told : List Int} (h : ∀ x ∈ told, Bit x) (d : Deed) (j : Nat) : Bit (argAt d told j) := by
  unfold argAt
  rw [List.getD_eq_getElem?_getD]
  cases e : told[(d.2.getD j 0).toNat]? with
  | none => exact bit0
  | some y => exact h y (List.mem_of_getElem? e)
theorem bts_next : ∀ {ds : List Deed} {cs t : List Int} {i : Nat} {d : Deed} {c : Int}, ds[i]? = some d → cs[i]? = some c → bts (ds.take (i + 1)) (cs.take (i + 1)) t = bts (ds.take i) (cs.take i) t ++ [dbitAt d c (bts (ds.take i) (cs.take i) t)]
  | [], _, _, _, _, _, h, _ => by simp at h
  | _ :: _, [], _, _, _, _, _, h => by simp at h
  | e :: ds, g :: cs, t, 0, d, c, h, k => by
    simp only [List.getElem?_cons_zero, Option.some.injEq] at h k
    subst h k
    rfl
  | e :: ds, g :: cs, t, i + 1, d, c, h, k => by
    simp only [List.getElem?_cons_succ] at h k
    exact bts_next (t := t ++ [dbitAt e g t]) h k
theorem bts_len : ∀ {ds : List Deed} {cs t : List Int}, ds.length = cs.length → (bts ds cs t).length = t.length + ds.length
  | [], [], _, _ => rfl
  | [], _ :: _, _, h => by simp at h
  | _ :: _, [], _, h => by simp at h
  | d :: ds, c :: cs, t, h => by
    show (bts ds cs (t ++ [dbitAt d c t])).length = _
    rw [bts_len (by simpa using h), List.length_append, List.length_cons, List.length_cons, List.length_nil]
    omega
theorem bts_bits : ∀ {ds : List Deed} {cs t : List Int}, (∀ x ∈ t, Bit x) → (∀ x ∈ cs, Bit x) → ∀ x ∈ bts ds cs t, Bit x
  | [], cs, t, h, _ => by
    unfold bts
    exact h
  | _ :: _, [], t, h, _ => by
    unfold bts
    exact h
  | d :: ds, c :: cs, t, h, k => by
    refine bts_bits (ds := ds) (cs := cs) (t := t ++ [dbitAt d c t]) (fun x hx => ?_) fun x hx => k x (List.mem_cons_of_mem _ hx)
    rcases List.mem_append.mp hx with hx | hx
    · exact h x hx
    · rw [List.mem_singleton.mp hx]
      exact dbit_bit (argAt_bit h d 0) (argAt_bit h d 1) (k c List.mem_cons_self)
theorem nxt_len {ds : List Deed} {cs t : List Int} (h : ds.length = cs.length) : (nxt ds cs t).length = ds.length := by
  unfold nxt
  rw [List.length_zipWith]
  omega
theorem nxt_bits {ds : List Deed} {cs t : List Int} (h : ∀ x ∈ t, Bit x) (k : ∀ x ∈ cs, Bit x) : ∀ x ∈ nxt ds cs t, Bit x := by
  intro x hx
  unfold nxt at hx
  obtain ⟨i, hi⟩ := List.mem_iff_getElem?.mp hx
  rw [List.getElem?_zipWith] at hi
  cases e1 : ds[i]? with
  | none => rw [e1] at hi; simp at hi
  | some d =>
    cases e2 : cs[i]? with
    | none => rw [e1, e2] at hi; simp at hi
    | some c =>
      rw [e1, e2] at hi
      have := Option.some.inj hi
      rw [← this]
      exact dcar_bit (argAt_bit h d 0) (argAt_bit h d 1) (k c (List.mem_of_getElem? e2))
theorem nxt_next {ds : List Deed} {cs t : List Int} {i : Nat} {d : Deed} {c : Int} (h : ds[i]? = some d) (k : cs[i]? = some c) : (nxt ds cs t).take (i + 1) = (nxt ds cs t).take i ++ [dcarAt d c t] := by
  rw [List.take_add_one]
  unfold nxt
  rw [List.getElem?_zipWith, h, k]
  rfl
section
variable {K : PySem.W.Frag} {a b : Addr} {xs ys : List V}
theorem walk_zipT (hn : xs.length = ys.length) : Walk (RZ.ItzT K a b) xs.length (fun H => SqT K H a xs ∧ SqT K H b ys) (YPair (fun i => xs[i]?) (fun i => ys[i]?)) where
  goes := fun i H hi q => ⟨xs, ys, xs[i], ys[i]'(by omega), q.1, q.2, List.getElem?_eq_getElem hi, List.getElem?_eq_getElem (by omega)⟩
  stops := fun H q => ⟨xs, ys, q.1, q.2, .inl (Nat.le_refl _)⟩
  yields := fun i H v H2 hi q y => by
    obtain ⟨T, x, z, h1, h2, h3, h4, h5⟩ := y
    exact ⟨T, x, z, h1, h2, h3, h4 xs q.1, h5 ys q.2⟩
end
/-! ### own exceptions as values -/
section
variable {X : Cx} {K : PySem.W.Frag}
theorem kit_ref {D C : Addr} {b : Bool} (h1 : PySem.W.isClsIn K C = true) (h2 : PySem.W.typeIn K (.ref C) = some (.type "type")) (h3 : PySem.W.subIn K (.ref D) (.ref C) = some b) (h4 : PySem.W.subIn K (.ref C) (.ref C) = some true) : PySem.W.kitOne K (.ref D) (.ref C) = some b := by
  unfold PySem.W.kitOne
  by_cases e : D = C
  · subst e
    rw [h3] at h4
    rw [if_pos (by simp), h4]
  · rw [if_neg (by simpa using e)]
    have e1 : ((PySem.W.clsIn K C).isSome && PySem.W.typeIn K (.ref C) == some (.type "type")) = true := by
      have h1' : (PySem.W.clsIn K C).isSome = true := h1
      rw [h1', h2]
      rfl
    show (if ((PySem.W.clsIn K C).isSome && PySem.W.typeIn K (.ref C) == some (.type "type")) = true then PySem.W.subIn K (.ref D) (.ref C) else none) = some b
    rw [if_pos e1]
    exact h3
theorem kit_ve {D : Addr} {b : Bool} (h : PySem.W.subIn K (.ref D) (.type "ValueError") = some b) : PySem.W.kitOne K (.ref D) (.type "ValueError") = some b := by
  have e1 : PySem.W.kitMeta "ValueError" = true := by decide +kernel
  show (if PySem.W.kitMeta "ValueError" = true then PySem.W.subIn K (.ref D) (.type "ValueError") else none) = some b
  rw [if_pos e1]
  exact h
def rIsX (K : PySem.W.Frag) : List V → Hp → VK → Prop := fun xs H Q => ∃ (a D : Addr) (c : V) (cv : Value) (b : Bool), xs = [.ref a, c] ∧ H a = some (ExO (.ref D) a) ∧ ExcC K D ∧ ClsV c cv ∧ PySem.W.kitOne K (.ref D) cv = some b ∧ Q (.bl b) H
theorem call_isX : CallR X (.builtin "isinstance") (rIsX X.K) := by
  intro pins s σ H xs us Q I r h
  obtain ⟨a, D, c, cv, b, rfl, ha, hD, hc, hk, q⟩ := h
  match us, r with
  | [u1, u2], .cons r1 (.cons r2 .nil) =>
    obtain rfl : u1 = Value.ref a := r1
    obtain rfl := ClsV.eq hc r2
    obtain ⟨⟨oe, vs, hget, ⟨z1, z2⟩, hv, _⟩, _, _⟩ := I.hok a _ ha
    have J : PySem.W.InstAt s.heap a oe D none := by
      obtain ⟨oc, od, oda, osl⟩ := oe
      dsimp only at z1 z2 hv
      subst z1 z2 hv
      exact ⟨hget, rfl, rfl, trivial⟩
    exact PySem.W.kia_one (PySem.W.handS_kitx_exc hD.hg hD.hk hD.hs hD.hd hD.ha hD.hn hD.ht hD.hm) I.kIn J hk (fun z => nomatch z) fun tk => ⟨.bl b, H, I.kept (t' := tk) fun _ _ z => z, rfl, q⟩
end
theorem dp_bls {K : PySem.W.Frag} {H : Hp} : ∀ cs : List Bool, DpAll K H (cs.map V.bl) (cs.map PyData.bool)
  | [] => .nil
  | c :: cs => .cons (.bl c) (dp_bls cs)
theorem lay_bls : ∀ cs : List Bool, PyData.canLayAll0 (cs.map PyData.bool) = true ∧ PyData.depthAll (cs.map PyData.bool) = 0
  | [] => ⟨by simp only [List.map_nil, PyData.canLayAll0], by simp only [List.map_nil, PyData.depthAll]⟩
  | c :: cs => by
    obtain ⟨h1, h2⟩ := lay_bls cs
    exact ⟨by simp only [List.map_cons, PyData.canLayAll0, PyData.canLay0, h1, Bool.and_self], by simp only [List.map_cons, PyData.depthAll, PyData.depth, h2, Nat.max_self]⟩
theorem shaped_bls (cs : List Bool) : SeqAt.shaped (.list (cs.map PyData.bool)) = true := by
  obtain ⟨h1, h2⟩ := lay_bls cs
  simp only [SeqAt.shaped, PyData.canLay0, PyData.depth, h1, h2, Bool.true_and]
  decide
theorem eqv_bls (l : List Bool) : PyData.eqv (.list (l.map PyData.bool)) (.list (l.map PyData.bool)) = true := SeqAt.eqv_refl _ (SeqAt.canLay_of_shaped (shaped_bls l))
/-- a test that is never asked -/
def tNevT : TT := fun _ _ _ => False
theorem pt_never {X : Cx} {e : Expr} : PT X e tNevT := ⟨fun _ _ _ _ _ _ h => h.elim⟩
end AW
namespace KK
open PySem PySem.Spec PyProof.Rows L2 AW
def topS (i : Nat) : Stmt := PySem.Challenge.pw_anywide_k73_books_of_few_names.main.body.getD i (.Pass ⟨0, 0, 0, 0⟩)
abbrev s_wall : Stmt := topS 0
abbrev N_wall : List Str := ["k"]
theorem sc_wall : FnScope N_wall ["k"] (defScope s_wall) := ⟨rfl, rfl, rfl, by decide +kernel, rfl, by decide +kernel, by decide +kernel⟩
abbrev s_all_bits : Stmt := topS 11
abbrev N_all_bits : List Str := ["many", "choices", "place", "bits", "bit"]
theorem sc_all_bits : FnScope N_all_bits ["many"] (defScope s_all_bits) := ⟨rfl, rfl, rfl, by decide +kernel, rfl, by decide +kernel, by decide +kernel⟩
abbrev s_first_carry : Stmt := topS 12
abbrev N_first_carry : List Str := ["row", "deed"]
theorem sc_first_carry : FnScope N_first_carry ["row"] (defScope s_first_carry) := ⟨rfl, rfl, rfl, by decide +kernel, rfl, by decide +kernel, by decide +kernel⟩
abbrev s_deed_bit : Stmt := topS 13
abbrev N_deed_bit : List Str := ["deed", "held", "told", "word", "first", "second"]
theorem sc_deed_bit : FnScope N_deed_bit ["deed", "held", "told"] (defScope s_deed_bit) := ⟨rfl, rfl, rfl, by decide +kernel, rfl, by decide +kernel, by decide +kernel⟩
abbrev s_bits_of : Stmt := topS 14
abbrev N_bits_of : List Str := ["row", "carry", "bits", "told", "deed", "held"]
theorem sc_bits_of : FnScope N_bits_of ["row", "carry", "bits"] (defScope s_bits_of) := ⟨rfl, rfl, rfl, by decide +kernel, rfl, by decide +kernel, by decide +kernel⟩
abbrev s_two_or_more : Stmt := topS 15
abbrev N_two_or_more : List Str := ["one", "other", "third"]
theorem sc_two_or_more : FnScope N_two_or_more ["one", "other", "third"] (defScope s_two_or_more) := ⟨rfl, rfl, rfl, by decide +kernel, rfl, by decide +kernel, by decide +kernel⟩
abbrev s_deed_carry : Stmt := topS 16
abbrev N_deed_carry : List Str := ["deed", "held", "told", "word"]
theorem sc_deed_carry : FnScope N_deed_carry ["deed", "held", "told"] (defScope s_deed_carry) := ⟨rfl, rfl, rfl, by decide +kernel, rfl, by decide +kernel, by decide +kernel⟩
abbrev s_carry_behind : Stmt := topS 17
abbrev N_carry_behind : List Str := ["row", "carry", "told", "deed", "held"]
theorem sc_carry_behind : FnScope N_carry_behind ["row", "carry", "told"] (defScope s_carry_behind) := ⟨rfl, rfl, rfl, by decide +kernel, rfl, by decide +kernel, by decide +kernel⟩
abbrev s_steps : Stmt := topS 18
abbrev N_steps : List Str := ["row", "carry", "told", "bits", "all_told"]
theorem sc_steps : FnScope N_steps ["row", "carry"] (defScope s_steps) := ⟨rfl, rfl, rfl, by decide +kernel, rfl, by decide +kernel, by decide +kernel⟩
abbrev s_whole_machine : Stmt := topS 22
abbrev N_whole_machine : List Str := ["row", "choices", "walk", "machine", "at", "carry", "state", "bits", "bit", "after"]
theorem sc_whole_machine : FnScope N_whole_machine ["row"] (defScope s_whole_machine) := ⟨rfl, rfl, rfl, by decide +kernel, rfl, by decide +kernel, by decide +kernel⟩
abbrev s_numbered : Stmt := topS 23
abbrev N_numbered : List Str := ["looks", "numbers", "look"]
theorem sc_numbered : FnScope N_numbered ["looks"] (defScope s_numbered) := ⟨rfl, rfl, rfl, by decide +kernel, rfl, by decide +kernel, by decide +kernel⟩
abbrev s_kinds_of_states : Stmt := topS 24
abbrev N_kinds_of_states : List Str := ["machine", "kinds", "many", "behind", "bit", "after", "state"]
theorem sc_kinds_of_states : FnScope N_kinds_of_states ["machine"] (defScope s_kinds_of_states) := ⟨rfl, rfl, rfl, by decide +kernel, rfl, by decide +kernel, by decide +kernel⟩
abbrev s_least_machine : Stmt := topS 25
abbrev N_least_machine : List Str := ["row", "whole", "kinds", "least", "kind", "state", "bit", "after"]
theorem sc_least_machine : FnScope N_least_machine ["row"] (defScope s_least_machine) := ⟨rfl, rfl, rfl, by decide +kernel, rfl, by decide +kernel, by decide +kernel⟩
abbrev s_is_whole : Stmt := topS 30
abbrev N_is_whole : List Str := ["thing"]
theorem sc_is_whole : FnScope N_is_whole ["thing"] (defScope s_is_whole) := ⟨rfl, rfl, rfl, by decide +kernel, rfl, by decide +kernel, by decide +kernel⟩
abbrev s_is_number_below : Stmt := topS 31
abbrev N_is_number_below : List Str := ["thing", "many"]
theorem sc_is_number_below : FnScope N_is_number_below ["thing", "many"] (defScope s_is_number_below) := ⟨rfl, rfl, rfl, by decide +kernel, rfl, by decide +kernel, by decide +kernel⟩
abbrev s_is_deed : Stmt := topS 32
abbrev N_is_deed : List Str := ["thing", "ahead", "word", "numbers", "number"]
theorem sc_is_deed : FnScope N_is_deed ["thing", "ahead"] (defScope s_is_deed) := ⟨rfl, rfl, rfl, by decide +kernel, rfl, by decide +kernel, by decide +kernel⟩
abbrev s_are_deeds : Stmt := topS 33
abbrev N_are_deeds : List Str := ["thing", "many", "at", "deed"]
theorem sc_are_deeds : FnScope N_are_deeds ["thing", "many"] (defScope s_are_deeds) := ⟨rfl, rfl, rfl, by decide +kernel, rfl, by decide +kernel, by decide +kernel⟩
abbrev s_is_row : Stmt := topS 34
abbrev N_is_row : List Str := ["thing", "many", "deeds", "out"]
theorem sc_is_row : FnScope N_is_row ["thing"] (defScope s_is_row) := ⟨rfl, rfl, rfl, by decide +kernel, rfl, by decide +kernel, by decide +kernel⟩
abbrev s_is_name : Stmt := topS 38
abbrev N_is_name : List Str := ["thing", "sign"]
theorem sc_is_name : FnScope N_is_name ["thing"] (defScope s_is_name) := ⟨rfl, rfl, rfl, by decide +kernel, rfl, by decide +kernel, by decide +kernel⟩
abbrev s_check_name : Stmt := topS 39
abbrev N_check_name : List Str := ["thing"]
theorem sc_check_name : FnScope N_check_name ["thing"] (defScope s_check_name) := ⟨rfl, rfl, rfl, by decide +kernel, rfl, by decide +kernel, by decide +kernel⟩
abbrev s_look_of : Stmt := topS 40
abbrev N_look_of : List Str := ["row", "state"]
theorem sc_look_of : FnScope N_look_of ["row"] (defScope s_look_of) := ⟨rfl, rfl, rfl, by decide +kernel, rfl, by decide +kernel, by decide +kernel⟩
abbrev s_law_well : Stmt := topS 43
abbrev N_law_well : List Str := ["script", "seed", "cell"]
theorem sc_law_well : FnScope N_law_well ["script"] (defScope s_law_well) := ⟨rfl, rfl, rfl, by decide +kernel, rfl, by decide +kernel, by decide +kernel⟩
abbrev s_law_draw : Stmt := topS 44
abbrev N_law_draw : List Str := ["well", "many", "cell", "found"]
theorem sc_law_draw : FnScope N_law_draw ["well", "many"] (defScope s_law_draw) := ⟨rfl, rfl, rfl, by decide +kernel, rfl, by decide +kernel, by decide +kernel⟩
abbrev s_law_first_words : Stmt := topS 45
abbrev N_law_first_words : List Str := ["found", "word"]
theorem sc_law_first_words : FnScope N_law_first_words [] (defScope s_law_first_words) := ⟨rfl, rfl, rfl, by decide +kernel, rfl, by decide +kernel, by decide +kernel⟩
abbrev s_law_deed : Stmt := topS 46
abbrev N_law_deed : List Str := ["well", "ahead", "words", "word", "k"]
theorem sc_law_deed : FnScope N_law_deed ["well", "ahead"] (defScope s_law_deed) := ⟨rfl, rfl, rfl, by decide +kernel, rfl, by decide +kernel, by decide +kernel⟩
abbrev s_law_row : Stmt := topS 47
abbrev N_law_row : List Str := ["well", "many", "most", "size", "last", "deeds", "k", "out"]
theorem sc_law_row : FnScope N_law_row ["well", "many", "most"] (defScope s_law_row) := ⟨rfl, rfl, rfl, by decide +kernel, rfl, by decide +kernel, by decide +kernel⟩
abbrev s_law_step : Stmt := topS 48
abbrev N_law_step : List Str := ["row", "carry", "bits", "found", "later", "k", "deed", "word", "c", "a", "b", "bit", "more", "number"]
theorem sc_law_step : FnScope N_law_step ["row", "carry", "bits"] (defScope s_law_step) := ⟨rfl, rfl, rfl, by decide +kernel, rfl, by decide +kernel, by decide +kernel⟩
abbrev s_law_first : Stmt := topS 49
abbrev N_law_first : List Str := ["row", "deed"]
theorem sc_law_first : FnScope N_law_first ["row"] (defScope s_law_first) := ⟨rfl, rfl, rfl, by decide +kernel, rfl, by decide +kernel, by decide +kernel⟩
abbrev s_law_choices : Stmt := topS 50
abbrev N_law_choices : List Str := ["many", "found", "place", "some"]
theorem sc_law_choices : FnScope N_law_choices ["many"] (defScope s_law_choices) := ⟨rfl, rfl, rfl, by decide +kernel, rfl, by decide +kernel, by decide +kernel⟩
abbrev s_law_alike : Stmt := topS 51
abbrev N_law_alike : List Str := ["row", "other", "begin", "met", "waiting", "pair", "bits", "here", "there"]
theorem sc_law_alike : FnScope N_law_alike ["row", "other"] (defScope s_law_alike) := ⟨rfl, rfl, rfl, by decide +kernel, rfl, by decide +kernel, by decide +kernel⟩
abbrev s_law_rows : Stmt := topS 52
abbrev N_law_rows : List Str := ["well", "many", "way", "row", "other", "at", "i", "j", "here", "there", "found", "more", "turn"]
theorem sc_law_rows : FnScope N_law_rows ["well"] (defScope s_law_rows) := ⟨rfl, rfl, rfl, by decide +kernel, rfl, by decide +kernel, by decide +kernel⟩
abbrev s_law_classes : Stmt := topS 53
abbrev N_law_classes : List Str := ["rows", "found", "k", "row", "j"]
theorem sc_law_classes : FnScope N_law_classes ["rows"] (defScope s_law_classes) := ⟨rfl, rfl, rfl, by decide +kernel, rfl, by decide +kernel, by decide +kernel⟩
abbrev s_law_kinds : Stmt := topS 54
abbrev N_law_kinds : List Str := ["state", "classes", "found", "name", "one"]
theorem sc_law_kinds : FnScope N_law_kinds ["state", "classes"] (defScope s_law_kinds) := ⟨rfl, rfl, rfl, by decide +kernel, rfl, by decide +kernel, by decide +kernel⟩
abbrev s_law_refused : Stmt := topS 55
abbrev N_law_refused : List Str := ["book", "word", "handed", "caught", "seen", "e", "some"]
theorem sc_law_refused : FnScope N_law_refused ["book", "word", "handed"] (defScope s_law_refused) := ⟨rfl, rfl, rfl, by decide +kernel, rfl, by decide +kernel, by decide +kernel⟩
abbrev s_law_few_names : Stmt := topS 56
abbrev N_law_few_names : List Str := ["well", "letters", "word", "way", "found", "k", "letter"]
theorem sc_law_few_names : FnScope N_law_few_names ["well"] (defScope s_law_few_names) := ⟨rfl, rfl, rfl, by decide +kernel, rfl, by decide +kernel, by decide +kernel⟩
abbrev s_law_gone_back : Stmt := topS 57
abbrev N_law_gone_back : List Str := ["book", "state", "past", "name", "ahead"]
theorem sc_law_gone_back : FnScope N_law_gone_back ["book", "state", "past"] (defScope s_law_gone_back) := ⟨rfl, rfl, rfl, by decide +kernel, rfl, by decide +kernel, by decide +kernel⟩
abbrev s_law_deed_done : Stmt := topS 58
abbrev N_law_deed_done : List Str := ["well", "book", "rows", "names", "state", "past", "way", "name", "at"]
theorem sc_law_deed_done : FnScope N_law_deed_done ["well", "book", "rows", "names", "state", "past"] (defScope s_law_deed_done) := ⟨rfl, rfl, rfl, by decide +kernel, rfl, by decide +kernel, by decide +kernel⟩
abbrev s_law_wrong_right : Stmt := topS 59
abbrev N_law_wrong_right : List Str := ["well", "book", "rows", "names", "state", "past", "way", "name"]
theorem sc_law_wrong_right : FnScope N_law_wrong_right ["well", "book", "rows", "names", "state", "past"] (defScope s_law_wrong_right) := ⟨rfl, rfl, rfl, by decide +kernel, rfl, by decide +kernel, by decide +kernel⟩
abbrev s_law_looked : Stmt := topS 60
abbrev N_law_looked : List Str := ["well", "book", "state", "rows", "left", "name"]
theorem sc_law_looked : FnScope N_law_looked ["well", "book", "state", "rows"] (defScope s_law_looked) := ⟨rfl, rfl, rfl, by decide +kernel, rfl, by decide +kernel, by decide +kernel⟩
abbrev s_law : Stmt := topS 61
abbrev N_law : List Str := ["script", "well", "rows", "classes", "names", "books", "states", "pasts", "left", "turn", "at", "one"]
theorem sc_law : FnScope N_law ["script"] (defScope s_law) := ⟨rfl, rfl, rfl, by decide +kernel, rfl, by decide +kernel, by decide +kernel⟩
abbrev c_WideError : Stmt := topS 2
abbrev c_NoRow : Stmt := topS 3
abbrev c_NoPair : Stmt := topS 4
abbrev c_NoRule : Stmt := topS 5
abbrev c_NoName : Stmt := topS 6
abbrev c_NoText : Stmt := topS 7
abbrev c_TooMany : Stmt := topS 8
abbrev c_Nothing : Stmt := topS 9
abbrev c_Walk : Stmt := topS 20
abbrev c_Book : Stmt := topS 41
section
variable {P : Program} {w : World} {K : PySem.W.Frag} {mg : Str → Option Value} {base : Heap}
/-! ### dicts whose keys are tuples: entries, walks, displays, the least value -/
section dts
theorem dt_raw {H : Hp} {h : Heap} {d : Addr} {kvs : List (List Key × V)} (ok : ObjOk P w H h d (.dT kvs)) :
    (d == sysModules) = false ∧ ∃ es ep, h.DictRaw d es ep ∧ es.size = kvs.length ∧ ∀ (i : Nat) (hi : i < es.size), ∃ k v q, kvs[i]? = some (k, v) ∧ es[i].key = .ref q ∧ H q = some (.tup (k.map kV)) ∧ RelV v es[i].val := by
  obtain ⟨_, hs, xs, pr, o, es, ep, ho, hx, hdt, he, _⟩ := ok
  have l1 : es.size = xs.length := size_of_entries he
  refine ⟨hs, es, ep, ⟨o, ho, hx, hdt⟩, l1.trans (awLen pr).symm, fun i hi => ?_⟩
  have hi2 : i < xs.length := by omega
  obtain ⟨⟨k, v⟩, h1, h2, h3, h4⟩ := awGet2 pr (List.getElem?_eq_getElem hi2)
  have e : es.toList[i]? = some (entryOfKey (tupleKind (mixKind P w)) xs[i]) := by
    rw [he, List.getElem?_map, List.getElem?_eq_getElem hi2]
    rfl
  have e2 : es[i] = entryOfKey (tupleKind (mixKind P w)) xs[i] := by
    rw [Array.getElem?_toList, Array.getElem?_eq_getElem hi] at e
    exact Option.some.inj e
  refine ⟨k, v, xs[i].2.1, h1, ?_, h3, ?_⟩
  · rw [e2]
    rfl
  · rw [e2]
    exact h4
/-- the pairs, each a new tuple with the key's own tuple -/
def ItT (d : Addr) (o : Obj) (kvs : List (List Key × V)) : It where
  go := fun i H => H d = some (.frz o (.dT kvs)) ∧ i < kvs.length
  yld := fun i H x H' => ∃ (T q : Addr) (k : List Key) (v : V), kvs[i]? = some (k, v) ∧ H q = some (.tup (k.map kV)) ∧ x = .ref T ∧ H T = none ∧ H' = upd H T (.tup [.ref q, v])
  stop := fun i H => H d = some (.frz o (.dT kvs)) ∧ kvs.length ≤ i
theorem turn_T {d : Addr} {o : Obj} {kvs : List (List Key × V)} {elts : List Expr} {kk : Nat} {tpos : Pos} (it : Addr) {ep : Nat} {es : Array DictEntry} (hod : o.data = .dict es ep) :
    Turn P w K (.Tuple elts kk tpos) (ItT d o kvs) [it] it (fun i h => ∃ x y, IsItemIter h it d i kvs.length ep x y) where
  mem := List.mem_singleton.mpr rfl
  obj := fun i h st b hb => by
    obtain rfl := List.mem_singleton.mp hb
    obtain ⟨x, y, e⟩ := st
    exact ⟨_, e, fun v z => nomatch z⟩
  keep := fun i h h' st k => by
    obtain ⟨x, y, e⟩ := st
    exact ⟨x, y, k it (List.mem_singleton.mpr rfl) _ e⟩
  item := by
    intro X hP hw hK hc i pins s σ H E I hf st hg
    subst hP hw hK
    obtain ⟨hd, hi⟩ := hg
    obtain ⟨hg1, okd⟩ := I.hok d _ hd
    obtain ⟨_, es', ep', raw, sz, ent⟩ := dt_raw okd
    have raw' := raw
    obtain ⟨o', ho', _, hdt'⟩ := raw'
    obtain rfl : o' = o := Option.some.inj (ho'.symm.trans hg1)
    obtain ⟨rfl, rfl⟩ := dict_ep hod hdt'
    obtain ⟨x, y, he⟩ := st
    have hi' : i < es'.size := by omega
    obtain ⟨k, v, q, hkv, hkey, hq, rv⟩ := ent i hi'
    rw [← sz] at he
    have below : it < s.heap.objs.size := Heap.lt_size he
    refine wpAny_pyNext_items_item_raw he raw hi' fun h' ho hT _ hk => ?_
    refine ⟨_, rfl, wpAny_letOwnedTupleGo_items (s := { s with heap := h' }) ho fun h2 he2 sb => ?_⟩
    have there : h2.get? s.heap.objs.size = some { cls := .type "tuple", data := .seq #[es'[i].key, es'[i].val] } := (sb.2 _ (Nat.ne_of_gt below)).trans hT
    have laid : ObjOk X.prog X.w (upd H s.heap.objs.size (.tup [.ref q, v])) h2 s.heap.objs.size (.tup [.ref q, v]) :=
      ⟨by show 2 ≤ sizeLine; decide, [es'[i].key, es'[i].val], .cons hkey (.cons rv .nil), ⟨_, there, rfl, _, rfl⟩⟩
    refine ⟨.ref s.heap.objs.size, _, I.turnedNew (t' := s.toks) (ch := [it]) (fun b ob hb e => ?_) hf (Nat.le_refl _) laid, rfl, ⟨_, q, k, v, hkv, hq, rfl, I.hok.fresh (Nat.le_refl _), rfl⟩, ⟨es'[i].key, es'[i].val, by rw [← sz]; exact he2⟩, fun b hb => ?_⟩
    · have nb : b ≠ it := fun z => hb (List.mem_singleton.mpr z)
      exact (sb.2 b nb).trans (hk b ob nb e)
    · obtain rfl := List.mem_singleton.mp hb
      rw [upd_ne (Nat.ne_of_lt below)]
      exact (hf b hb).1
  done := by
    intro X hP hw hK hc i pins s σ H E I hf st hg
    subst hP hw hK
    obtain ⟨hd, hi⟩ := hg
    obtain ⟨f0, f1, f2, f3, f4, f5⟩ := hf it (List.mem_singleton.mpr rfl)
    obtain ⟨hg1, okd⟩ := I.hok d _ hd
    obtain ⟨_, es', ep', raw, sz, _⟩ := dt_raw okd
    have raw' := raw
    obtain ⟨o', ho', _, hdt'⟩ := raw'
    obtain rfl : o' = o := Option.some.inj (ho'.symm.trans hg1)
    obtain ⟨rfl, rfl⟩ := dict_ep hod hdt'
    obtain ⟨x, y, he⟩ := st
    rw [← sz] at he
    refine wpAny_pyNext_items_end_raw (I.ok.hd hc) he raw (by omega) fun h' eb => ⟨rfl, ?_⟩
    exact I.turned (t' := s.toks) (fun b ob hb e => eb b ob hb e) f0 f1 f3 f4 f5
  self := fun A i s Q E st h => by
    obtain ⟨x, y, e⟩ := st
    exact wpAny_pyIter_itemiter e h
variable {X : Cx} {e : Expr} {td : TE} {apos cpos : Pos}
def iItT (td : TE) : TI := fun σ H R => td σ H fun x H1 => ∃ d o kvs, x = .ref d ∧ H1 d = some (.frz o (.dT kvs)) ∧ R (ItT d o kvs) H1
theorem pi_itT {elts : List Expr} {kk : Nat} {tpos : Pos} (he : PE X e td) (hb : attributeBase e "items" X.env (eval e X.env) = eval e X.env := by rfl) (hl : (apos.endLine == cpos.line) = true := by rfl) :
    PI X (.Tuple elts kk tpos) (.Call (.Attribute e "items" apos) [] [] cpos) (iItT td) := by
  constructor
  intro pins s σ H R I h
  refine wpAny_Call_method (T := "dict") (id := "dict.items") hb rfl hl F.plainAttrs_dict F.slot_dict_items F.type_dict_items (thn (he.run pins s σ H _ I h) ?_)
  rintro u s1 ⟨x, H1, I1, rx, d, o, kvs, rfl, hd, q⟩
  obtain rfl : u = Value.ref d := rx
  obtain ⟨hg1, okd⟩ := I1.hok d _ hd
  obtain ⟨hs, es, ep, raw, sz, _⟩ := dt_raw okd
  have raw' := raw
  obtain ⟨o', ho', hx', hdt'⟩ := raw'
  obtain rfl : o' = o := Option.some.inj (ho'.symm.trans hg1)
  have I2 : Inv X pins σ H1 { s1 with heap := s1.heap.push { cls := .type "dict_items", data := .fields #[.ref d] } } := I1.kept (t' := s1.toks) fun b ob z => Heap.get?_push_of_some _ z
  refine ⟨raw.typeIs, fun a z => ⟨o', by cases z; exact hg1, hx'.2.1⟩, ?_⟩
  refine method_meetsIn F.slot_dict_items F.entry_dict_items rfl (PySem.evalArgs_none ⟨rfl, raw.typeIs, F.args_dict_items_1 _, _, meets_dict_items_raw d hs, ⟨es, ep, raw⟩, ?_⟩)
  refine wpAny_pyIter_items_raw (d := d) ⟨_, Heap.get?_push_size _ rfl, rfl, rfl⟩ (raw.at fun ob z => Heap.get?_push_of_some _ z) (pi_one (tk := s1.toks) I2 _ (turn_T _ hdt') ⟨.none, .none, ?_⟩ q)
  rw [← sz]
  exact Heap.get?_push_size _ rfl
theorem walk_T {d : Addr} {o : Obj} {kvs : List (List Key × V)} : Walk (ItT d o kvs) kvs.length (fun H => H d = some (.frz o (.dT kvs)))
    (fun i H x H' => ∃ (T q : Addr) (k : List Key) (v : V), kvs[i]? = some (k, v) ∧ H q = some (.tup (k.map kV)) ∧ x = .ref T ∧ H T = none ∧ H' = upd H T (.tup [.ref q, v])) :=
  ⟨fun _ _ hi q => ⟨q, hi⟩, fun _ q => ⟨q, Nat.le_refl _⟩, fun _ _ _ _ _ _ y => y⟩
/-- d.values() -/
def valsO (p d : Addr) : HO := .ext fun h => h.IsValuesView p d
theorem valsO_ok {H : Hp} {h : Heap} {p d : Addr} (e : h.get? p = some { cls := .type "dict_values", data := .fields #[.ref d] }) : ObjOk P w H h p (valsO p d) := by
  refine ⟨⟨_, e, rfl, rfl⟩, ⟨_, e⟩, ?_⟩
  rintro h1 h2 ⟨o, ho, r⟩ k
  exact ⟨o, k o ho, r⟩
def rValsT : V → List V → Hp → VK → Prop := fun x xs H Q => ∃ (a : Addr) (kvs : List (List Key × V)), x = .ref a ∧ xs = [] ∧ H a = some (.dT kvs) ∧ ∀ p, H p = none → Q (.ref p) (upd H p (valsO p a))
theorem mt_valsT : MtR X "dict.values" rValsT := by
  intro pins s σ H x xs v us Q I rx rxs h
  obtain ⟨a, kvs, rfl, rfl, ha, q⟩ := h
  cases rx
  cases rxs
  obtain ⟨hs, es, ep, raw, _⟩ := dt_raw (I.hok a _ ha)
  refine call_meetsIn F.slot_dict_values raw.typeIs F.entry_dict_values (F.args_dict_values_1 _) (meets_dict_values_raw a hs) ⟨⟨es, ep, raw⟩, ?_⟩
  have I2 := I.laid (o := valsO s.heap.objs.size a) (t' := s.toks) (fun b u z => Heap.get?_push_of_some _ z) (Nat.le_refl _) (valsO_ok (H := upd H s.heap.objs.size (valsO s.heap.objs.size a)) (Heap.get?_push_size _ rfl))
  exact ⟨.ref _, _, I2, rfl, q _ (I.hok.fresh (Nat.le_refl _))⟩
theorem best_least {f : Nat → Int} : ∀ n, argBest (fun i j => decide (f i < f j)) n ≤ n ∧ ∀ j, j ≤ n → f (argBest (fun i j => decide (f i < f j)) n) ≤ f j
  | 0 => ⟨Nat.le_refl _, fun j hj => (Nat.le_zero.mp hj).symm ▸ Int.le_refl _⟩
  | n + 1 => by
    obtain ⟨h1, h2⟩ := best_least (f := f) n
    unfold argBest
    by_cases e : f (n + 1) < f (argBest (fun i j => decide (f i < f j)) n)
    · rw [if_pos (by simpa using e)]
      refine ⟨Nat.le_refl _, fun j hj => ?_⟩
      by_cases hj2 : j ≤ n
      · have := h2 j hj2
        omega
      · obtain rfl : j = n + 1 := by omega
        exact Int.le_refl _
    · rw [if_neg (by simpa using e)]
      refine ⟨by omega, fun j hj => ?_⟩
      by_cases hj2 : j ≤ n
      · exact h2 j hj2
      · obtain rfl : j = n + 1 := by omega
        omega
/-- min(d.values()), the values ints -/
def rMinV : List V → Hp → VK → Prop := fun vs H Q => ∃ (p a : Addr) (kvs : List (List Key × V)) (zs : List Int), vs = [.ref p] ∧ H p = some (valsO p a) ∧ H a = some (.dT kvs) ∧ kvs.map (·.2) = zs.map V.int ∧ zs ≠ [] ∧ ∀ z, z ∈ zs → (∀ y ∈ zs, z ≤ y) → Q (.int z) H
theorem call_minV (hc : X.calm = true) : CallR X (.builtin "min") rMinV := by
  intro pins s σ H vs us Q I r h
  obtain ⟨p, a, kvs, zs, rfl, hp, ha, hz, hne, q⟩ := h
  obtain ⟨u, rfl, ru⟩ := vals1 r
  obtain rfl : u = Value.ref p := ru
  obtain ⟨hs, es, ep, raw, sz, ent⟩ := dt_raw (I.hok a _ ha)
  have hv : s.heap.IsValuesView p a := (I.hok p _ hp).1
  have zl : zs.length = es.size := by
    have := congrArg List.length hz
    rw [List.length_map, List.length_map] at this
    omega
  have la : a < s.heap.objs.size := raw.elim fun o z => Heap.lt_size z.1
  refine call_min_walk (wpAny_pyIter_values_raw hv raw ?_)
  have rel : ∀ i v, (∃ hi : i < es.size, v = es[i].val) → ∃ t, v = .int (zs.getD i 0) t := by
    rintro i v ⟨hi, rfl⟩
    obtain ⟨k, v, _, hkv, _, _, rv⟩ := ent i hi
    have e : (kvs.map (·.2))[i]? = some v := by rw [List.getElem?_map, hkv]; rfl
    rw [hz, List.getElem?_map] at e
    cases e2 : zs[i]? with
    | none => rw [e2] at e; cases e
    | some z =>
      rw [e2] at e
      obtain rfl : V.int z = v := Option.some.inj e
      rw [List.getD_eq_getElem?_getD, e2]
      exact rv
  refine ⟨s.heap.objs.size, [s.heap.objs.size, a], [s.heap.objs.size], es.size, _, _, fun i j => decide (zs.getD i 0 < zs.getD j 0), rfl, Walks.rawValues (A := X.A.in1) (I.ok.hd hc) _ a (Nat.ne_of_lt la) es ep, ?_, ?_, ?_, CmpOf.ints_lt (fun i => zs.getD i 0) rel, ?_⟩
  · exact ⟨⟨_, Heap.get?_push_size _ rfl, rfl, rfl⟩, raw.at fun o z => Heap.get?_push_of_some _ z⟩
  · intro b hb
    show b < (s.heap.push _).objs.size
    rw [Heap.size_push]
    simp only [List.mem_cons, List.not_mem_nil, or_false] at hb
    rcases hb with rfl | rfl
    · exact Nat.lt_succ_self _
    · exact Nat.lt_succ_of_lt la
  · have := List.length_pos_iff.mpr hne
    omega
  · intro v h' tk hP hk
    obtain ⟨t, rfl⟩ := rel _ _ hP
    obtain ⟨b1, b2⟩ := best_least (f := fun i => zs.getD i 0) (es.size - 1)
    have pos := List.length_pos_iff.mpr hne
    generalize argBest (fun i j => decide (zs.getD i 0 < zs.getD j 0)) (es.size - 1) = m at b1 b2 hP
    have hm : m < zs.length := by omega
    have em : zs.getD m 0 = zs[m] := by rw [List.getD_eq_getElem?_getD, List.getElem?_eq_getElem hm]; rfl
    refine ⟨.int (zs.getD m 0), H, I.kept fun b o e => hk b o (fun z => ?_) (Heap.get?_push_of_some _ e), ⟨t, rfl⟩, q _ (by rw [em]; exact List.getElem_mem hm) fun y hy => ?_⟩
    · exact absurd (List.mem_singleton.mp z) (Nat.ne_of_lt (Heap.lt_size e))
    · obtain ⟨j, hj, rfl⟩ := List.mem_iff_getElem.mp hy
      have := b2 j (by omega)
      have ej : zs.getD j 0 = zs[j] := by rw [List.getD_eq_getElem?_getD, List.getElem?_eq_getElem hj]; rfl
      rw [ej] at this
      exact this
/-- whether a dict is not empty -/
theorem truth_H {κ : Type} [DecidableEq κ] {knd : HeapKind P w κ} {A : Around} {E : Value → Shared → Prop} {s : Shared} {d : Addr} {xs : List (κ × Addr × Value)} {Q : Bool → Shared → Prop} (hd : (d == sysModules) = false) (hm : s.heap.DictOfH knd d xs)
    (hf : (xs.length : Int) < 2 ^ 63) (h : Q (!xs.isEmpty) { s with toks := s.toks + 1 + 1 }) : wpAny (model P w) A (truthy (.ref d)) Q E s := by
  have e : ((xs.length : Int) != 0) = !xs.isEmpty := by cases xs <;> simp <;> omega
  have run : wpAny (model P w) A (runValue (.builtin "len" ⟨[.ref d], []⟩)) (fun r s' => r = .int xs.length (s.toks + 1) ∧ Q (!xs.isEmpty) s') E s := by
    apply wpAny_runValue
    apply codeAny_builtin entry_len
    rw [Around.under_plainId plain_len _]
    refine wpAny_mono (wpAny_len_body_dictH (Q := fun r s' => r = .int xs.length (s.toks + 1) ∧ Q (!xs.isEmpty) s') hd hm hf ⟨rfl, h⟩) ?_ (fun _ _ z => z)
    rintro fin s' ⟨r, rfl, z⟩
    exact z
  unfold truthy
  first
  | apply wpAny_bind; refine wpAny_callSpecial?_none (name := Str.ofString "__bool__") hm.typeIs noBool_dict ?_
  | apply wpAny_bind; apply wpAny_pure; apply wpAny_bind; refine wpAny_callSpecial?_none (name := Str.ofString "__bool__") hm.typeIs noBool_dict ?_
  first
  | apply wpAny_bind; refine wpAny_specialOf (name := Str.ofString "__len__") hm.typeIs F.slot_dict_len.lookup ?_
  | apply wpAny_bind; apply wpAny_pure; apply wpAny_bind; refine wpAny_specialOf (name := Str.ofString "__len__") hm.typeIs F.slot_dict_len.lookup ?_
  first
  | apply wpAny_bind
    refine wpAny_mono run ?_ (fun _ _ z => z)
    rintro r s' ⟨rfl, z⟩
    exact wpAny_pure (e ▸ z)
  | apply wpAny_bind
    apply wpAny_pure
    apply wpAny_bind
    refine wpAny_mono run ?_ (fun _ _ z => z)
    rintro r s' ⟨rfl, z⟩
    exact wpAny_pure (e ▸ z)
theorem tru_dT : TruR X (fun x H Q => ∃ a kvs, x = .ref a ∧ H a = some (.dT kvs) ∧ Q (!kvs.isEmpty) H) := by
  intro pins s σ H x v Q I rx h
  obtain ⟨a, kvs, rfl, ha, q⟩ := h
  obtain rfl : v = Value.ref a := rx
  obtain ⟨z, hd, ys, rel, dd⟩ := dt_of I.hok ha
  have hl : kvs.length = ys.length := awLen rel
  refine truth_H hd dd (by rw [← hl]; rw [sizeLine_eq] at z; omega) ⟨H, I.tok _, ?_⟩
  have e : (!ys.isEmpty) = !kvs.isEmpty := by cases rel <;> rfl
  rw [e]
  exact q
/-- {t: v}, t a tuple -/
def tDispT (tk tv : TE) : TE := fun σ H Q => ∀ p, H p = none → tk σ (upd H p (.dT [])) fun x H1 => tv σ H1 fun v H2 => ∃ b k, x = .ref b ∧ H2 b = some (.tup (k.map kV)) ∧ H2 p = some (.dT []) ∧ Q (.ref p) (upd H2 p (.dT [(k, v)]))
theorem pe_dispT {ek ev : Expr} {tk tv : TE} {pos : Pos} (hu : X.A.units < cLine) (hk : PE X ek tk) (hv : PE X ev tv) : PE X (.Dict [some ek] [ev] pos) (tDispT tk tv) := by
  constructor
  intro pins s σ H Q I q
  have hn := I.hok.fresh (Nat.le_refl s.heap.objs.size)
  have I1 := I.laid (a := s.heap.objs.size) (o := .dT []) (h' := s.heap.push { cls := .type "dict", data := .dict #[] }) (t' := s.toks) (fun _ _ z => Heap.get?_push_of_some _ z) (Nat.le_refl _) (dt_empty s.heap I.big)
  rw [arm_eval_Dict, zip_pairTrees [some ek] [ev] X.env pos rfl rfl, dictDisplay_pairs (pairTrees [some ek] [ev] X.env pos) (by simp [pairTrees]) (by simp [pairTrees])]
  apply wpAny_bind
  apply wpAny_standAt
  apply wpAny_bind
  refine wpAny_subDictH (knd := tupleKind (mixKind X.prog X.w)) (show X.A.units < cLine from hu) (by show 1 ≤ 15; decide) ?_
  refine thn ((pps_cons (pos := pos) hk hv pps_nil).run pins _ σ _ (fun ps H2 => match ps with | [(x, v)] => ∃ b k, x = .ref b ∧ H2 b = some (.tup (k.map kV)) ∧ H2 s.heap.objs.size = some (.dT []) ∧ Q (.ref s.heap.objs.size) (upd H2 s.heap.objs.size (.dT [(k, v)])) | _ => False) I1 (q _ hn)) ?_
  rintro ws s2 ⟨ps, H2, I2, rel, hq⟩
  match ps, ws, rel, hq with
  | [(x, v)], [(u1, u2)], .cons ⟨r1, r2⟩ .nil, ⟨b, k, e, hb, hp, q2⟩ =>
    subst e
    obtain rfl : u1 = Value.ref b := r1
    obtain ⟨_, hd, ys, r0, dd⟩ := dt_of I2.hok hp
    cases r0
    refine ⟨[(k, b, u2)], ⟨rfl, rfl, key_of I2.hok hb, trivial⟩, dd, fun h' tk dd' hs => ?_⟩
    obtain ⟨o, es, ep, ho, h2, h3, h4, _, h5⟩ := dd'
    have npb : b ≠ s.heap.objs.size := ne_of hb hp (fun z => nomatch z)
    have I3 : Inv X pins σ (upd H2 s.heap.objs.size (.dT [(k, v)])) { s2 with heap := h', toks := tk } :=
      d_write I2 (by rw [hp]; exact True.intro) hs ⟨o, ho⟩ ⟨by show 1 ≤ sizeLine; decide, hd, [(k, b, u2)], .cons ⟨rfl, by rw [upd_ne npb]; exact hb, r2⟩ .nil, o, es, ep, ho, h2, h3, h4, h5⟩
    exact wpAny_pure ⟨.ref s.heap.objs.size, _, I3, rfl, q2⟩
end dts
/-! ### a text and a dict are not equal -/
section eqd
open PySem.SeqAt PySem.MeetsSeq PySem.MeetsSeq2 PySem.MeetsSeq3 PySem.AutoSeq1
theorem dict_eq_declines_str (l : Addr) (es : Array DictEntry) (n : Nat) (dd : Option Addr) (sl : Array (Option Value)) (b : Str) (u : Tok) :
    Meets (Builtin.«dict.__eq__» ⟨[.ref l, .str b u], []⟩) (fun _ R s => s.heap.get? l = some { cls := .type "dict", dict := dd, data := .dict es n, slots := sl } ∧ R (.ok (.ret .notImplemented)) s) :=
  .of_wp fun prog w A R s h => by obtain ⟨hp, g, d, tk, os⟩ := s; obtain ⟨hl, h⟩ := h; have f1 := F.sub_str_dict; wp_walk using wpAny_loadPart' hl; exact ⟨_, rfl, h⟩
theorem str_eq_declines_dict (b : Str) (u : Tok) (l : Addr) (es : Array DictEntry) (n : Nat) (dd : Option Addr) (sl : Array (Option Value)) :
    Meets (Builtin.«str.__eq__» ⟨[.str b u, .ref l], []⟩) (fun _ R s => s.heap.get? l = some { cls := .type "dict", dict := dd, data := .dict es n, slots := sl } ∧ R (.ok (.ret .notImplemented)) s) :=
  .of_wp fun prog w A R s h => by obtain ⟨hp, g, d, tk, os⟩ := s; obtain ⟨hl, h⟩ := h; wp_walk using wpAny_loadPart' hl, wpAny_load hl; exact ⟨_, rfl, h⟩
theorem rcAt_str_dict {A : Around} {s : Shared} {l : Addr} {es : Array DictEntry} {n : Nat} {dd : Option Addr} {sl : Array (Option Value)} (b : Str) (u : Tok) (ho : s.heap.get? l = some { cls := .type "dict", dict := dd, data := .dict es n, slots := sl }) (hu : A.units < cLine) : RcAt A s (.str b u) (.ref l) false := fun prog w E Q h => by
  exact rc_eq_decline_or (k := false) (typeIs_str s b u) ⟨_, ho, rfl⟩ (by decide) F.sub_dict_str F.slot_str_eq F.slot_dict_eq_refl
    (fun _ hq => call_meets F.slot_str_eq (typeIs_str s b u) F.entry_str_eq (F.args_str_eq_2 _ _) (str_eq_declines_dict b u l es n dd sl) ⟨ho, hq⟩)
    (fun _ hq => call_meets F.slot_dict_eq_refl ⟨_, ho, rfl⟩ F.entry_dict_eq (F.args_dict_eq_2 _ _) (dict_eq_declines_str l es n dd sl b u) ⟨ho, hq⟩)
    (fun _ hq => wpAny_of_eq (rfl : isSame (.str b u) (.ref l) = pure false) hq) (.inr hu) h
theorem eqAt_str_dict {A : Around} {s : Shared} {l : Addr} {es : Array DictEntry} {n : Nat} {dd : Option Addr} {sl : Array (Option Value)} (b : Str) (u : Tok) (ho : s.heap.get? l = some { cls := .type "dict", dict := dd, data := .dict es n, slots := sl }) (hu : A.units < cLine) : SeqAt.EqAt A s (.str b u) (.ref l) false := fun prog w E Q h => by
  unfold eqBool
  refine wpAny_holding ?_
  refine wpAny_ite_split (fun hab => absurd (eq_of_beq hab) nofun) (fun _ => ?_)
  exact wpAny_bind (rcAt_str_dict b u ho hu prog w E _ (wpAny_truthy_bool h))
end eqd
/-! ### things of any kind, none of them at an address that is changed -/
mutual
inductive AnyAt (N : Addr → Prop) (H : Hp) : V → PyData → Prop
  | non : AnyAt N H .non .none
  | bl (b : Bool) : AnyAt N H (.bl b) (.bool b)
  | int (i : Int) : AnyAt N H (.int i) (.int i)
  | str (x : Str) : AnyAt N H (.str x) (.str x)
  | tup {a : Addr} {xs : List V} {ds : List PyData} : ¬ N a → H a = some (.tup xs) → AnyAll N H xs ds → AnyAt N H (.ref a) (.tuple ds)
  | lst {a : Addr} {xs : List V} {ds : List PyData} : ¬ N a → a ≠ sysModules → H a = some (.lst xs) → AnyAll N H xs ds → AnyAt N H (.ref a) (.list ds)
  | dic {a : Addr} : ¬ N a → H a = some (.dK []) → AnyAt N H (.ref a) (.dict [])
  | dic1 {a : Addr} {x : V} {d : PyData} : ¬ N a → H a = some (.dK [(Sum.inl 0, x)]) → AnyAt N H x d → AnyAt N H (.ref a) (.dict [(.int 0, d)])
inductive AnyAll (N : Addr → Prop) (H : Hp) : List V → List PyData → Prop
  | nil : AnyAll N H [] []
  | cons {v : V} {vs : List V} {d : PyData} {ds : List PyData} : AnyAt N H v d → AnyAll N H vs ds → AnyAll N H (v :: vs) (d :: ds)
end
/-- what stands at no address of these stays -/
def ButN (N : Addr → Prop) (H H' : Hp) : Prop := ∀ b u, ¬ N b → H b = some u → H' b = some u
theorem any_stay {N : Addr → Prop} {H H' : Hp} (s : ButN N H H') {v : V} {d : PyData} (h : AnyAt N H v d) : AnyAt N H' v d :=
  AnyAt.rec (motive_1 := fun v d _ => AnyAt N H' v d) (motive_2 := fun vs ds _ => AnyAll N H' vs ds) .non .bl .int .str (fun n e _ ih => .tup n (s _ _ n e) ih) (fun n m e _ ih => .lst n m (s _ _ n e) ih) (fun n e => .dic n (s _ _ n e)) (fun n e _ ih => .dic1 n (s _ _ n e) ih) .nil (fun _ _ ih1 ih2 => .cons ih1 ih2) h
theorem any_same {N : Addr → Prop} {H H' : Hp} (s : Same H H') {v : V} {d : PyData} (h : AnyAt N H v d) : AnyAt N H' v d := any_stay (fun b u _ e => s b u e) h
theorem any_more {N N' : Addr → Prop} {H : Hp} (s : ∀ b u, N' b → H b = some u → N b) {v : V} {d : PyData} (h : AnyAt N H v d) : AnyAt N' H v d :=
  AnyAt.rec (motive_1 := fun v d _ => AnyAt N' H v d) (motive_2 := fun vs ds _ => AnyAll N' H vs ds) .non .bl .int .str (fun n e _ ih => .tup (fun z => n (s _ _ z e)) e ih) (fun n m e _ ih => .lst (fun z => n (s _ _ z e)) m e ih) (fun n e => .dic (fun z => n (s _ _ z e)) e) (fun n e _ ih => .dic1 (fun z => n (s _ _ z e)) e ih) .nil (fun _ _ ih1 ih2 => .cons ih1 ih2) h
section anyx
variable {X : Cx}
/-- a list display, the list at no address of the machine's own -/
def tLstN (t : TA) : TE := fun σ H Q => t σ H fun xs H1 => xs.length ≤ sizeLine ∧ ∀ p, H1 p = none → p ≠ sysModules → Q (.ref p) (upd H1 p (.lst xs))
theorem pe_lstN {es : List Expr} {pos : Pos} {t : TA} (h : PA X es t) : PE X (.List es pos) (tLstN t) := by
  refine ⟨fun pins s σ H Q I hq => ?_⟩
  refine wpAny_List_spliced (thn (h.run pos pins s σ H _ I hq) fun us s1 ⟨xs, H1, I1, r, z, q⟩ => ⟨by rw [← r.length]; exact z, ?_⟩)
  have hf : H1 s1.heap.objs.size = none := I1.hok.fresh (Nat.le_refl _)
  have big : sysModules < s1.heap.objs.size := I1.big
  refine ⟨.ref s1.heap.objs.size, upd H1 s1.heap.objs.size (.lst xs), I1.laid (t' := s1.toks) (fun b u e => Heap.get?_push_of_some _ e) (Nat.le_refl _) ?_, rfl, q _ hf (Nat.ne_of_gt big)⟩
  exact ⟨z, us, 0, r, Heap.get?_push_size _ rfl⟩
theorem Rz.non (H : Hp) : Rz X H .non .none := by
  intro pins σ s u I r
  cases (show u = Value.none from r)
  exact ⟨_, Reads.none, (fun z => nomatch z)⟩
theorem Rz.bl (H : Hp) (b : Bool) : Rz X H (.bl b) (.bool b) := by
  intro pins σ s u I r
  cases (show u = Value.bool b from r)
  exact ⟨_, Reads.bool b, (fun z => nomatch z)⟩
theorem Rz.lst {H : Hp} {a : Addr} {xs : List V} {ds : List PyData} (na : a ≠ sysModules) (h : SqL X.K H a xs) (hs : Paired (Rz X H) xs ds) : Rz X H (.ref a) (.list ds) := by
  intro pins σ s u I r
  obtain rfl : u = Value.ref a := r
  obtain ⟨its, rv, ⟨o, n, ho, hc, hdn, hd⟩, _⟩ := I.list h
  obtain ⟨as, h1, h2⟩ := rz_all hs I rv
  refine ⟨_, Reads.list ho hc hd h1, fun z => ?_⟩
  rcases List.mem_cons.mp z with z | z
  · exact na z.symm
  · exact h2 z
theorem d1_reads {prog : Program} {w : World} {h : Heap} {v : V} {d : PyData} {as : List Addr} (hv : ∀ u, RelV v u → ∃ as, Reads h u d as ∧ sysModules ∉ as) : ∀ (vs : List (Key × Value)) (en : List DictEntry), KV [((Sum.inl 0 : Key), v)] vs → Pairs (mixKind prog w) en vs →
    ∃ as, ReadsAll h (en.map (·.key)) [PyData.int 0] [] ∧ ReadsAll h (en.map (·.val)) [d] as ∧ sysModules ∉ as
  | _, _, .cons hh .nil, .cons hk e5 .nil => by
    obtain ⟨k1, r1⟩ := hh
    rw [← k1] at hk
    rcases keyIs_shape (show keyIs (Sum.inl 0) _ = true from hk) with ⟨i, t1, e, e7⟩ | ⟨x, t1, e, e7⟩
    · obtain rfl : (0 : Int) = i := Sum.inl.inj e
      obtain ⟨as, h1, h2⟩ := hv _ r1
      refine ⟨as, ?_, ?_, h2⟩
      · simp only [List.map_cons, List.map_nil]
        rw [e7]
        exact ReadsAll.cons (as := []) (Reads.int 0 t1) .nil
      · simp only [List.map_cons, List.map_nil]
        rw [e5]
        have := ReadsAll.cons h1 ReadsAll.nil
        rw [List.append_nil] at this
        exact this
    · exact nomatch e
theorem rz_dic1 {H : Hp} {C : Addr} {v : V} {d : PyData} (h : H C = some (.dK [(Sum.inl 0, v)])) (hv : Rz X H v d) : Rz X H (.ref C) (.dict [(.int 0, d)]) := by
  intro pins σ s u I r
  obtain rfl : u = Value.ref C := r
  obtain ⟨_, hs, vs, hkv, o, en, ep, e1, e2, e3, e4, e5, e6⟩ := I.hok C _ h
  obtain ⟨as, r1, r2, r3⟩ := d1_reads (prog := X.prog) (w := X.w) (h := s.heap) (as := []) (fun u r => hv pins σ s u I r) vs _ hkv e5
  refine ⟨_, Reads.dict e1 e2.1 e3 r1 r2, ?_⟩
  intro z
  rcases List.mem_cons.mp z with z | z
  · rw [← z] at hs
    simp at hs
  · exact r3 z
/-- things -/
theorem rz_any {N : Addr → Prop} {H : Hp} {v : V} {d : PyData} (h : AnyAt N H v d) : Rz X H v d :=
  AnyAt.rec (motive_1 := fun v d _ => Rz X H v d) (motive_2 := fun vs ds _ => Paired (Rz X H) vs ds) (Rz.non H) (Rz.bl H) (Rz.int H) (Rz.str H) (fun _ e _ ih => Rz.tup (SqT.of e) ih) (fun _ m e _ ih => Rz.lst m (.inl (.inl e)) ih) (fun _ e => rz_dict (es := []) e) (fun _ e _ ih => rz_dic1 e ih) .nil (fun _ _ ih1 ih2 => .cons ih1 ih2) h
end anyx
/-- no dict lies within -/
def plainD (d : PyData) : Prop := d.hasDict = false
theorem dp_any {N : Addr → Prop} {H : Hp} {v : V} {d : PyData} (h : AnyAt N H v d) : d.hasDict = false → Dp K H v d :=
  AnyAt.rec (motive_1 := fun v d _ => d.hasDict = false → Dp K H v d) (motive_2 := fun vs ds _ => PyData.hasDictAll ds = false → DpAll K H vs ds) (fun _ => .non) (fun b _ => .bl b) (fun i _ => .int i) (fun x _ => .str x) (fun _ e _ ih g => .tup (SqT.of e) (ih (by simpa only [PyData.hasDict] using g))) (fun _ _ e _ ih g => .lst (.inl (.inl e)) (ih (by simpa only [PyData.hasDict] using g))) (fun _ _ g => by simp only [PyData.hasDict] at g; exact Bool.noConfusion g) (fun _ _ _ _ g => by simp only [PyData.hasDict] at g; exact Bool.noConfusion g) (fun _ => .nil) (fun _ _ ih1 ih2 g => by
    simp only [PyData.hasDictAll, Bool.or_eq_false_iff] at g
    exact .cons (ih1 g.1) (ih2 g.2)) h
def tyD : PyData → Value
  | .none => .type "NoneType"
  | .bool _ => .type "bool"
  | .int _ => .type "int"
  | .str _ => .type "str"
  | .list _ => .type "list"
  | .tuple _ => .type "tuple"
  | .dict _ => .type "dict"
theorem ty_any {N : Addr → Prop} {H : Hp} {v : V} {d : PyData} (h : AnyAt N H v d) : TyX K H v (tyD d) := by
  cases h with
  | non => exact .base .non
  | bl b => exact .base (.bl b)
  | int i => exact .base (.int i)
  | str x => exact .base (.str x)
  | tup _ e _ => exact .base (.tup e)
  | lst _ _ e _ => exact .base (.lst e)
  | dic _ e => exact .base (.dK e)
  | dic1 _ e _ => exact .base (.dK e)
def isInt : PyData → Bool
  | .int _ => true
  | _ => false
/-- is_whole of anything -/
def spWhA : Sp := fun vs H Q _ => ∃ (N : Addr → Prop) (x : V) (d : PyData), vs = [x] ∧ AnyAt N H x d ∧ Q (.bl (isInt d)) H
theorem ok_whA {f : Addr} {fd : FuncData} {k : Nat} (F : Fun K "is_whole" "is_whole" s_is_whole f fd) (mi : mg "isinstance" = none) (mI : mg "int" = none) (mB : mg "bool" = none) : FnOk P w K mg base CX0 (k + 1) f fd ["thing"] spWhA := by
  refine F.ok sc_is_whole (fun vs H Q E h => ?_) (fun cdv A outer s H vs Q E hr h => ?_)
  · obtain ⟨N, x, d, rfl, _⟩ := h
    rfl
  · obtain ⟨N, x, d, rfl, hx, q⟩ := h
    refine ⟨_, pss_one (ps_ret (pe_and (pe_callB call_isi (by rfl) mi (by decide +kernel) (pa_cons (pv 0) (pa_cons (pe_bltn (v := .ty "int") (by rfl) mI (by decide +kernel) rfl) pa_nil))) (pe_one (pe_not (pe_callB call_isi (by rfl) mi (by decide +kernel) (pa_cons (pv 0) (pa_cons (pe_bltn (v := .ty "bool") (by rfl) mB (by decide +kernel) rfl) pa_nil))))))), ?_⟩
    have ty := ty_any (K := K) hx
    cases d with
    | none => exact ⟨x, rfl, x, .ty "int", .type "NoneType", .type "int", false, rfl, .ty "int", ty, kit_ty (by decide +kernel), false, rfl, iteF q⟩
    | bool b => exact ⟨x, rfl, x, .ty "int", .type "bool", .type "int", true, rfl, .ty "int", ty, kit_ty (by decide +kernel), true, rfl, iteT ⟨x, rfl, x, .ty "bool", .type "bool", .type "bool", true, rfl, .ty "bool", ty, kit_ty (by decide +kernel), true, rfl, q⟩⟩
    | int i => exact ⟨x, rfl, x, .ty "int", .type "int", .type "int", true, rfl, .ty "int", ty, kit_ty (by decide +kernel), true, rfl, iteT ⟨x, rfl, x, .ty "bool", .type "int", .type "bool", false, rfl, .ty "bool", ty, kit_ty (by decide +kernel), false, rfl, q⟩⟩
    | str t => exact ⟨x, rfl, x, .ty "int", .type "str", .type "int", false, rfl, .ty "int", ty, kit_ty (by decide +kernel), false, rfl, iteF q⟩
    | list l => exact ⟨x, rfl, x, .ty "int", .type "list", .type "int", false, rfl, .ty "int", ty, kit_ty (by decide +kernel), false, rfl, iteF q⟩
    | tuple l => exact ⟨x, rfl, x, .ty "int", .type "tuple", .type "int", false, rfl, .ty "int", ty, kit_ty (by decide +kernel), false, rfl, iteF q⟩
    | dict l => exact ⟨x, rfl, x, .ty "int", .type "dict", .type "int", false, rfl, .ty "int", ty, kit_ty (by decide +kernel), false, rfl, iteF q⟩
def spWell (K : PySem.W.Frag) : Sp := fun vs H Q _ => ∃ (a : Addr) (ns : List Int), vs = [.ref a] ∧ SqL K H a (ns.map V.int) ∧ ns.length ≤ 63 ∧ (∀ z ∈ ns, Builtin.Int.intBits z ≤ 1048576) ∧
  ∀ H' p c, Same H H' → H p = none → H c = none → WL H' p c → Q (.ref p) H'
theorem ok_well {f : Addr} {fd : FuncData} {k : Nat} (F : Fun K "_law_well" "_law_well" s_law_well f fd) (ma : mg "abs" = none) : FnOk P w K mg base CX0 (k + 1) f fd ["script"] (spWell K) := by
  refine F.ok sc_law_well (fun vs H Q E h => ?_) (fun cdv A outer s H vs Q E hr h => ?_)
  · obtain ⟨a, ns, rfl, _⟩ := h
    rfl
  · obtain ⟨a, ns, rfl, hS, hlen, hbits, q⟩ := h
    refine ⟨_, pss_cons (ps_set (i := 1) sc_law_well.nd rfl (.inl rfl) pe_int)
      (pss_cons (ps_for PassesOwn.never rfl (pi_list (pv 0)) (pg_name (i := 2) sc_law_well.nd rfl (.inl rfl))
        (pss_one (ps_set (i := 1) sc_law_well.nd rfl (.inl rfl) (pe_op op_add (pe_op op_mod (pe_op op_powW (pe_op op_add (pe_op op_mul (pv 1) pe_int) (pv 2)) pe_int) pe_int) pe_int))))
      (pss_one (ps_ret (pe_lst (pa_cons (pe_lc (own := [("cell", 2)]) (g := gName 2) (by rfl) sc_law_well.nd (pi_list (pv 0)) (blkOk_by (own := [("cell", 2)]) (N := ["script", "seed", "cell"]) (sc := defScope s_law_well) (by decide +kernel))
          (fun _ _ _ _ _ => pg_name (i := 2) sc_law_well.nd rfl (Or.inl rfl)) (fun _ _ _ _ _ => pts_nil)
          (fun _ _ _ _ _ => pe_callB call_abs (by rfl) ma (by decide +kernel) (pa_cons (pv 2) pa_nil))) (pa_cons pe_int (pa_cons (pv 1) pa_nil))))))), ?_⟩
    refine ⟨.ref a, rfl, a, rfl, ⟨_, hS⟩, for_list (K := K) (a := a) (xs := ns.map V.int) (fun i σ H3 => ∃ z y, σ = [some (.ref a), some (.int z), y] ∧ 0 ≤ z ∧ z ≤ 2147483629 ∧ H3 = H) ⟨1, none, rfl, by decide, by decide, rfl⟩ (fun i σ H3 _ hp => ?_) (fun i x σ H3 hx hp => ?_) (fun σ H3 hp => ?_)⟩
    · obtain ⟨z, y, _, _, _, rfl⟩ := hp
      exact hS
    · obtain ⟨z, y, rfl, h0, h1, rfl⟩ := hp
      obtain ⟨c, hc, rfl⟩ : ∃ c, c ∈ ns ∧ x = .int c := by
        rw [List.getElem?_map] at hx
        cases e : ns[i]? with
        | none => rw [e] at hx; cases hx
        | some c => rw [e] at hx; exact ⟨c, List.mem_of_getElem? e, (Option.some.inj hx).symm⟩
      refine ⟨.int z, rfl, z, 50021, rfl, rfl, .inr ⟨by decide, by decide⟩, .int c, rfl, _, _, rfl, rfl, _, 3, rfl, rfl, seed_ok h0 h1 (hbits c hc), _, 2147483629, rfl, rfl, (by show (0 : Int) < 2147483629; decide), _, 1, rfl, rfl, ?_⟩
      refine ⟨_, some (.int c), rfl, ?_, ?_, rfl⟩
      · have := Int.emod_nonneg ((z * 50021 + c) ^ (3 : Int).toNat) (show (2147483629 : Int) ≠ 0 by decide)
        omega
      · have := Int.emod_lt_of_pos ((z * 50021 + c) ^ (3 : Int).toNat) (show (0 : Int) < 2147483629 by decide)
        omega
    · obtain ⟨z, y, rfl, h0, h1, rfl⟩ := hp
      refine ⟨.ref a, rfl, a, rfl, ⟨_, hS⟩, fun D hD => ?_⟩
      have sD : ∀ o, Same H3 (upd H3 D o) := fun o => same_new hD
      refine lc_list (K := K) (a := a) (xs := ns.map V.int) (fun i H4 => ∃ cs : List Int, cs.length = i ∧ H4 = upd H3 D (.lst (cs.map V.int))) ⟨[], rfl, rfl⟩ (fun i H4 _ hp => ?_) (fun i x H4 hx hp => ?_) (fun H4 hp => ?_)
      · obtain ⟨cs, _, rfl⟩ := hp
        exact (sD _).seq hS
      · obtain ⟨cs, hl, rfl⟩ := hp
        obtain ⟨c, hc, rfl⟩ : ∃ c, c ∈ ns ∧ x = .int c := by
          rw [List.getElem?_map] at hx
          cases e : ns[i]? with
          | none => rw [e] at hx; cases hx
          | some c => rw [e] at hx; exact ⟨c, List.mem_of_getElem? e, (Option.some.inj hx).symm⟩
        have hi : i < ns.length := by
          have := (List.getElem?_eq_some_iff.mp hx).1
          rwa [List.length_map] at this
        refine ⟨rfl, .int c, rfl, c, rfl, _, upd_same, ?_, cs ++ [if c < 0 then -c else c], ?_, ?_⟩
        · rw [List.length_map, hl]
          exact small1000 (by omega)
        · rw [List.length_append, hl]
          rfl
        · rw [upd_upd, List.map_append]
          rfl
      · obtain ⟨cs, hl, rfl⟩ := hp
        refine ⟨.int z, rfl, by show 3 ≤ sizeLine; decide, fun p hp => ?_⟩
        have np : p ≠ D := fun e => by
          rw [e, upd_same] at hp
          cases hp
        have hp2 : H3 p = none := by
          rw [upd_ne np] at hp
          exact hp
        refine q _ p D ((sD _).trans (same_new hp)) hp2 hD ⟨np, cs, 0, z, upd_same, ?_⟩
        rw [upd_ne np.symm, upd_same]
def spDraw : Sp := fun vs H Q _ => ∃ (a c : Addr) (m : Int), vs = [.ref a, .int m] ∧ 0 < m ∧ m ≤ 2 ^ 80 ∧ WL H a c ∧ ∀ H' z, 0 ≤ z → z < m → WL H' a c → Kp a c H H' → Q (.int z) H'
theorem ok_draw {f : Addr} {fd : FuncData} {k : Nat} (F : Fun K "_law_draw" "_law_draw" s_law_draw f fd) : FnOk P w K mg base CX0 (k + 1) f fd ["well", "many"] spDraw := by
  refine F.ok sc_law_draw (fun vs H Q E h => ?_) (fun cdv A outer s H vs Q E hr h => ?_)
  · obtain ⟨a, c, m, rfl, _⟩ := h
    rfl
  · obtain ⟨a, c, m, rfl, hm, hm2, hw, q⟩ := h
    refine ⟨_, pss_mid (ps_if (PW.pt (pw_and (pt_cmpR op_eq (pe_ix ix_list (pv 0) pe_int (fun _ _ => rfl)) pe_int (nomark _))
          (pw_and1 (pt_cmpR (op_neD hr.units) (pe_ix ix_list (pv 0) pe_int (fun _ _ => rfl)) (pe_lst pa_nil) (nomark _)))))
        (pss_cons (ps_set (i := 2) sc_law_draw.nd rfl (.inl rfl) (pe_bm PySem.F.plainAttrs_list PySem.F.slot_list_pop PySem.F.type_list_pop mt_popAt (pe_ix ix_list (pv 0) pe_int (fun _ _ => rfl)) (pa_cons pe_int pa_nil)))
        (pss_cons (ps_if (pt_cmpR op_lt (pv 2) (pe_op op_pow pe_int pe_int) (nomark _)) (pss_one (ps_ret (pe_op op_mod (pv 2) (pv 1)))) pss_nil)
        (pss_one (ps_asg (pv 2) (pg_sub (pv 0) pe_int set_list))))) pss_nil)
      (pss_cons (ps_if (pt_cmpR op_gt (pe_ix ix_list (pv 0) pe_int (fun _ _ => rfl)) pe_int (nomark _))
        (pss_cons (ps_set (i := 3) sc_law_draw.nd rfl (.inl rfl) (pe_op op_mod (pe_ix ix_list (pv 0) pe_int (fun _ _ => rfl)) (pv 1)))
        (pss_cons (ps_asg (pe_op op_fdivW (pe_ix ix_list (pv 0) pe_int (fun _ _ => rfl)) (pv 1)) (pg_sub (pv 0) pe_int set_list))
        (pss_one (ps_ret (pv 3))))) pss_nil)
      (pss_cons (ps_asg (pe_op op_mod (pe_op op_add (pe_op op_mul (pe_ix ix_list (pv 0) pe_int (fun _ _ => rfl)) pe_int) pe_int) pe_int) (pg_sub (pv 0) pe_int set_list))
      (pss_one (ps_ret (pe_op op_mod (pe_op op_fdiv (pe_op op_mod (pe_op op_pow (pe_op op_mod (pe_op op_pow (pe_ix ix_list (pv 0) pe_int (fun _ _ => rfl)) pe_int) pe_int) pe_int) pe_int) pe_int) (pv 1)))))), ?_⟩
    refine ⟨fun σ2 H2 => ∃ y, σ2 = [some (.ref a), some (.int m), y, none] ∧ WL H2 a c ∧ Kp a c H H2, ?_, ?_⟩
    · obtain ⟨nac, cs, r, sd, ea, ec⟩ := id hw
      have lA : SqL K H a [.ref c, .int r, .int sd] := .inl (.inl ea)
      refine ⟨.ref a, rfl, a, _, 1, .int r, rfl, rfl, lA, rfl, rfl, _, rfl, ite2 (fun e => ?_) (fun e => ?_)⟩
      · refine ⟨.ref a, rfl, a, _, 0, .ref c, rfl, rfl, lA, rfl, Nat.zero_le _, fun p hp => ?_⟩
        have sp : Same H (upd H p (.lst [])) := same_new hp
        refine ⟨.list (cs.map PyData.int), .list [], .lst (sp.seq (.inl (.inl ec))) (dp_ints cs), .lst (.inl (.inl upd_same)) .nil, shaped_ints cs, by decide +kernel, _, rfl, ?_⟩
        have ec2 : upd H p (.lst []) c = some (.lst (cs.map V.int)) := sp _ _ ec
        have ea2 : upd H p (.lst []) a = some (.lst [.ref c, .int r, .int sd]) := sp _ _ ea
        have lA2 : SqL K (upd H p (.lst [])) a [.ref c, .int r, .int sd] := .inl (.inl ea2)
        cases cs with
        | nil =>
          rw [show PyData.eqv (.list (([] : List Int).map PyData.int)) (.list []) = true by decide +kernel]
          exact ⟨_, rfl, hw.same sp, Same.kp sp⟩
        | cons x cs =>
          rw [show PyData.eqv (.list ((x :: cs).map PyData.int)) (.list []) = false by simp only [List.map_cons, PyData.eqv, PyData.eqvAll]]
          refine ⟨.ref a, rfl, a, _, 0, .ref c, rfl, rfl, lA2, rfl, .inl ⟨rfl, _, .inl (.inl ec2)⟩, c, _, 0, 0, .int x, rfl, rfl, ec2, by decide, by decide, ?_, rfl, ?_⟩
          · rw [List.length_map, List.length_cons]
            exact seq0 _
          have w3 : WL (upd (upd H p (.lst [])) c (.lst (List.eraseIdx ((x :: cs).map V.int) 0))) a c := ⟨nac, cs, r, sd, by rw [upd_ne nac]; exact ea2, upd_same⟩
          have k3 : Kp a c H (upd (upd H p (.lst [])) c (.lst (List.eraseIdx ((x :: cs).map V.int) 0))) := fun b o n1 n2 eb => by
            rw [upd_ne n2]
            exact sp _ _ eb
          refine ⟨.int x, rfl, 10, 18, rfl, rfl, ⟨by decide, by decide, by decide⟩, x, _, rfl, rfl, _, rfl, ite2 (fun e => ?_) (fun e => ?_)⟩
          · exact ⟨.int x, rfl, .int m, rfl, x, m, rfl, rfl, hm, q _ _ (Int.emod_nonneg _ (by omega)) (Int.emod_lt_of_pos _ hm) w3 k3⟩
          · refine ⟨.int x, rfl, .ref a, rfl, a, _, 1, 1, rfl, rfl, by rw [upd_ne nac]; exact ea2, rfl, some (.int x), rfl, ?_, ?_⟩
            · exact ⟨nac, cs, x, sd, upd_same, by rw [upd_ne nac.symm]; exact upd_same⟩
            · intro b o n1 n2 eb
              rw [upd_ne n1]
              exact k3 b o n1 n2 eb
      · exact ⟨_, rfl, hw, Kp.refl a c H⟩
    · rintro σ2 H2 ⟨y, rfl, hw2, kp⟩
      obtain ⟨nac, cs, r, sd, ea, ec⟩ := id hw2
      have lA : SqL K H2 a [.ref c, .int r, .int sd] := .inl (.inl ea)
      refine ⟨.ref a, rfl, a, _, 1, .int r, rfl, rfl, lA, rfl, r, 0, rfl, rfl, _, rfl, ite2 (fun e => ?_) (fun e => ?_)⟩
      · refine ⟨.ref a, rfl, a, _, 1, .int r, rfl, rfl, lA, rfl, .int m, rfl, r, m, rfl, rfl, hm, ?_⟩
        refine ⟨.ref a, rfl, a, _, 1, .int r, rfl, rfl, lA, rfl, .int m, rfl, r, m, rfl, rfl, wide_div (b := 81) hm (by omega) (by decide) (by decide), ?_⟩
        refine ⟨.ref a, rfl, a, _, 1, 1, rfl, rfl, ea, rfl, .int (r % m), rfl, ?_⟩
        refine q _ _ (Int.emod_nonneg _ (by omega)) (Int.emod_lt_of_pos _ hm) ⟨nac, cs, r / m, sd, upd_same, ?_⟩ ?_
        · rw [upd_ne nac.symm]
          exact ec
        · intro b o n1 n2 eb
          rw [upd_ne n1]
          exact kp b o n1 n2 eb
      · refine ⟨.ref a, rfl, a, _, 2, .int sd, rfl, rfl, lA, rfl, sd, 48271, rfl, rfl, .inr ⟨by decide, by decide⟩, _, 12345, rfl, rfl, _, 2147483647, rfl, rfl, (by show (0 : Int) < 2147483647; decide), ?_⟩
        have l0 := Int.emod_nonneg (sd * 48271 + 12345) (show (2147483647 : Int) ≠ 0 by decide)
        have l1 := Int.emod_lt_of_pos (sd * 48271 + 12345) (show (0 : Int) < 2147483647 by decide)
        obtain ⟨z, hz⟩ : ∃ z : Int, (sd * 48271 + 12345) % 2147483647 = z := ⟨_, rfl⟩
        rw [hz] at l0 l1
        refine ⟨.ref a, rfl, a, _, 2, 2, rfl, rfl, ea, rfl, ?_⟩
        have l2 := Int.emod_nonneg (z ^ (3 : Int).toNat) (show (2147483629 : Int) ≠ 0 by decide)
        have l3 := Int.emod_lt_of_pos (z ^ (3 : Int).toNat) (show (0 : Int) < 2147483629 by decide)
        refine ⟨.ref a, rfl, a, _, 2, .int z, rfl, rfl, .inl (.inl upd_same), (by rw [← hz]; rfl), z, 3, rfl, rfl, ⟨by decide, by decide, by omega⟩, _, 2147483629, rfl, rfl, (by show (0 : Int) < 2147483629; decide), ?_⟩
        obtain ⟨x, hx⟩ : ∃ x : Int, z ^ (3 : Int).toNat % 2147483629 = x := ⟨_, rfl⟩
        rw [hx] at l2 l3
        refine ⟨x, 5, congrArg V.int hx, rfl, ⟨by decide, by decide, by omega⟩, _, 1000000007, rfl, rfl, (by show (0 : Int) < 1000000007; decide), _, 7, rfl, rfl, ⟨by decide, by decide⟩, .int m, rfl, _, m, rfl, rfl, hm, ?_⟩
        refine q _ _ (Int.emod_nonneg _ (by omega)) (Int.emod_lt_of_pos _ hm) ⟨nac, cs, r, z, (by rw [← hz]; exact upd_same), ?_⟩ ?_
        · rw [upd_ne nac.symm]
          exact ec
        · intro b o n1 n2 eb
          rw [upd_ne n1]
          exact kp b o n1 n2 eb
/-! ### first_words -/
def spFw : Sp := fun vs H Q _ => vs = [] ∧ ∀ H' p, Same H H' → H p = none → H' p = some (.dK fwK) → Q (.ref p) H'
theorem ok_fw {f : Addr} {fd : FuncData} {k : Nat} (F : Fun K "_law_first_words" "_law_first_words" s_law_first_words f fd) : FnOk P w K mg base CX0 (k + 1) f fd [] spFw := by
  refine F.ok sc_law_first_words (fun vs H Q E h => ?_) (fun cdv A outer s H vs Q E hr h => ?_)
  · rw [h.1]
    rfl
  · obtain ⟨rfl, q⟩ := h
    refine ⟨_, pss_cons (ps_set (i := 0) sc_law_first_words.nd rfl (.inl rfl) (pe_disp (pps_cons pe_str pe_int (pps_cons pe_str pe_int (pps_cons pe_str pe_int (pps_cons pe_str pe_int (pps_cons pe_str pe_int (pps_cons pe_str pe_int pps_nil)))))) (by rfl) (by rfl) (fun z => by cases z) (by decide)))
      (pss_cons (ps_for PassesOwn.never rfl (pi_list (pe_lst (pa_cons pe_str (pa_cons pe_str (pa_cons pe_str (pa_cons pe_str (pa_cons pe_str pa_nil))))))) (pg_name (i := 1) sc_law_first_words.nd rfl (.inl rfl))
        (pss_one (ps_dput (hu_of hr) (pv 0) (pv 1) pe_int rfl)))
      (pss_one (ps_ret (pv 0)))), ?_⟩
    intro p hp
    refine ⟨upd_same, (fwK.take 6), rfl, by decide, ?_⟩
    refine ⟨by show 5 ≤ sizeLine; decide, fun l hl => ?_⟩
    rw [upd_upd] at hl ⊢
    have nlp : l ≠ p := fun e => by
      rw [e, upd_same] at hl
      cases hl
    have hl0 : H l = none := by
      rw [upd_ne nlp] at hl
      exact hl
    refine ⟨l, rfl, ⟨_, .inl (.inl upd_same)⟩, for_list (K := K) (a := l) (xs := [.str "and", .str "or", .str "xor", .str "add", .str "sub"]) (fun i σ H3 => ∃ y, σ = [some (.ref p), y] ∧ H3 p = some (.dK (fwK.take (6 + i))) ∧ H3 l = some (.lst [.str "and", .str "or", .str "xor", .str "add", .str "sub"]) ∧ Same H H3) ⟨none, rfl, ?_, upd_same, (same_new hp).trans (same_new hl)⟩ (fun i σ H3 _ hp => ?_) (fun i x σ H3 hx hq => ?_) (fun σ H3 hq => ?_)⟩
    · rw [upd_ne nlp.symm, upd_same]
      rfl
    · obtain ⟨y, _, _, e, _⟩ := hp
      exact .inl (.inl e)
    · obtain ⟨y, rfl, ep, el, sm⟩ := hq
      have hi : i < 5 := (List.getElem?_eq_some_iff.mp hx).1
      have hp3 : ∀ o, Same H (upd H3 p o) := fun o b u e => by
        rw [upd_ne (ne_of_none e hp)]
        exact sm b u e
      have hlen : (fwK.take (6 + i)).length < sizeLine := by
        rw [List.length_take]
        exact small1000 (by omega)
      obtain ⟨x0, rfl, ex⟩ : ∃ x0 : Str, x = .str x0 ∧ putK (fwK.take (6 + i)) (Sum.inr x0) (.int 2) = fwK.take (6 + (i + 1)) := by
        have : i = 0 ∨ i = 1 ∨ i = 2 ∨ i = 3 ∨ i = 4 := by omega
        rcases this with rfl | rfl | rfl | rfl | rfl <;> exact ⟨_, (Option.some.inj hx).symm, by decide +kernel⟩
      refine ⟨.ref p, rfl, .str x0, rfl, p, _, rfl, DPut.k (k := Sum.inr x0) ep hlen, some (.str x0), rfl, ?_, ?_, hp3 _⟩
      · rw [upd_same, ex]
      · rw [upd_ne nlp]
        exact el
    · obtain ⟨y, rfl, ep, el, sm⟩ := hq
      exact ⟨.ref p, rfl, q H3 p sm hp ep⟩
/-! ### deed -/
def spDeed : Sp := fun vs H Q _ => ∃ (a c : Addr) (m : Int), vs = [.ref a, .int m] ∧ 0 < m ∧ m ≤ 100 ∧ WL H a c ∧ ∀ H' r d, DeedOk m d → H' r = some (.tup (dV d)) → WL H' a c → Kp a c H H' → Q (.ref r) H'
theorem ok_deed {f fD fW : Addr} {fd fdD fdW : FuncData} {k : Nat} (F : Fun K "_law_deed" "_law_deed" s_law_deed f fd) (FD : Fun K "_law_draw" "_law_draw" s_law_draw fD fdD) (FW : Fun K "_law_first_words" "_law_first_words" s_law_first_words fW fdW)
    (bD : Binds K fdD ["well", "many"] []) (bW : Binds K fdW [] []) (gD : mg "_law_draw" = some (.ref fD)) (gW : mg "_law_first_words" = some (.ref fW)) (ml : mg "list" = none) (mt : mg "tuple" = none) (mr : mg "range" = none) :
    FnOk P w K mg base CX0 (k + 2) f fd ["well", "ahead"] spDeed := by
  have GD : FnOk P w K mg base CX0 (k + 1) fD fdD ["well", "many"] spDraw := ok_draw FD
  have GW : FnOk P w K mg base CX0 (k + 1) fW fdW [] spFw := ok_fw FW
  refine F.ok sc_law_deed (fun vs H Q E h => ?_) (fun cdv A outer s H vs Q E hr h => ?_)
  · obtain ⟨a, c, m, rfl, _⟩ := h
    rfl
  · obtain ⟨a, c, m, rfl, hm, hm2, hw, q⟩ := h
    refine ⟨_, pss_cons (ps_set (i := 2) sc_law_deed.nd rfl (.inl rfl) (pe_call0 GW hr (by rfl) gW FW.kp bW .nil pass0))
      (pss_cons (ps_set (i := 3) sc_law_deed.nd rfl (.inl rfl) (pe_ix ix_list (pe_callTy (call_list_dK rfl) (by rfl) ml (by decide +kernel) (pa_cons (pv 2) pa_nil)) (pe_call GD hr (by rfl) gD FD.kp bD .nil pass0 (pa_cons (pv 0) (pa_cons pe_int pa_nil))) (fun _ _ => rfl)))
      (pss_one (ps_ret (pe_op op_catT (pe_tup (pa_cons (pv 3) pa_nil)) (pe_callTy call_tuple_of (by rfl) mt (by decide +kernel) (pa_cons
        (pe_lc (own := [("k", 4)]) (g := gName 4) (by rfl) sc_law_deed.nd (pi_range1 (by rfl) mr (pa_cons (pe_dget (hu_of hr) (pv 2) (pv 3) (fun _ _ => rfl)) pa_nil)) (blkOk_by (own := [("k", 4)]) (N := N_law_deed) (sc := defScope s_law_deed) (by decide +kernel))
          (fun _ _ _ _ _ => pg_name (i := 4) sc_law_deed.nd rfl (Or.inl rfl)) (fun _ _ _ _ _ => pts_nil)
          (fun _ _ _ _ _ => pe_call GD hr (by rfl) gD FD.kp bD .nil pass0 (pa_cons (pv 0) (pa_cons (pv 1) pa_nil)))) pa_nil)))))), ?_⟩
    refine ⟨rfl, fun H1 p s1 hp e1 => ?_⟩
    refine ⟨.ref p, rfl, p, _, rfl, e1, fun L hL => ?_⟩
    have w1 : WL H1 a c := hw.same s1
    obtain ⟨nLa, nLc⟩ := w1.ne_new hL
    have nLp : L ≠ p := fun e => by
      rw [e, e1] at hL
      cases hL
    obtain ⟨npa, npc⟩ := hw.ne_new hp
    refine ⟨.ref a, rfl, a, c, 11, rfl, by decide, by decide, w1.upd nLa nLc, fun H2 z z0 z1 w2 k2 => ?_⟩
    obtain ⟨x, n, hmem, n0, n2, hat, hval⟩ := fw_at z0 z1
    have eL2 : H2 L = some (.lst (fwK.map fun kv => kV kv.1)) := k2 _ _ nLa nLc upd_same
    have ep2 : H2 p = some (.dK fwK) := k2 _ _ npa npc (by rw [upd_ne nLp.symm]; exact e1)
    refine ⟨L, _, z, .str x, rfl, rfl, .inl (.inl eL2), hat, ?_⟩
    refine ⟨.str x, rfl, by show 1 ≤ sizeLine; decide, fun U hU => ?_⟩
    obtain ⟨nUa, nUc⟩ := w2.ne_new hU
    have w3 : WL (upd H2 U (.tup [.str x])) a c := w2.upd nUa nUc
    have nUp : p ≠ U := ne_of_none ep2 hU
    refine ⟨.ref p, rfl, .str x, rfl, p, .int n, rfl, ?_, ?_⟩
    · rw [← hval]
      exact DGet.k (k := Sum.inr x) (by rw [upd_ne nUp]; exact ep2)
    have kH : Kp a c H (upd H2 U (.tup [.str x])) := fun b o n1 n2 e => by
      have e3 := k2 b o n1 n2 (by rw [upd_ne (ne_of_none (s1 b o e) hL)]; exact s1 b o e)
      rw [upd_ne (ne_of_none e3 hU)]
      exact e3
    refine ⟨n, rfl, by omega, by omega, fun D hD => ?_⟩
    obtain ⟨nDa, nDc⟩ := w3.ne_new hD
    have eU3 : upd H2 U (.tup [.str x]) U = some (.tup [.str x]) := upd_same
    have nDU : U ≠ D := ne_of_none eU3 hD
    refine lc_range (lo := 0) (n := n.toNat) (fun i H4 => ∃ zs : List Int, zs.length = i ∧ (∀ y ∈ zs, 0 ≤ y ∧ y < m) ∧ H4 D = some (.lst (zs.map V.int)) ∧ H4 U = some (.tup [.str x]) ∧ WL H4 a c ∧ Kp a c H H4) ⟨[], rfl, (fun _ z => nomatch z), upd_same, ?_, w3.upd nDa nDc, kH.trans (Same.kp (same_new hD))⟩ (fun i H4 hi hp => ?_) (fun H4 hp => ?_)
    · rw [upd_ne nDU]
      exact eU3
    · obtain ⟨zs, hz, hb, eD, eU, w4, k4⟩ := hp
      refine ⟨rfl, .ref a, rfl, .int m, rfl, a, c, m, rfl, hm, by omega, w4, fun H5 y y0 y1 w5 k5 => ?_⟩
      have eD5 := k5 _ _ nDa nDc eD
      refine ⟨_, eD5, ?_, zs ++ [y], ?_, ?_, ?_, ?_, w5.upd nDa nDc, ?_⟩
      · rw [List.length_map]
        exact small1000 (by omega)
      · rw [List.length_append, hz]
        rfl
      · intro y' hy'
        rcases List.mem_append.mp hy' with h | h
        · exact hb y' h
        · rw [List.mem_singleton.mp h]
          exact ⟨y0, y1⟩
      · rw [upd_same, List.map_append]
        rfl
      · rw [upd_ne nDU]
        exact k5.tup w4 eU
      · intro b o n1 n2 e
        have nbD : b ≠ D := by
          intro z
          have z1 := kH b o n1 n2 e
          rw [z, hD] at z1
          cases z1
        rw [upd_ne nbD]
        exact k5 b o n1 n2 (k4 b o n1 n2 e)
    · obtain ⟨zs, hz, hb, eD, eU, w4, k4⟩ := hp
      refine ⟨D, _, rfl, .inl ⟨.inl (.inl eD), fun T hT => ?_⟩⟩
      obtain ⟨nTa, nTc⟩ := w4.ne_new hT
      have sT : Same H4 (upd H4 T (.tup (zs.map V.int))) := same_new hT
      have eU6 : upd H4 T (.tup (zs.map V.int)) U = some (.tup [.str x]) := sT _ _ eU
      have hl : (zs.length : Int) = n := by omega
      have ok : DeedOk m (x, zs) := ⟨by rw [show ((x, zs) : Deed).2.length = zs.length from rfl, hl]; exact hmem, hb⟩
      refine ⟨U, T, _, _, rfl, rfl, SqT.of eU6, SqT.of upd_same, (fun z => nomatch z), ?_, fun e => ?_, fun e p hp => ?_⟩
      · rw [List.length_map]
        exact Nat.le_of_lt (small1000 (by show 1 + zs.length ≤ 1000; omega))
      · have e0 : zs = [] := List.map_eq_nil_iff.mp e
        refine q _ U (x, zs) ok ?_ (w4.upd nTa nTc) (k4.trans (Same.kp sT))
        rw [e0]
        rw [e0] at eU6
        exact eU6
      · have w6 := w4.upd (o := .tup (zs.map V.int)) nTa nTc
        obtain ⟨n1, n2⟩ := w6.ne_new hp
        exact q _ p (x, zs) ok upd_same (w6.upd n1 n2) ((k4.trans (Same.kp sT)).trans (Same.kp (same_new hp)))
/-! ### row -/
def spRow : Sp := fun vs H Q _ => ∃ (a c : Addr) (m n : Int), vs = [.ref a, .int m, .int n] ∧ 1 ≤ m ∧ m ≤ 3 ∧ 0 ≤ n ∧ n ≤ 8 ∧ WL H a c ∧
  ∀ H' R ds o, RowAt H' R m ds o → RowOk m ds o → (ds.length : Int) ≤ n → WL H' a c → Kp a c H H' → Q (.ref R) H'
theorem ok_row {f fD fE : Addr} {fd fdD fdE : FuncData} {k : Nat} (F : Fun K "_law_row" "_law_row" s_law_row f fd) (GD : FnOk P w K mg base CX0 (k + 1) fD fdD ["well", "many"] spDraw) (kD : PySem.W.keepIn K (.ref fD) = true)
    (GE : FnOk P w K mg base CX0 (k + 2) fE fdE ["well", "ahead"] spDeed) (kE : PySem.W.keepIn K (.ref fE) = true)
    (bD : Binds K fdD ["well", "many"] []) (bE : Binds K fdE ["well", "ahead"] []) (gD : mg "_law_draw" = some (.ref fD)) (gE : mg "_law_deed" = some (.ref fE)) (mt : mg "tuple" = none) (mr : mg "range" = none) :
    FnOk P w K mg base CX0 (k + 3) f fd ["well", "many", "most"] spRow := by
  refine F.ok sc_law_row (fun vs H Q E h => ?_) (fun cdv A outer s H vs Q E hr h => ?_)
  · obtain ⟨a, c, m, n, rfl, _⟩ := h
    rfl
  · obtain ⟨a, c, m, n, rfl, hm, hm2, hn, hn2, hw, q⟩ := h
    have hr1 := hr.mono (show k + 1 ≤ k + 2 by omega)
    refine ⟨_, pss_cons (ps_set (i := 3) sc_law_row.nd rfl (.inl rfl) (pe_call GD hr1 (by rfl) gD kD bD .nil pass0 (pa_cons (pv 0) (pa_cons (pe_op op_add (pv 2) pe_int) pa_nil))))
      (pss_cons (ps_set (i := 4) sc_law_row.nd rfl (.inl rfl) (pe_cmpR op_gt (pe_call GD hr1 (by rfl) gD kD bD .nil pass0 (pa_cons (pv 0) (pa_cons pe_int pa_nil))) pe_int (nomark _)))
      (pss_cons (ps_set (i := 5) sc_law_row.nd rfl (.inl rfl) (pe_lst pa_nil))
      (pss_cons (ps_for PassesOwn.never rfl (pi_range1 (by rfl) mr (pa_cons (pv 3) pa_nil)) (pg_name (i := 6) sc_law_row.nd rfl (.inl rfl))
        (pss_one (ps_expr (pe_bm PySem.F.plainAttrs_list PySem.F.slot_list_append PySem.F.type_list_append mt_append (pv 5) (pa_cons (pe_call GE hr (by rfl) gE kE bE .nil pass0 (pa_cons (pv 0) (pa_cons (pe_op op_add (pv 1) (pv 6)) pa_nil))) pa_nil)))))
      (pss_cons (ps_set (i := 7) sc_law_row.nd rfl (.inl rfl) (pe_op op_sub (pe_op op_add (pv 1) (pv 3)) pe_int))
      (pss_mid (ps_if (pt_not (pt_val (pv 4))) (pss_one (ps_set (i := 7) sc_law_row.nd rfl (.inl rfl) (pe_call GD hr1 (by rfl) gD kD bD .nil pass0 (pa_cons (pv 0) (pa_cons (pe_op op_add (pv 1) (pv 3)) pa_nil))))) pss_nil)
      (pss_one (ps_ret (pe_tup (pa_cons (pv 1) (pa_cons (pe_callTy call_tuple_of (by rfl) mt (by decide +kernel) (pa_cons (pv 5) pa_nil)) (pa_cons (pv 7) pa_nil))))))))))), ?_⟩
    refine ⟨.ref a, rfl, .int n, rfl, n, 1, rfl, rfl, a, c, n + 1, rfl, by omega, by omega, hw, fun H1 sz z0 z1 w1 k1 => ?_⟩
    refine ⟨.ref a, rfl, a, c, 4, rfl, by decide, by decide, w1, fun H2 la l0 l1 w2 k2 => ?_⟩
    refine ⟨la, 0, rfl, rfl, Nat.zero_le _, fun D hD => ?_⟩
    obtain ⟨nDa, nDc⟩ := w2.ne_new hD
    have kH : Kp a c H H2 := k1.trans k2
    refine ⟨.int sz, rfl, sz, rfl, by omega, by omega, for_range (lo := 0) (n := sz.toNat) (fun i σ H3 => ∃ y rs ds, σ = [some (.ref a), some (.int m), some (.int n), some (.int sz), some (.bl (decide (la > 0))), some (.ref D), y, none] ∧ H3 D = some (.lst (rs.map V.ref)) ∧ DsAt H3 rs ds ∧ ds.length = i ∧ DsOk m ds ∧ WL H3 a c ∧ Kp a c H H3)
      ⟨none, [], [], rfl, upd_same, .nil, rfl, ⟨fun k d e => by simp at e⟩, w2.upd nDa nDc, kH.trans (Same.kp (same_new hD))⟩ (fun i σ H3 hi hp => ?_) (fun σ H3 hp => ?_)⟩
    · obtain ⟨y, rs, ds, rfl, eD, hd, hl, ok, w3, k3⟩ := hp
      refine ⟨.ref D, rfl, .inl ⟨rfl, _, .inl (.inl eD)⟩, .ref a, rfl, .int m, rfl, .int (0 + i), rfl, m, 0 + i, rfl, rfl, a, c, _, rfl, by omega, by omega, w3, fun H4 r d hok er w4 k4 => ?_⟩
      have eD4 := k4 _ _ nDa nDc eD
      refine ⟨D, _, _, rfl, rfl, eD4, ?_, some (.int (0 + i)), rs ++ [r], ds ++ [d], rfl, ?_, ?_, ?_, ?_, w4.upd nDa nDc, ?_⟩
      · rw [List.length_map, awLen hd]
        exact small1000 (by omega)
      · rw [upd_same, List.map_append]
        rfl
      · exact (tups_put eD4).ds (awSnoc (F := fun r d => H4 r = some (.tup (dV d))) er ((k4.tups w3).ds hd))
      · rw [List.length_append, hl]
        rfl
      · refine dsOk_snoc ok ?_
        rw [hl]
        have : m + (0 + (i : Int)) = m + i := by omega
        rw [this] at hok
        exact hok
      · intro b o n1 n2 e
        have nbD : b ≠ D := by
          intro z
          have z1 := kH b o n1 n2 e
          rw [z, hD] at z1
          cases z1
        rw [upd_ne nbD]
        exact k4 b o n1 n2 (k3 b o n1 n2 e)
    · obtain ⟨y, rs, ds, rfl, eD, hd, hl, ok, w3, k3⟩ := hp
      refine ⟨.int m, rfl, .int sz, rfl, m, sz, rfl, rfl, _, 1, rfl, rfl, ?_⟩
      refine ⟨fun σ4 H4 => ∃ o, σ4 = [some (.ref a), some (.int m), some (.int n), some (.int sz), some (.bl (decide (la > 0))), some (.ref D), y, some (.int o)] ∧ 0 ≤ o ∧ o < m + sz ∧ H4 D = some (.lst (rs.map V.ref)) ∧ DsAt H4 rs ds ∧ WL H4 a c ∧ Kp a c H H4, ?_, ?_⟩
      · refine ⟨_, rfl, _, rfl, ?_⟩
        by_cases hla : la > 0
        · rw [decide_eq_true hla]
          exact ⟨m + sz - 1, rfl, by omega, by omega, eD, hd, w3, k3⟩
        · rw [decide_eq_false hla]
          refine ⟨.ref a, rfl, .int m, rfl, .int sz, rfl, m, sz, rfl, rfl, a, c, _, rfl, by omega, by omega, w3, fun H4 o o0 o1 w4 k4 => ?_⟩
          exact ⟨o, rfl, o0, o1, k4 _ _ nDa nDc eD, (k4.tups w3).ds hd, w4, k3.trans k4⟩
      · rintro σ4 H4 ⟨o, rfl, o0, o1, eD4, hd4, w4, k4⟩
        refine ⟨.int m, rfl, .ref D, rfl, D, _, rfl, .inl ⟨.inl (.inl eD4), fun T hT => ?_⟩⟩
        refine ⟨.int o, rfl, by show 3 ≤ sizeLine; decide, fun R hR => ?_⟩
        have s1 : Same H4 (upd H4 T (.tup (rs.map V.ref))) := same_new hT
        have s2 := same_new (o := .tup [.int m, .ref T, .int o]) hR
        obtain ⟨n1, n2⟩ := w4.ne_new hT
        have w5 := w4.upd (o := .tup (rs.map V.ref)) n1 n2
        obtain ⟨n3, n4⟩ := w5.ne_new hR
        refine q _ R ds o ⟨T, rs, upd_same, s2 _ _ upd_same, (Same.tups (s1.trans s2)).ds hd4⟩ ⟨hm, hm2, by omega, ok, o0, by omega⟩ (by omega) (w5.upd n3 n4) (k4.trans (Same.kp (s1.trans s2)))
/-! ### rows, as numbers -/
structure Rw where
  m : Int
  ds : List Deed
  o : Int
abbrev RwAt (H : Hp) (a : Addr) (r : Rw) : Prop := RowAt H a r.m r.ds r.o
abbrev RwsAt (H : Hp) : List Addr → List Rw → Prop := Paired (RwAt H)
abbrev RwOk (r : Rw) : Prop := RowOk r.m r.ds r.o
theorem stayRws {H H' : Hp} (t : TupsStay H H') {as : List Addr} {rws : List Rw} (h : RwsAt H as rws) : RwsAt H' as rws := awMap (fun _ _ e => t.row e) h
theorem awAt0 {as : List Addr} {a : Addr} {l : List Addr} (h : as = a :: l) : atI (as.map V.ref) 0 = some (.ref a) := by
  subst h
  exact atI_nat (j := 0) rfl
theorem row0 {m o : Int} {D : Addr} : atI [V.int m, .ref D, .int o] 0 = some (.int m) := atI_nat (j := 0) rfl
def rLen (K : PySem.W.Frag) : List V → Hp → VK → Prop := fun xs H Q => ∃ p ys, xs = [.ref p] ∧ (SqL K H p ys ∨ SqT K H p ys) ∧ Q (.int ys.length) H
/-! ### data that is shown in few signs, numbers of up to sixty figures among it -/
structure NcB (b k : Nat) (d : PyData) : Prop where
  sh : d.showable = true
  lv : d.leavesShort 62 = true
  bk : d.bulk ≤ b
  dp : d.depth ≤ k
theorem NcB.fits {b k : Nat} {d : PyData} (h : NcB b k d) (hb : b ≤ 30000) : d.shown.length ≤ sizeLine := by
  have h1 := PyData.shown_le_bulk 62 (by decide) d h.lv
  have h2 := h.bk
  rw [sizeLine_eq]
  omega
theorem NcB.mono {b b2 k k2 : Nat} {d : PyData} (h : NcB b k d) (hb : b ≤ b2) (hk : k ≤ k2) : NcB b2 k2 d := ⟨h.sh, h.lv, Nat.le_trans h.bk hb, Nat.le_trans h.dp hk⟩
theorem ncb_int {i : Int} (h : i.natAbs < 10 ^ 60) : NcB 0 0 (.int i) := by
  refine ⟨?_, ?_, ?_, ?_⟩
  · simp only [PyData.showable, decide_eq_true_eq]
    have : i.natAbs < 2 ^ 200 := Nat.lt_trans h (by decide)
    by_cases e : i.natAbs = 0
    · rw [e]; decide
    · have := (Nat.log2_lt e).mpr this
      omega
  · simp only [PyData.leavesShort, decide_eq_true_eq]
    have e := int_text_length_le10 (k := 60) (by decide) h
    simp only [PyData.shown]
    rw [PySem.ofString_length]
    omega
  · simp only [PyData.bulk, Nat.le_refl]
  · simp only [PyData.depth, Nat.le_refl]
theorem ncb_str {x : Str} {n : Nat} (h : x.cps.size ≤ n) (hx : (x.cps.toList.all fun c => decide (c < 16 ^ 8)) = true) : NcB n 0 (.str x) := by
  refine ⟨?_, ?_, ?_, ?_⟩
  · simp only [PyData.showable]
  · simp only [PyData.leavesShort]
    exact hx
  · simp only [PyData.bulk]
    exact h
  · simp only [PyData.depth, Nat.le_refl]
theorem ncb_non : NcB 0 0 .none := ⟨by simp only [PyData.showable], by simp only [PyData.leavesShort], by simp only [PyData.bulk, Nat.le_refl], by simp only [PyData.depth, Nat.le_refl]⟩
theorem ncb_bl (b : Bool) : NcB 0 0 (.bool b) := ⟨by simp only [PyData.showable], by simp only [PyData.leavesShort], by simp only [PyData.bulk, Nat.le_refl], by simp only [PyData.depth, Nat.le_refl]⟩
theorem ncb_dict : NcB 0 1 (.dict []) := ⟨by simp only [PyData.showable, PyData.showableKv], by simp only [PyData.leavesShort, PyData.leavesShortKv], by simp only [PyData.bulk, PyData.bulkKv, Nat.le_refl], by simp only [PyData.depth, PyData.depthKv]; decide⟩
theorem ncb_all {b k : Nat} : ∀ {xs : List PyData}, (∀ x ∈ xs, NcB b k x) → PyData.showableAll xs = true ∧ PyData.leavesShortAll 62 xs = true ∧ PyData.bulkAll xs ≤ xs.length * (b + 1) ∧ PyData.depthAll xs ≤ k
  | [], _ => ⟨by simp only [PyData.showableAll], by simp only [PyData.leavesShortAll], by simp only [PyData.bulkAll, Nat.zero_le], by simp only [PyData.depthAll, Nat.zero_le]⟩
  | x :: xs, h => by
    obtain ⟨h1, h2, h3, h4⟩ := ncb_all fun y hy => h y (List.mem_cons_of_mem _ hy)
    obtain ⟨g1, g2, g3, g4⟩ := h x List.mem_cons_self
    refine ⟨by simp only [PyData.showableAll, g1, h1, Bool.and_self], by simp only [PyData.leavesShortAll, g2, h2, Bool.and_self], ?_, ?_⟩
    · simp only [PyData.bulkAll, List.length_cons, Nat.add_mul, Nat.one_mul]
      omega
    · simp only [PyData.depthAll]
      omega
theorem ncb_tup {b k n : Nat} {xs : List PyData} (h : ∀ x ∈ xs, NcB b k x) (hn : xs.length * (b + 1) ≤ n) : NcB n (k + 1) (.tuple xs) := by
  obtain ⟨h1, h2, h3, h4⟩ := ncb_all h
  exact ⟨by simpa only [PyData.showable] using h1, by simpa only [PyData.leavesShort] using h2, by simp only [PyData.bulk]; omega, by simp only [PyData.depth]; omega⟩
theorem ncb_lst {b k n : Nat} {xs : List PyData} (h : ∀ x ∈ xs, NcB b k x) (hn : xs.length * (b + 1) ≤ n) : NcB n (k + 1) (.list xs) := by
  obtain ⟨h1, h2, h3, h4⟩ := ncb_all h
  exact ⟨by simpa only [PyData.showable] using h1, by simpa only [PyData.leavesShort] using h2, by simp only [PyData.bulk]; omega, by simp only [PyData.depth]; omega⟩
/-! ### enumerate of a tuple -/
section enumt
set_option maxHeartbeats 1000000 in
theorem meets_enum1 {v : Value} {o : Obj} {H : Heap → Prop} (B : Begins v o H) :
    Meets (Builtin.«enumerate.__new__» ⟨[.type "enumerate", v], []⟩) (fun _ R s => H s.heap ∧
      R (.ok (.ret (.ref (s.heap.push o).objs.size))) { s with heap := (s.heap.push o).push { cls := .type "enumerate", data := .fields #[.none, .bool false, .ref s.heap.objs.size, rawInt 0, .none, .none] } }) :=
  .of_wp fun prog w A R s h => by
    obtain ⟨hp, g, d, tk, os⟩ := s; obtain ⟨h1, h⟩ := h
    have hsub := sub_enumerate
    have q1 : ∀ {A' : Around} {E : Value → Shared → Prop} {Q : Value → Shared → Prop}, Q (.ref hp.objs.size) ⟨hp.push o, g, d, tk, os⟩ → wpAny (model prog w) A' (pyIter v) Q E ⟨hp, g, d, tk, os⟩ :=
      fun q => B.iter prog w _ _ ⟨hp, g, d, tk, os⟩ _ h1 q
    wp_walk using q1
    refine wpAny_stack_any fun st => wpAny_pure ?_
    split
    · rename_i c _ _ _ _ _
      cases (c == Value.type "enumerate")
      · wp_walk using q1
        exact ⟨_, rfl, h⟩
      · wp_walk using q1
        exact ⟨_, rfl, h⟩
    · wp_walk using q1
      exact ⟨_, rfl, h⟩
theorem enum1 {prog : Program} {w : World} {A : Around} {E : Value → Shared → Prop} {s : Shared} {v : Value} {o : Obj} {H : Heap → Prop} {Q : Value → Shared → Prop} (B : Begins v o H) (h1 : H s.heap)
    (h : ∀ h', IsEnum h' (s.heap.objs.size + 1) s.heap.objs.size 0 .none → h'.get? s.heap.objs.size = some o → h'.objs.size = s.heap.objs.size + 2 →
      (∀ b o, s.heap.get? b = some o → h'.get? b = some o) → Q (.ref (s.heap.objs.size + 1)) { s with heap := h' }) :
    wpAny (model prog w) A (call (.type "enumerate") [v]) Q E s := by
  refine callType_new F.called_enumerate (by decide) (F.typeCall_enumerate_1 _) (F.newCall_enumerate_1 _) (fun obj => F.args_object_init_2 obj _) F.entry_enumerate_new
    (meets_enum1 B) ⟨h1, ?_⟩
  have hz : (s.heap.push o).objs.size = s.heap.objs.size + 1 := Heap.size_push ..
  show _ ∧ _
  rw [hz]
  have he : IsEnum ((s.heap.push o).push { cls := .type "enumerate", data := .fields #[.none, .bool false, .ref s.heap.objs.size, rawInt 0, .none, .none] }) (s.heap.objs.size + 1) s.heap.objs.size 0 .none := by
    have := Heap.get?_push_size (s.heap.push o) (o := { cls := .type "enumerate", data := .fields #[.none, .bool false, .ref s.heap.objs.size, rawInt 0, .none, .none] }) rfl
    rw [hz] at this; exact this
  refine ⟨⟨_, he, rfl⟩, h _ he (Heap.get?_push_of_some _ (Heap.get?_push_size _ B.free)) (by rw [Heap.size_push, hz]) fun b o x => Heap.get?_push_of_some _ (Heap.get?_push_of_some _ x)⟩
def IteT (K : PySem.W.Frag) (a : Addr) : It :=
  ⟨fun i H => ∃ (xs : List V) (x : V), SqT K H a xs ∧ xs[i]? = some x, fun i H v H' => ∃ T x, v = .ref T ∧ H T = none ∧ H' = upd H T (.tup [.int (i : Nat), x]) ∧ ∀ xs, SqT K H a xs → xs[i]? = some x, fun i H => ∃ xs : List V, SqT K H a xs ∧ xs.length = i⟩
theorem turn_enumT {elts : List Expr} {kk : Nat} {tpos : Pos} (a e it : Addr) (na : a ≠ it) (ne : e ≠ a) :
    Turn P w K (.Tuple elts kk tpos) (IteT K a) [e, it] e (fun i h => (∃ old, IsEnum h e it ((i : Nat) : Int) old) ∧ h.IsTupleIter it a i ∧ e ≠ it) where
  mem := by simp
  obj := fun i h st b hb => by
    obtain ⟨⟨old, he⟩, ⟨o, ho, hc, hd⟩, _⟩ := st
    have e' : b = e ∨ b = it := by simpa using hb
    rcases e' with z | z
    · rw [z]; exact ⟨_, he, fun v q => nomatch q⟩
    · rw [z]; exact ⟨o, ho, fun v q => by rw [hd] at q; cases q⟩
  keep := fun i h h' st k => let ⟨⟨old, he⟩, hi, hne⟩ := st; ⟨⟨old, k e (by simp) _ he⟩, hi.at fun o q => k it (by simp) o q, hne⟩
  item := by
    intro X hP hw hK hc i pins s σ H E I hf st hg
    subst hP hw hK
    obtain ⟨⟨old, he⟩, hit, hne⟩ := st
    obtain ⟨xs, x, hq, hx⟩ := hg
    obtain ⟨its, rv, p, hz⟩ := I.tuple hq
    obtain ⟨u, hu, ru⟩ := rv.get hx
    have hel : e < s.heap.objs.size := Heap.lt_size he
    have hil : it < s.heap.objs.size := by obtain ⟨_, q, _⟩ := hit; exact Heap.lt_size q
    have hh : X.A.in1.handled = none := I.ok.hd hc
    have l1 : i < its.toArray.size := by
      have := (List.getElem?_eq_some_iff.mp hu).1
      simpa using this
    refine wpAny_pyNext_enum_itemD (Draws.tuple hh it a na its.toArray) he ⟨hit, p⟩ l1 hne (by simp [hne, ne]) fun v h' tk g ho hit' hT hsz hk => ?_
    have ev : v = u := by
      have g1' : its.toArray[i]? = some v := g
      have e : its[i]? = some v := by simpa using g1'
      rw [hu] at e
      exact (Option.some.inj e).symm
    subst ev
    refine ⟨_, rfl, wpAny_letOwnedTupleGo_enum (s := { s with heap := h', toks := tk + 1 }) ho fun h'' he' sb => ?_⟩
    have hT2 : h''.get? s.heap.objs.size = some { cls := .type "tuple", data := .seq #[.int i tk, v] } := (sb.2 _ (Nat.ne_of_gt hel)).trans hT
    have new : ObjOk X.prog X.w (upd H s.heap.objs.size (.tup [.int (i : Nat), x])) h'' s.heap.objs.size (.tup [.int (i : Nat), x]) :=
      ⟨by show 2 ≤ sizeLine; decide, [.int i tk, v], .cons ⟨_, rfl⟩ (.cons ru .nil), ⟨_, hT2, rfl, _, rfl⟩⟩
    have I1 : Inv X pins σ (upd H s.heap.objs.size (.tup [.int (i : Nat), x])) { s with heap := h'', toks := tk + 1 } :=
      I.turnedNew (ch := [e, it]) (fun b ob hb q => (sb.2 b (fun z => hb (by simp [z]))).trans (hk b ob (fun z => hb (by simp [z])) (fun z => hb (by simp [z])) q)) hf (Nat.le_refl _) new
    refine ⟨.ref s.heap.objs.size, _, I1, rfl, ⟨_, x, rfl, I.hok.fresh (Nat.le_refl _), rfl, fun ys hy => by rw [I.tuple_inj hy hq]; exact hx⟩, ⟨⟨v, ?_⟩, hit'.1.at fun o q => (sb.2 it (Ne.symm hne)).trans q, hne⟩, fun b hb => ?_⟩
    · have e1 : ((i + 1 : Nat) : Int) = (i : Int) + 1 := by omega
      rw [e1]; exact he'
    · have hb' : b < s.heap.objs.size := by
        have e' : b = e ∨ b = it := by simpa using hb
        rcases e' with z | z
        · rw [z]; exact hel
        · rw [z]; exact hil
      rw [upd_ne (Nat.ne_of_lt hb')]
      exact (hf b hb).1
  done := by
    intro X hP hw hK hc i pins s σ H E I hf st hg
    subst hP hw hK
    obtain ⟨⟨old, he⟩, hit, hne⟩ := st
    obtain ⟨xs, hq, hx⟩ := hg
    obtain ⟨its, rv, p, hz⟩ := I.tuple hq
    obtain ⟨f0, f1, f2, f3, f4, f5⟩ := hf it (by simp)
    have hl := rv.length
    have hh : X.A.in1.handled = none := I.ok.hd hc
    have ei : i = its.toArray.size := by rw [List.size_toArray]; omega
    exact wpAny_pyNext_enum_endD (Draws.tuple hh it a na its.toArray) he ⟨by rw [← ei]; exact hit, p⟩ fun h' eb => ⟨rfl, I.turned (t' := s.toks) (fun b o hb q => eb b o hb q) f0 f1 f3 f4 f5⟩
  self := fun A i s Q E st h => let ⟨⟨_, he⟩, _⟩ := st; wpAny_pyIter_enum he h
def iEnumT (K : PySem.W.Frag) (ta : TA) : TI := fun σ H R => ta σ H fun vs H1 => ∃ a xs, vs = [.ref a] ∧ SqT K H1 a xs ∧ R (IteT K a) H1
theorem pi_enumT {X : Cx} {e : Expr} {ta : TA} {p pos tpos : Pos} {elts : List Expr} {kk : Nat} (hg : Gl X "enumerate") (hm : X.mg "enumerate" = none) (ha : PA X [e] ta) (hs : starEach [e] X.env = [(false, eval e X.env)] := by rfl) :
    PI X (.Tuple elts kk tpos) (.Call (.Name "enumerate" p) [e] [] pos) (iEnumT X.K ta) := by
  refine ⟨fun pins s σ H R I h => ?_⟩
  refine Call_ (ld_blt I hg hm boot_enumerate (PyProof.Rows.callWith_type1 (thn (ha.run pos pins s σ H _ I h) fun us s1 ⟨vs, H1, I1, r1, q1⟩ => ?_) hs rfl))
  obtain ⟨a, xs, ex, hq, q⟩ := q1
  subst ex
  cases r1 with
  | cons r rr =>
    cases rr
    cases r
    obtain ⟨its, rv, p', hz⟩ := I1.tuple hq
    have lb : a < s1.heap.objs.size := by
      obtain ⟨o2, e2, _⟩ := id p'
      exact Heap.lt_size e2
    refine enum1 (begins_tuple a its.toArray) p' fun h' he hit hsz hk => wpAny_pyIter_enum he ?_
    have I2 : Inv X pins σ H1 { s1 with heap := h' } := I1.kept (t' := s1.toks) hk
    refine ⟨s1.heap.objs.size + 1, [s1.heap.objs.size + 1, s1.heap.objs.size], _, _, H1, rfl, I2, turn_enumT a (s1.heap.objs.size + 1) s1.heap.objs.size (Nat.ne_of_lt lb) (Nat.ne_of_gt (Nat.lt_succ_of_lt lb)), ⟨⟨.none, he⟩, ⟨_, hit, rfl, rfl⟩, Nat.succ_ne_self _⟩, fun b hb => ?_, q⟩
    have e' : b = s1.heap.objs.size + 1 ∨ b = s1.heap.objs.size := by simpa using hb
    have hle : s1.heap.objs.size ≤ b := by
      rcases e' with z | z
      · rw [z]; exact Nat.le_succ _
      · rw [z]; exact Nat.le_refl _
    exact I1.fpOk hle (I1.hok.fresh hle)
theorem walk_enumT {a : Addr} {xs : List V} : Walk (IteT K a) xs.length (fun H => SqT K H a xs) (YPair (fun i => some (.int (i : Nat))) (fun i => xs[i]?)) where
  goes := fun i H hi q => ⟨xs, xs[i], q, List.getElem?_eq_getElem hi⟩
  stops := fun H q => ⟨xs, q, rfl⟩
  yields := fun i H v H2 hi q y => by
    obtain ⟨T, x, h1, h2, h3, h4⟩ := y
    exact ⟨T, .int (i : Nat), x, h1, h2, h3, rfl, h4 xs q⟩
end enumt
/-! ### is_row of anything -/
theorem all_stay {N : Addr → Prop} {H H' : Hp} (s : ButN N H H') : ∀ {vs : List V} {ds : List PyData}, AnyAll N H vs ds → AnyAll N H' vs ds
  | _, _, .nil => .nil
  | _, _, .cons h t => .cons (any_stay s h) (all_stay s t)
theorem all_get {N : Addr → Prop} {H : Hp} : ∀ {vs : List V} {ds : List PyData} {i : Nat} {x : V}, AnyAll N H vs ds → vs[i]? = some x → ∃ d, ds[i]? = some d ∧ AnyAt N H x d
  | _, _, _, _, .nil, e => by simp at e
  | _, _, 0, _, .cons h _, e => by
    simp only [List.getElem?_cons_zero, Option.some.injEq] at e
    subst e
    exact ⟨_, rfl, h⟩
  | _, _, i + 1, x, .cons _ t, e => by
    simp only [List.getElem?_cons_succ] at e ⊢
    exact all_get t e
theorem all_len {N : Addr → Prop} {H : Hp} : ∀ {vs : List V} {ds : List PyData}, AnyAll N H vs ds → vs.length = ds.length
  | _, _, .nil => rfl
  | _, _, .cons _ t => congrArg (· + 1) (all_len t)
theorem all_of {N : Addr → Prop} {H : Hp} : ∀ {vs : List V} {ds : List PyData}, vs.length = ds.length → (∀ (i : Nat) x d, vs[i]? = some x → ds[i]? = some d → AnyAt N H x d) → AnyAll N H vs ds
  | [], [], _, _ => .nil
  | [], _ :: _, h, _ => by simp at h
  | _ :: _, [], h, _ => by simp at h
  | v :: vs, d :: ds, h, g => .cons (g 0 v d rfl rfl) (all_of (by simpa using h) fun i x e h1 h2 => g (i + 1) x e h1 h2)
theorem any_str {N : Addr → Prop} {H : Hp} {x : V} {t : Str} (h : AnyAt N H x (.str t)) : x = .str t := by cases h; rfl
theorem any_int {N : Addr → Prop} {H : Hp} {x : V} {i : Int} (h : AnyAt N H x (.int i)) : x = .int i := by cases h; rfl
theorem any_tup {N : Addr → Prop} {H : Hp} {x : V} {ds : List PyData} (h : AnyAt N H x (.tuple ds)) : ∃ a xs, x = .ref a ∧ ¬ N a ∧ H a = some (.tup xs) ∧ AnyAll N H xs ds := by
  cases h with
  | tup n e h => exact ⟨_, _, rfl, n, e, h⟩
def isTup : PyData → Bool
  | .tuple _ => true
  | _ => false
def isStrD : PyData → Bool
  | .str _ => true
  | _ => false
def isBl : PyData → Bool
  | .bool _ => true
  | _ => false
section isi
variable {N : Addr → Prop} {H : Hp} {x : V} {d : PyData} {Q : VK}
theorem isi_tup (hx : AnyAt N H x d) (q : Q (.bl (isTup d)) H) {σ : L2.St} : tCons (tC (V.ty "tuple")) tNil σ H (fun xs H2 => rIsi K (x :: xs) H2 Q) := ⟨x, .ty "tuple", tyD d, .type "tuple", isTup d, rfl, .ty "tuple", ty_any hx, by cases d <;> first | exact kit_ty (r := true) (by decide +kernel) | exact kit_ty (r := false) (by decide +kernel), q⟩
theorem isi_str (hx : AnyAt N H x d) (q : Q (.bl (isStrD d)) H) {σ : L2.St} : tCons (tC (V.ty "str")) tNil σ H (fun xs H2 => rIsi K (x :: xs) H2 Q) := ⟨x, .ty "str", tyD d, .type "str", isStrD d, rfl, .ty "str", ty_any hx, by cases d <;> first | exact kit_ty (r := true) (by decide +kernel) | exact kit_ty (r := false) (by decide +kernel), q⟩
theorem isi_bl (hx : AnyAt N H x d) (q : Q (.bl (isBl d)) H) {σ : L2.St} : tCons (tC (V.ty "bool")) tNil σ H (fun xs H2 => rIsi K (x :: xs) H2 Q) := ⟨x, .ty "bool", tyD d, .type "bool", isBl d, rfl, .ty "bool", ty_any hx, by cases d <;> first | exact kit_ty (r := true) (by decide +kernel) | exact kit_ty (r := false) (by decide +kernel), q⟩
theorem isi_int (hx : AnyAt N H x d) (q : Q (.bl (isInt d || isBl d)) H) {σ : L2.St} : tCons (tC (V.ty "int")) tNil σ H (fun xs H2 => rIsi K (x :: xs) H2 Q) := ⟨x, .ty "int", tyD d, .type "int", isInt d || isBl d, rfl, .ty "int", ty_any hx, by cases d <;> first | exact kit_ty (r := true) (by decide +kernel) | exact kit_ty (r := false) (by decide +kernel), q⟩
end isi
def belowD (m : Int) : PyData → Bool
  | .int i => decide (0 ≤ i) && decide (i < m)
  | _ => false
def numsA (m : Int) (x : Str) (ns : List PyData) : Bool := fwL.any fun q => decide (q.1 = x) && (decide (q.2 = (ns.length : Int)) && ns.all (belowD m))
def deedA (m : Int) : PyData → Bool
  | .tuple (.str x :: ns) => numsA m x ns
  | _ => false
def deedsA (m : Int) (l : List PyData) : List Bool := l.mapIdx fun i d => deedA (m + (i : Nat)) d
def rowA : PyData → Bool
  | .tuple [.int m, .tuple ds, o] => decide (1 ≤ m ∧ m ≤ 3) && (decide (ds.length ≤ 8) && ((deedsA m ds).all id && belowD (m + ds.length) o))
  | _ => false
def KeysFw : List DictEntry → Prop
  | [] => True
  | e :: r => (∃ q ∈ fwL, ∃ t, e.key = .str q.1 t) ∧ KeysFw r
theorem KeysFw.all : ∀ {l : List DictEntry}, KeysFw l → ∀ e ∈ l, ∃ q ∈ fwL, ∃ t, e.key = .str q.1 t
  | e :: r, h, x, hx => by
    rcases List.mem_cons.mp hx with rfl | hx
    · exact h.1
    · exact KeysFw.all h.2 x hx
theorem ns_no {pl : Addr} {es : Array DictEntry} {n : Nat} (pa : K.lookup pl = some ⟨.type "dict", none, .dict es n, #[]⟩) (pe : KeysFw es.toList) {z : Str} (hz : ∀ q ∈ fwL, ¬ q.1 = z) : PySem.W.nsIn K pl z = some none := by
  unfold PySem.W.nsIn
  rw [pa]
  have h1 : es.toList.find? (·.key.isStr z) = none := List.find?_eq_none.mpr fun e he => by
    obtain ⟨q, hq, t, ek⟩ := pe.all e he
    rw [ek]
    show ¬ (q.1 == z) = true
    simpa using hz q hq
  have h2 : es.toList.any (·.refKey) = false := List.any_eq_false.mpr fun e he => by
    obtain ⟨q, hq, t, ek⟩ := pe.all e he
    unfold DictEntry.refKey
    rw [ek]
    simp
  show (match es.toList.find? (·.key.isStr z) with | some e => some (some e.val) | none => if es.toList.any (·.refKey) then none else some none) = some none
  rw [h1, h2]
  rfl
theorem fw_uniq : ∀ p ∈ fwL, ∀ q ∈ fwL, p.1 = q.1 → p.2 = q.2 := by decide +kernel
theorem numsA_at {m n : Int} {x : Str} {ns : List PyData} (h : (x, n) ∈ fwL) : numsA m x ns = (decide (n = (ns.length : Int)) && ns.all (belowD m)) := by
  unfold numsA
  cases e : (decide (n = (ns.length : Int)) && ns.all (belowD m)) with
  | true => exact List.any_eq_true.mpr ⟨_, h, by rw [decide_eq_true rfl, Bool.true_and]; exact e⟩
  | false =>
    refine List.any_eq_false.mpr fun q hq => ?_
    by_cases hx : q.1 = x
    · have := fw_uniq q hq _ h hx
      rw [decide_eq_true hx, Bool.true_and, this]
      show ¬ (decide (n = (ns.length : Int)) && ns.all (belowD m)) = true
      rw [e]
      exact Bool.false_ne_true
    · rw [decide_eq_false hx, Bool.false_and]
      exact Bool.false_ne_true
theorem numsA_no {m : Int} {x : Str} {ns : List PyData} (h : ∀ q ∈ fwL, ¬ q.1 = x) : numsA m x ns = false := List.any_eq_false.mpr fun q hq => by
  rw [decide_eq_false (h q hq), Bool.false_and]
  exact Bool.false_ne_true
/-- no tuple within is long -/
structure PlOk (K : PySem.W.Frag) (w : World) (pl : Addr) (es : Array DictEntry) (n : Nat) : Prop where
  d : KDict K w pl es n
  at_ : ∀ p ∈ fwL, ∃ t, PySem.W.nsIn K pl p.1 = some (some (.int p.2 t))
  ks : KeysFw es.toList
def spNb : Sp := fun vs H Q _ => ∃ (N : Addr → Prop) (x : V) (d : PyData) (m : Int), vs = [x, .int m] ∧ AnyAt N H x d ∧ Q (.bl (belowD m d)) H
theorem ok_nb {f fW : Addr} {fd fdW : FuncData} {k : Nat} (F : Fun K "is_number_below" "is_number_below" s_is_number_below f fd) (GW : FnOk P w K mg base CX0 (k + 1) fW fdW ["thing"] spWhA) (kW : PySem.W.keepIn K (.ref fW) = true) (bW : Binds K fdW ["thing"] []) (gW : mg "is_whole" = some (.ref fW)) :
    FnOk P w K mg base CX0 (k + 2) f fd ["thing", "many"] spNb := by
  refine F.ok sc_is_number_below (fun vs H Q E h => ?_) (fun cdv A outer s H vs Q E hr h => ?_)
  · obtain ⟨N, x, d, m, rfl, _⟩ := h
    rfl
  · obtain ⟨N, x, d, m, rfl, hx, q⟩ := h
    refine ⟨_, pss_one (ps_ret (pe_and (pe_call GW hr (by rfl) gW kW bW .nil pass0 (pa_cons (pv 0) pa_nil)) (pe_one (pe_chain op_le op_lt pe_int (pv 0) (pv 1))))), ?_⟩
    refine ⟨x, rfl, N, x, d, rfl, hx, isInt d, rfl, ?_⟩
    cases hi : isInt d with
    | false =>
      have e : belowD m d = false := by
        cases d <;> first | rfl | exact Bool.noConfusion hi
      rw [e] at q
      exact iteF q
    | true =>
      obtain ⟨i, rfl⟩ : ∃ i, d = .int i := by
        cases d <;> first | exact ⟨_, rfl⟩ | exact Bool.noConfusion hi
      obtain rfl := any_int hx
      refine iteT ?_
      have q' : Q (.bl (decide (0 ≤ i) && decide (i < m))) H := q
      refine ⟨.int i, rfl, 0, i, rfl, rfl, _, rfl, ite2 (fun h0 => ?_) (fun h0 => ?_)⟩
      · rw [h0, Bool.true_and] at q'
        exact ⟨.int m, rfl, i, m, rfl, rfl, q'⟩
      · have h0' : decide (0 ≤ i) = false := by simpa using h0
        rw [h0', Bool.false_and] at q'
        exact q'
def spDe : Sp := fun vs H Q _ => ∃ (N : Addr → Prop) (x : V) (d : PyData) (m : Int) (b k : Nat), vs = [x, .int m] ∧ AnyAt N H x d ∧ NcB b k d ∧ b ≤ 30000 ∧ ∀ H', Same H H' → Q (.bl (deedA m d)) H'
theorem bulk_len : ∀ (xs : List PyData), xs.length ≤ PyData.bulkAll xs
  | [] => Nat.zero_le _
  | x :: xs => by
    have := bulk_len xs
    simp only [PyData.bulkAll, List.length_cons]
    omega
theorem tup_len {b k : Nat} {xs : List PyData} (h : NcB b k (.tuple xs)) : xs.length ≤ b := by
  have h1 := h.bk
  simp only [PyData.bulk] at h1
  exact Nat.le_trans (bulk_len xs) h1
theorem all_id (l : List Bool) : l.all id = l.all fun b => b := rfl
theorem ok_de {f fN pl : Addr} {es : Array DictEntry} {n : Nat} {fd fdN : FuncData} {k : Nat} (F : Fun K "is_deed" "is_deed" s_is_deed f fd) (GN : FnOk P w K mg base CX0 (k + 2) fN fdN ["thing", "many"] spNb) (kN : PySem.W.keepIn K (.ref fN) = true) (bN : Binds K fdN ["thing", "many"] []) (gN : mg "is_number_below" = some (.ref fN))
    (D : PlOk K w pl es n) (gP : mg "PLACES" = some (.ref pl)) (mi : mg "isinstance" = none) (mt : mg "tuple" = none) (mS : mg "str" = none) (mn : mg "len" = none) (ma : mg "all" = none) : FnOk P w K mg base CX0 (k + 3) f fd ["thing", "ahead"] spDe := by
  refine F.ok sc_is_deed (fun vs H Q E h => ?_) (fun cdv A outer s H vs Q E hr h => ?_)
  · obtain ⟨N, x, d, m, b, k, rfl, _⟩ := h
    rfl
  · obtain ⟨N, x, d, m, b, k, rfl, hx, nc, hb, q⟩ := h
    refine ⟨_, pss_cons (ps_if (PW.pt (pw_or (pt_not (pt_val (pe_callB call_isi (by rfl) mi (by decide +kernel) (pa_cons (pv 0) (pa_cons (pe_bltn (v := .ty "tuple") (by rfl) mt (by decide +kernel) rfl) pa_nil))))) (pw_or1 (pt_cmpR op_eq (pe_callB call_len_seq (by rfl) mn PySem.boot_len (pa_cons (pv 0) pa_nil)) pe_int (nomark _))))) (pss_one (ps_ret pe_bl)) pss_nil)
      (pss_cons (ps_set (i := 2) sc_is_deed.nd rfl (.inl rfl) (pe_ix ix_tup (pv 0) pe_int (fun _ _ => rfl)))
      (pss_cons (ps_if (PW.pt (pw_or (pt_not (pt_val (pe_callB call_isi (by rfl) mi (by decide +kernel) (pa_cons (pv 2) (pa_cons (pe_bltn (v := .ty "str") (by rfl) mS (by decide +kernel) rfl) pa_nil))))) (pw_or1 (pt_cmpR (op_notIn_kd D.d) (pv 2) (pe_glob (v := .ref pl) (by rfl) gP rfl) (by rfl))))) (pss_one (ps_ret pe_bl)) pss_nil)
      (pss_cons (ps_set (i := 3) sc_is_deed.nd rfl (.inl rfl) (pe_slice sl_tup (pv 0) (po_some pe_int) po_none))
      (pss_one (ps_ret (pe_and (pe_cmpR op_eq (pe_callB call_len_seq (by rfl) mn PySem.boot_len (pa_cons (pv 3) pa_nil)) (pe_ix ix_kdict (pe_glob (v := .ref pl) (by rfl) gP rfl) (pv 2) (fun _ _ => rfl)) (nomark _))
        (pe_one (pe_callB (cr_all rfl) (by rfl) ma (by decide +kernel) (pa_cons
          (pe_lc (own := [("number", 4)]) (g := gName 4) (by rfl) sc_is_deed.nd (pi_tup (pv 3)) (blkOk_by (own := [("number", 4)]) (N := N_is_deed) (sc := defScope s_is_deed) (by decide +kernel))
            (fun _ _ _ _ _ => pg_name (i := 4) sc_is_deed.nd rfl (Or.inl rfl)) (fun _ _ _ _ _ => pts_nil)
            (fun _ _ _ _ _ => pe_call GN hr (by rfl) gN kN bN .nil pass0 (pa_cons (pv 4) (pa_cons (pv 1) pa_nil)))) pa_nil))))))))), ?_⟩
    refine ⟨x, rfl, isi_tup hx ⟨_, rfl, ?_⟩⟩
    cases hi : isTup d with
    | false =>
      have e : deedA m d = false := by
        cases d <;> first | rfl | exact Bool.noConfusion hi
      rw [e] at q
      exact q H (Same.refl H)
    | true =>
    obtain ⟨ds, rfl⟩ : ∃ ds, d = .tuple ds := by
      cases d <;> first | exact ⟨_, rfl⟩ | exact Bool.noConfusion hi
    obtain ⟨r, xs, rfl, nr, er, hs⟩ := any_tup hx
    have hlen := tup_len nc
    refine ⟨.ref r, rfl, r, _, rfl, .inr (SqT.of er), ⟨rfl, _, rfl, ite2 (fun e => ?_) (fun e => ?_)⟩⟩
    · have e2 := intEq e
      have e3 : xs = [] := List.length_eq_zero_iff.mp (by omega)
      subst e3
      cases hs
      exact q H (Same.refl H)
    cases hs with
    | nil => exact absurd (decide_eq_true rfl) e
    | @cons x0 xr d0 dr h0 ht =>
    have lr := all_len ht
    refine ⟨.ref r, rfl, r, _, 0, x0, rfl, rfl, SqT.of er, atI_nat (j := 0) rfl, ?_⟩
    refine ⟨x0, rfl, isi_str h0 ⟨_, rfl, ?_⟩⟩
    cases hj : isStrD d0 with
    | false =>
      have e : deedA m (.tuple (d0 :: dr)) = false := by
        cases d0 <;> first | rfl | exact Bool.noConfusion hj
      rw [e] at q
      exact q H (Same.refl H)
    | true =>
    obtain ⟨t0, rfl⟩ : ∃ t0, d0 = .str t0 := by
      cases d0 <;> first | exact ⟨_, rfl⟩ | exact Bool.noConfusion hj
    obtain rfl := any_str h0
    have q : ∀ H', Same H H' → Q (.bl (numsA m t0 dr)) H' := q
    by_cases hw : ∃ c, (t0, c) ∈ fwL
    · obtain ⟨c, hc⟩ := hw
      rw [numsA_at hc] at q
      obtain ⟨t, ht2⟩ := D.at_ _ hc
      refine ⟨.str t0, rfl, t0, _, rfl, rfl, ht2, false, rfl, ?_⟩
      refine ⟨.ref r, rfl, 1, rfl, r, _, rfl, SqT.of er, notWhole _ _, fun T hT => ?_⟩
      rw [show cutV (V.str t0 :: xr) (some 1) none = xr from cutTail _ _]
      have sT := same_new (o := .tup xr) hT
      refine ⟨.ref T, rfl, T, _, rfl, .inr (SqT.of upd_same), .str t0, rfl, pl, t0, .int c, rfl, rfl, ⟨es, n, _, D.d.at_, D.d.lit, ht2, ⟨t, rfl⟩⟩, ⟨rfl, _, rfl, ite2 (fun he => ?_) (fun he => ?_)⟩⟩
      · have e3 := intEq he
        rw [lr] at e3
        rw [decide_eq_true e3.symm, Bool.true_and] at q
        refine ⟨.ref T, rfl, T, rfl, ⟨_, SqT.of upd_same⟩, fun C hC => ?_⟩
        have sC : ∀ o, Same (upd H T (.tup xr)) (upd (upd H T (.tup xr)) C o) := fun o => same_new hC
        refine lc_tup (K := K) (a := T) (xs := xr) (fun j H4 => H4 = upd (upd H T (.tup xr)) C (.lst (((dr.take j).map (belowD m)).map V.bl))) rfl (fun j H4 _ h4 => ?_) (fun j x H4 hx4 h4 => ?_) (fun H4 h4 => ?_)
        · rw [h4]
          exact SqT.of (sC _ _ _ upd_same)
        · subst h4
          have hj4 := (List.getElem?_eq_some_iff.mp hx4).1
          obtain ⟨z, hz, az⟩ := all_get ht hx4
          refine ⟨rfl, x, rfl, .int m, rfl, N, x, z, m, rfl, any_same (sT.trans (sC _)) az, _, upd_same, ?_, ?_⟩
          · rw [List.length_map, List.length_map, List.length_take, sizeLine_eq]
            simp only [List.length_cons] at hlen
            omega
          · rw [upd_upd, List.take_add_one, hz]
            simp
        · have eC : H4 C = some (.lst ((dr.map (belowD m)).map V.bl)) := by rw [h4, upd_same, lr, List.take_length]
          have s4 : Same (upd H T (.tup xr)) H4 := by rw [h4]; exact sC _
          refine ⟨C, _, rfl, .inl (.inl eC), ?_⟩
          have ea : (dr.map (belowD m)).all id = dr.all (belowD m) := by rw [List.all_map]; rfl
          rw [ea]
          exact q H4 (sT.trans s4)
      · have e3 := intNe he
        rw [lr] at e3
        rw [decide_eq_false (fun z => e3 z.symm), Bool.false_and] at q
        exact q _ sT
    · have hno : ∀ q ∈ fwL, ¬ q.1 = t0 := fun q' hq e => hw ⟨q'.2, by rw [← e]; exact hq⟩
      rw [numsA_no hno] at q
      refine ⟨.str t0, rfl, t0, _, rfl, rfl, ns_no D.d.at_ D.ks hno, true, rfl, ?_⟩
      exact q H (Same.refl H)
/-! ### are_deeds, is_row of anything -/
theorem ncl_mem {b k : Nat} : ∀ {xs : List PyData}, PyData.showableAll xs = true → PyData.leavesShortAll 62 xs = true → PyData.bulkAll xs ≤ b → PyData.depthAll xs ≤ k → ∀ x ∈ xs, NcB b k x
  | [], _, _, _, _, x, h => by cases h
  | y :: ys, h1, h2, h3, h4, x, h => by
    simp only [PyData.showableAll, Bool.and_eq_true] at h1
    simp only [PyData.leavesShortAll, Bool.and_eq_true] at h2
    simp only [PyData.bulkAll] at h3
    simp only [PyData.depthAll] at h4
    rcases List.mem_cons.mp h with rfl | h
    · exact ⟨h1.1, h2.1, by omega, by omega⟩
    · exact ncl_mem h1.2 h2.2 (by omega) (by omega) x h
theorem ncb_in {b k : Nat} {xs : List PyData} (h : NcB b k (.tuple xs)) : ∀ x ∈ xs, NcB b k x := by
  obtain ⟨h1, h2, h3, h4⟩ := h
  simp only [PyData.showable] at h1
  simp only [PyData.leavesShort] at h2
  simp only [PyData.bulk] at h3
  simp only [PyData.depth] at h4
  exact ncl_mem h1 h2 h3 (by omega)
def spAd : Sp := fun vs H Q _ => ∃ (N : Addr → Prop) (x : V) (d : PyData) (m : Int) (b k : Nat), vs = [x, .int m] ∧ AnyAt N H x d ∧ NcB b k d ∧ b ≤ 30000 ∧ ∀ H', Same H H' → Q (.bl (match d with | .tuple ds => decide (ds.length ≤ 8) && (deedsA m ds).all id | _ => false)) H'
theorem ok_ad {f fE : Addr} {t : Tok} {fd fdE : FuncData} {k : Nat} (F : Fun K "are_deeds" "are_deeds" s_are_deeds f fd) (GE : FnOk P w K mg base CX0 (k + 3) fE fdE ["thing", "ahead"] spDe) (kE : PySem.W.keepIn K (.ref fE) = true) (bE : Binds K fdE ["thing", "ahead"] []) (gE : mg "is_deed" = some (.ref fE))
    (gM : mg "MOST_DEEDS" = some (.int 8 t)) (mi : mg "isinstance" = none) (mt : mg "tuple" = none) (mn : mg "len" = none) (ma : mg "all" = none) (me : mg "enumerate" = none) : FnOk P w K mg base CX0 (k + 4) f fd ["thing", "many"] spAd := by
  refine F.ok sc_are_deeds (fun vs H Q E h => ?_) (fun cdv A outer s H vs Q E hr h => ?_)
  · obtain ⟨N, x, d, m, b, k, rfl, _⟩ := h
    rfl
  · obtain ⟨N, x, d, m, b, kk, rfl, hx, nc, hb, q⟩ := h
    refine ⟨_, pss_cons (ps_if (PW.pt (pw_or (pt_not (pt_val (pe_callB call_isi (by rfl) mi (by decide +kernel) (pa_cons (pv 0) (pa_cons (pe_bltn (v := .ty "tuple") (by rfl) mt (by decide +kernel) rfl) pa_nil))))) (pw_or1 (pt_cmpR op_gt (pe_callB call_len_seq (by rfl) mn PySem.boot_len (pa_cons (pv 0) pa_nil)) (pe_glob (v := .int 8) (by rfl) gM ⟨t, rfl⟩) (nomark _))))) (pss_one (ps_ret pe_bl)) pss_nil)
      (pss_one (ps_ret (pe_callB (cr_all rfl) (by rfl) ma (by decide +kernel) (pa_cons
        (pe_lc (own := [("at", 2), ("deed", 3)]) (g := gTup K 2 (gCons (gName 2) (gCons (gName 3) gNil))) (by rfl) sc_are_deeds.nd (pi_enumT (by rfl) me (pa_cons (pv 0) pa_nil)) (blkOk_by (own := [("at", 2), ("deed", 3)]) (N := N_are_deeds) (sc := defScope s_are_deeds) (by decide +kernel))
          (fun _ _ _ _ _ => pg_tup rfl (pgs_cons (pg_name (i := 2) sc_are_deeds.nd rfl (.inl rfl)) (pgs_cons (pg_name (i := 3) sc_are_deeds.nd rfl (.inl rfl)) pgs_nil))) (fun _ _ _ _ _ => pts_nil)
          (fun _ _ _ _ _ => pe_call GE hr (by rfl) gE kE bE .nil pass0 (pa_cons (pv 3) (pa_cons (pe_op op_add (pv 1) (pv 2)) pa_nil)))) pa_nil)))), ?_⟩
    refine ⟨x, rfl, isi_tup hx ⟨_, rfl, ?_⟩⟩
    cases hi : isTup d with
    | false =>
      cases d <;> first | exact q H (Same.refl H) | exact Bool.noConfusion hi
    | true =>
    obtain ⟨ds, rfl⟩ : ∃ ds, d = .tuple ds := by
      cases d <;> first | exact ⟨_, rfl⟩ | exact Bool.noConfusion hi
    obtain ⟨D, xs, rfl, nD, eD, hs⟩ := any_tup hx
    have q : ∀ H', Same H H' → Q (.bl (decide (ds.length ≤ 8) && (deedsA m ds).all id)) H' := q
    have lr := all_len hs
    refine ⟨.ref D, rfl, D, _, rfl, .inr (SqT.of eD), _, 8, rfl, rfl, _, rfl, ite2 (fun e => ?_) (fun e => ?_)⟩
    · have e2 := of_decide_eq_true e
      rw [lr] at e2
      rw [decide_eq_false (by omega), Bool.false_and] at q
      exact q H (Same.refl H)
    have h8 : ds.length ≤ 8 := by
      by_cases h : ds.length ≤ 8
      · exact h
      · exact absurd (decide_eq_true (by rw [lr]; omega)) e
    rw [decide_eq_true h8, Bool.true_and] at q
    refine ⟨.ref D, rfl, D, _, rfl, SqT.of eD, fun C hC => ?_⟩
    refine lc_it (walk_enumT (K := K) (a := D) (xs := xs)) (fun j H4 => H4 C = some (.lst ((deedsA m (ds.take j)).map V.bl)) ∧ Same H H4) ⟨upd_same, same_new hC⟩ (fun j H4 _ h4 => SqT.of (h4.2 _ _ eD)) (fun j x H4 H5 hj h4 hx => ?_) (fun H4 h4 => ?_)
    · obtain ⟨eC, s4⟩ := h4
      obtain ⟨U, x1, x2, rfl, hU, rfl, g1, g2⟩ := hx
      obtain rfl : x1 = .int (j : Nat) := (Option.some.inj g1).symm
      have g2 : xs[j]? = some x2 := g2
      obtain ⟨p, hd1, hd2⟩ := all_get hs g2
      have hj3 : j < ds.length := (List.getElem?_eq_some_iff.mp hd1).1
      have sU := same_new (o := .tup [.int (j : Nat), x2]) hU
      refine ⟨U, [.int (j : Nat), x2], rfl, .inl (.inl upd_same), rfl, .int (j : Nat), [x2], rfl, x2, [], rfl, rfl, rfl, x2, rfl, .int m, rfl, .int (j : Nat), rfl, m, (j : Nat), rfl, rfl, N, x2, p, m + (j : Nat), b, kk, rfl, any_same (s4.trans sU) hd2, ncb_in nc p (List.mem_of_getElem? hd1), hb, fun H6 s6 => ⟨_, s6 _ _ (sU _ _ eC), ?_, ?_, fun b u z => ?_⟩⟩
      · unfold deedsA
        rw [List.length_map, List.length_mapIdx, List.length_take]
        exact small1000 (by omega)
      · rw [upd_same, List.take_add_one, hd1]
        unfold deedsA
        rw [List.mapIdx_append, List.map_append, List.length_take, Nat.min_eq_left (by omega)]
        simp
      · rw [upd_ne (ne_of_none z hC)]
        exact s6 _ _ (sU _ _ (s4 b u z))
    · obtain ⟨eC, s4⟩ := h4
      rw [lr, List.take_length] at eC
      exact ⟨C, _, rfl, .inl (.inl eC), q H4 s4⟩
def spIr : Sp := fun vs H Q _ => ∃ (N : Addr → Prop) (x : V) (d : PyData) (b k : Nat), vs = [x] ∧ AnyAt N H x d ∧ NcB b k d ∧ b ≤ 30000 ∧ ∀ H', Same H H' → Q (.bl (rowA d)) H'
theorem ok_ir {f fW fA fN : Addr} {t : Tok} {fd fdW fdA fdN : FuncData} {k : Nat} (F : Fun K "is_row" "is_row" s_is_row f fd) (GW : FnOk P w K mg base CX0 (k + 1) fW fdW ["thing"] spWhA) (kW : PySem.W.keepIn K (.ref fW) = true) (bW : Binds K fdW ["thing"] []) (gW : mg "is_whole" = some (.ref fW))
    (GA : FnOk P w K mg base CX0 (k + 4) fA fdA ["thing", "many"] spAd) (kA : PySem.W.keepIn K (.ref fA) = true) (bA : Binds K fdA ["thing", "many"] []) (gA : mg "are_deeds" = some (.ref fA))
    (GN : FnOk P w K mg base CX0 (k + 2) fN fdN ["thing", "many"] spNb) (kN : PySem.W.keepIn K (.ref fN) = true) (bN : Binds K fdN ["thing", "many"] []) (gN : mg "is_number_below" = some (.ref fN))
    (gM : mg "MOST_INPUTS" = some (.int 3 t)) (mi : mg "isinstance" = none) (mt : mg "tuple" = none) (mn : mg "len" = none) : FnOk P w K mg base CX0 (k + 5) f fd ["thing"] spIr := by
  refine F.ok sc_is_row (fun vs H Q E h => ?_) (fun cdv A outer s H vs Q E hr h => ?_)
  · obtain ⟨N, x, d, b, k, rfl, _⟩ := h
    rfl
  · obtain ⟨N, x, d, b, kk, rfl, hx, nc, hb, q⟩ := h
    have r1 := hr.mono (show k + 1 ≤ k + 4 by omega)
    have r2 := hr.mono (show k + 2 ≤ k + 4 by omega)
    refine ⟨_, pss_cons (ps_if (PW.pt (pw_or (pt_not (pt_val (pe_callB call_isi (by rfl) mi (by decide +kernel) (pa_cons (pv 0) (pa_cons (pe_bltn (v := .ty "tuple") (by rfl) mt (by decide +kernel) rfl) pa_nil))))) (pw_or1 (pt_cmpR op_ne (pe_callB call_len_seq (by rfl) mn PySem.boot_len (pa_cons (pv 0) pa_nil)) pe_int (nomark _))))) (pss_one (ps_ret pe_bl)) pss_nil)
      (pss_cons (ps_asg (pv 0) (pg_tup rfl (pgs_cons (pg_name (i := 1) sc_is_row.nd rfl (.inl rfl)) (pgs_cons (pg_name (i := 2) sc_is_row.nd rfl (.inl rfl)) (pgs_cons (pg_name (i := 3) sc_is_row.nd rfl (.inl rfl)) pgs_nil)))))
      (pss_cons (ps_if (PW.pt (pw_or (pt_not (pt_val (pe_call GW r1 (by rfl) gW kW bW .nil pass0 (pa_cons (pv 1) pa_nil)))) (pw_or1 (pt_not (pt_chain op_le op_le pe_int (pv 1) (pe_glob (v := .int 3) (by rfl) gM ⟨t, rfl⟩)))))) (pss_one (ps_ret pe_bl)) pss_nil)
      (pss_one (ps_ret (pe_and (pe_call GA hr (by rfl) gA kA bA .nil pass0 (pa_cons (pv 2) (pa_cons (pv 1) pa_nil))) (pe_one (pe_call GN r2 (by rfl) gN kN bN .nil pass0 (pa_cons (pv 3) (pa_cons (pe_op op_add (pv 1) (pe_callB call_len_seq (by rfl) mn PySem.boot_len (pa_cons (pv 2) pa_nil))) pa_nil))))))))), ?_⟩
    refine ⟨x, rfl, isi_tup hx ⟨_, rfl, ?_⟩⟩
    cases hi : isTup d with
    | false =>
      cases d <;> first | exact q H (Same.refl H) | exact Bool.noConfusion hi
    | true =>
    obtain ⟨ds, rfl⟩ : ∃ ds, d = .tuple ds := by
      cases d <;> first | exact ⟨_, rfl⟩ | exact Bool.noConfusion hi
    obtain ⟨R, xs, rfl, nR, eR, hs⟩ := any_tup hx
    have lr := all_len hs
    refine ⟨.ref R, rfl, R, _, rfl, .inr (SqT.of eR), ⟨rfl, _, rfl, ite2 (fun e => ?_) (fun e => ?_)⟩⟩
    · have e3 : ¬ ds.length = 3 := by
        intro z
        rw [lr, z] at e
        exact absurd e (by decide)
      have : rowA (.tuple ds) = false := by
        match ds, e3 with
        | [], _ => rfl
        | [x], _ => cases x <;> rfl
        | [x, y], _ => cases x <;> first | rfl | (cases y <;> rfl)
        | [_, _, _], e => exact absurd rfl e
        | x :: y :: _ :: _ :: _, _ => cases x <;> first | rfl | (cases y <;> rfl)
      rw [this] at q
      exact q H (Same.refl H)
    have e3 : ds.length = 3 := by
      by_cases z : ds.length = 3
      · exact z
      · exfalso
        apply e
        rw [lr]
        simp only [ne_eq, decide_not, Bool.not_eq_true', decide_eq_false_iff_not, V.int.injEq]
        omega
    match ds, e3, xs, hs with
    | [d1, d2, d3], _, [x1, x2, x3], .cons h1 (.cons h2 (.cons h3 .nil)) => ?_
    refine ⟨.ref R, rfl, R, _, rfl, SqT.of eR, rfl, _, _, rfl, _, _, rfl, _, _, rfl, rfl, ?_⟩
    refine ⟨x1, rfl, N, x1, d1, rfl, h1, isInt d1, rfl, ?_⟩
    cases hi : isInt d1 with
    | false =>
      have : rowA (.tuple [d1, d2, d3]) = false := by
        cases d1 <;> first | rfl | exact Bool.noConfusion hi
      rw [this] at q
      exact q H (Same.refl H)
    | true =>
    obtain ⟨m, rfl⟩ : ∃ m, d1 = .int m := by
      cases d1 <;> first | exact ⟨_, rfl⟩ | exact Bool.noConfusion hi
    obtain rfl := any_int h1
    have no13 : ¬ (1 ≤ m ∧ m ≤ 3) → ∀ H', Same H H' → Q (.bl false) H' := fun hn H' s' => by
      have q2 := q H' s'
      have : rowA (.tuple [.int m, d2, d3]) = false := by
        cases d2 <;> first | rfl | (show (decide (1 ≤ m ∧ m ≤ 3) && _) = false; rw [decide_eq_false hn, Bool.false_and])
      rw [this] at q2
      exact q2
    refine ⟨.int m, rfl, 1, m, rfl, rfl, _, rfl, ?_⟩
    by_cases g1 : 1 ≤ m
    · rw [decide_eq_true g1]
      refine ⟨m, 3, rfl, rfl, _, rfl, ?_⟩
      by_cases g3 : m ≤ 3
      · rw [decide_eq_true g3]
        refine ⟨x2, rfl, .int m, rfl, N, x2, d2, m, b, kk, rfl, h2, ncb_in nc d2 (by simp), hb, fun H2 s2 => ⟨_, rfl, ?_⟩⟩
        have q2 := q H2 s2
        cases hj : isTup d2 with
        | false =>
          have e1 : rowA (.tuple [.int m, d2, d3]) = false := by
            cases d2 <;> first | rfl | exact Bool.noConfusion hj
          rw [e1] at q2
          cases d2 <;> first | exact q2 | exact Bool.noConfusion hj
        | true =>
        obtain ⟨es, rfl⟩ : ∃ es, d2 = .tuple es := by
          cases d2 <;> first | exact ⟨_, rfl⟩ | exact Bool.noConfusion hj
        obtain ⟨D, ys, rfl, nD, eD, hys⟩ := any_tup h2
        have q2 : Q (.bl (decide (1 ≤ m ∧ m ≤ 3) && (decide (es.length ≤ 8) && ((deedsA m es).all id && belowD (m + es.length) d3)))) H2 := q2
        rw [decide_eq_true ⟨g1, g3⟩, Bool.true_and, ← Bool.and_assoc] at q2
        refine ite2 (fun hb => ?_) (fun hb => ?_)
        · have hb : (decide (es.length ≤ 8) && (deedsA m es).all id) = true := hb
          rw [hb, Bool.true_and] at q2
          refine ⟨x3, rfl, .int m, rfl, .ref D, rfl, D, _, rfl, .inr (SqT.of (s2 _ _ eD)), m, _, rfl, rfl, N, x3, d3, m + ((ys.length : Nat) : Int), rfl, any_same s2 h3, ?_⟩
          rw [all_len hys]
          exact q2
        · have hb' : (decide (es.length ≤ 8) && (deedsA m es).all id) = false := by simpa using hb
          rw [hb', Bool.false_and] at q2
          exact q2
      · rw [decide_eq_false g3]
        exact no13 (fun z => g3 z.2) H (Same.refl H)
    · rw [decide_eq_false g1]
      exact ⟨false, rfl, no13 (fun z => g1 z.1) H (Same.refl H)⟩
/-! ### dicts whose keys are nested tuples of ints -/
mutual
inductive NkAt (H : Hp) : NestedKey → V → Prop
  | num (i : Int) : NkAt H (.num i) (.int i)
  | str (x : Str) : NkAt H (.text x) (.str x)
  | tup {a : Addr} {xs : List V} {ks : List NestedKey} : H a = some (.tup xs) → NkAll H ks xs → NkAt H (.tup ks) (.ref a)
inductive NkAll (H : Hp) : List NestedKey → List V → Prop
  | nil : NkAll H [] []
  | cons {k : NestedKey} {v : V} {ks : List NestedKey} {vs : List V} : NkAt H k v → NkAll H ks vs → NkAll H (k :: ks) (v :: vs)
end
section nds
variable {X : Cx}
mutual
theorem nk_is {pins : List (Addr × Obj)} {σ : L2.St} {H : Hp} {s : Shared} (I : Inv X pins σ H s) : ∀ (k : NestedKey) (v : V) (u : Value), NkAt H k v → RelV v u → NestedIs s.heap k u
  | .none, _, _, h, _ => nomatch h
  | .text x, _, _, h, r => by
    cases h
    obtain ⟨t, rfl⟩ := r
    exact .text _ _
  | .num i, _, _, h, r => by
    cases h
    obtain ⟨t, rfl⟩ := r
    exact .int _ _
  | .tup ks, _, _, h, r => by
    cases h with
    | tup e hs =>
      cases r
      obtain ⟨_, its, rv, o, ho, hc, n, hd⟩ := I.hok _ _ e
      exact .tup ho hc hd (by simpa using nks_is I ks _ _ hs rv)
theorem nks_is {pins : List (Addr × Obj)} {σ : L2.St} {H : Hp} {s : Shared} (I : Inv X pins σ H s) : ∀ (ks : List NestedKey) (vs : List V) (us : List Value), NkAll H ks vs → Vals vs us → NestedAll s.heap ks us
  | [], _, _, h, r => by
    cases h
    cases r
    exact .nil
  | k :: ks, _, _, h, r => by
    cases h with
    | cons h1 h2 =>
      cases r with
      | cons r1 r2 => exact .cons (nk_is I k _ _ h1 r1) (nks_is I ks _ _ h2 r2)
end
mutual
theorem nk_stay {H H' : Hp} (t : TupsStay H H') : ∀ (k : NestedKey) (v : V), NkAt H k v → NkAt H' k v
  | .none, _, h => nomatch h
  | .text x, _, h => by
    cases h
    exact .str x
  | .num i, _, h => by
    cases h
    exact .num i
  | .tup ks, _, h => by
    cases h with
    | tup e hs => exact .tup (t _ _ e) (nks_stay t ks _ hs)
theorem nks_stay {H H' : Hp} (t : TupsStay H H') : ∀ (ks : List NestedKey) (vs : List V), NkAll H ks vs → NkAll H' ks vs
  | [], _, h => by
    cases h
    exact .nil
  | k :: ks, _, h => by
    cases h with
    | cons h1 h2 => exact .cons (nk_stay t k _ h1) (nks_stay t ks _ h2)
end
abbrev NE := NestedKey × Addr × V
abbrev NRel : List NE → List (NestedKey × Addr × Value) → Prop := Paired fun p q => p.1 = q.1 ∧ p.2.1 = q.2.1 ∧ RelV p.2.2 q.2.2
def NDO (P : Program) (w : World) (a : Addr) (xs : List NE) : HO := .ext fun h => xs.length ≤ sizeLine ∧ (a == sysModules) = false ∧ ∃ ys, NRel xs ys ∧ ∃ o es ep, h.get? a = some o ∧ o.ExactDict ∧ o.data = .dict es ep ∧ es.toList = ys.map (entryOfKey (nestedKind P w)) ∧ (ys.map (·.1)).Nodup
theorem ndo_ok {P : Program} {w : World} {H : Hp} {h : Heap} {a : Addr} {xs : List NE} {ys : List (NestedKey × Addr × Value)} (hz : xs.length ≤ sizeLine) (hd : (a == sysModules) = false) (r : NRel xs ys) (dd : h.DictOfH (nestedKind P w) a ys) : ObjOk P w H h a (NDO P w a xs) := by
  obtain ⟨o, es, ep, h1, h2, h3, h4, _, h5⟩ := dd
  refine ⟨⟨hz, hd, ys, r, o, es, ep, h1, h2, h3, h4, h5⟩, ⟨o, h1⟩, ?_⟩
  rintro g1 g2 ⟨z1, z2, ys, z3, o, es, ep, z4, z5⟩ k
  exact ⟨z1, z2, ys, z3, o, es, ep, k o z4, z5⟩
structure ND (P : Program) (w : World) (H : Hp) (a : Addr) (xs : List NE) : Prop where
  ob : H a = some (NDO P w a xs)
  ks : ∀ p ∈ xs, NkAt H p.1 (.ref p.2.1) ∧ p.1.depth ≤ 8
theorem ND.full {pins : List (Addr × Obj)} {σ : L2.St} {H : Hp} {s : Shared} {a : Addr} {xs : List NE} (I : Inv X pins σ H s) (h : ND X.prog X.w H a xs) : xs.length ≤ sizeLine ∧ (a == sysModules) = false ∧ ∃ ys, NRel xs ys ∧ s.heap.DictOfH (nestedKind X.prog X.w) a ys := by
  obtain ⟨⟨z1, z2, ys, z3, o, es, ep, z4, z5, z6, z7, z8⟩, _⟩ := I.hok a _ h.ob
  refine ⟨z1, z2, ys, z3, o, es, ep, z4, z5, z6, z7, fun y hy => ?_, z8⟩
  obtain ⟨i, hi⟩ := List.mem_iff_getElem?.mp hy
  obtain ⟨p, hp, e1, e2, _⟩ := awGet2 z3 hi
  obtain ⟨k1, k2⟩ := h.ks p (List.mem_of_getElem? hp)
  rw [e1, e2] at k1
  rw [e1] at k2
  exact ⟨nk_is I _ _ _ k1 rfl, k2⟩
def getN (xs : List NE) (k : NestedKey) : Option V := (xs.find? fun x => decide (x.1 = k)).map (·.2.2)
theorem getN_rel {k : NestedKey} : ∀ {xs : List NE} {ys : List (NestedKey × Addr × Value)}, NRel xs ys → RelO (getN xs k) ((atKey ys k).map (·.2))
  | _, _, .nil => trivial
  | x :: _, y :: _, .cons ⟨e1, _, e3⟩ t => by
    have ih := getN_rel (k := k) t
    unfold getN atKey at *
    rw [List.find?_cons, List.find?_cons, ← e1]
    by_cases h : x.1 = k
    · rw [decide_eq_true h]
      exact e3
    · rw [decide_eq_false h]
      exact ih
theorem getN_none {k : NestedKey} {xs : List NE} : getN xs k = none ↔ ∀ p ∈ xs, p.1 ≠ k := by
  unfold getN
  rw [Option.map_eq_none_iff, List.find?_eq_none]
  simp
theorem getN_some {k : NestedKey} {xs : List NE} {v : V} (h : getN xs k = some v) : ∃ b, (k, b, v) ∈ xs := by
  unfold getN at h
  cases e : xs.find? fun x => decide (x.1 = k) with
  | none => rw [e] at h; cases h
  | some p =>
    rw [e] at h
    have h2 : p.1 = k := of_decide_eq_true (List.find?_some (p := fun x : NE => decide (x.1 = k)) e)
    obtain rfl : p.2.2 = v := Option.some.inj h
    exact ⟨p.2.1, h2 ▸ List.mem_of_find?_eq_some e⟩
theorem getN_snoc {k j : NestedKey} {b : Addr} {v : V} {xs : List NE} (hn : getN xs k = none) : getN (xs ++ [(k, b, v)]) j = if j = k then some v else getN xs j := by
  unfold getN at *
  rw [List.find?_append]
  by_cases h : j = k
  · subst h
    rw [if_pos rfl, Option.map_eq_none_iff.mp hn]
    simp
  · rw [if_neg h]
    have hk : ¬ k = j := fun z => h z.symm
    cases xs.find? fun x => decide (x.1 = j) with
    | none => simp [hk]
    | some p => rfl
theorem nd_stay {P : Program} {w : World} {H H' : Hp} {a : Addr} {xs : List NE} (h : ND P w H a xs) (e : H' a = some (NDO P w a xs)) (t : TupsStay H H') : ND P w H' a xs := ⟨e, fun p hp => ⟨nk_stay t _ _ (h.ks p hp).1, (h.ks p hp).2⟩⟩
theorem nd_same {P : Program} {w : World} {H H' : Hp} {a : Addr} {xs : List NE} (h : ND P w H a xs) (s : Same H H') : ND P w H' a xs := nd_stay h (s _ _ h.ob) (Same.tups s)
/-- {} -/
theorem pe_ndnew {P : Program} {w : World} (hP : X.prog = P) (hw : X.w = w) {pos : Pos} : PE X (.Dict [] [] pos) (fun _ H Q => ∀ p, H p = none → Q (.ref p) (upd H p (NDO P w p []))) := by
  subst hP hw
  constructor
  intro pins s σ H Q I h
  have ok : ObjOk X.prog X.w (upd H s.heap.objs.size (NDO X.prog X.w s.heap.objs.size [])) (s.heap.push { cls := .type "dict", data := .dict #[] }) s.heap.objs.size (NDO X.prog X.w s.heap.objs.size []) :=
    ndo_ok (Nat.zero_le _) (beq_eq_false_iff_ne.mpr (Ne.symm (Nat.ne_of_lt I.big))) .nil (Heap.DictOfH.new s.heap)
  exact wpAny_Dict_empty ⟨.ref _, _, I.laid (t' := s.toks) (fun _ _ z => Heap.get?_push_of_some _ z) (Nat.le_refl _) ok, rfl, h _ (I.hok.fresh (Nat.le_refl _))⟩
theorem nd_nil {P : Program} {w : World} {H : Hp} {a : Addr} : ND P w (upd H a (NDO P w a [])) a [] := ⟨upd_same, (fun _ z => nomatch z)⟩
/-- what is asked of a key -/
def KeyN (H : Hp) (y : V) (k : NestedKey) : Prop := NkAt H k y ∧ k.depth ≤ 8 ∧ ∃ b, y = .ref b
def tNGet (P : Program) (w : World) (td ty : TE) : TE := fun σ H Q => td σ H fun x H1 => ty σ H1 fun y H2 => ∃ a xs k v, x = .ref a ∧ ND P w H2 a xs ∧ KeyN H2 y k ∧ getN xs k = some v ∧ Q v H2
def tNNotIn (P : Program) (w : World) (ty td : TE) : TE := fun σ H Q => ty σ H fun y H1 => td σ H1 fun x H2 => ∃ a xs k, x = .ref a ∧ ND P w H2 a xs ∧ KeyN H2 y k ∧ Q (.bl (!(getN xs k).isSome)) H2
def sNPut (P : Program) (w : World) (td ty tv : TE) : TS := fun D σ H => tv σ H fun v H1 => td σ H1 fun x H2 => ty σ H2 fun y H3 => ∃ a xs k b, x = .ref a ∧ ND P w H3 a xs ∧ y = .ref b ∧ KeyN H3 y k ∧ getN xs k = none ∧ xs.length < sizeLine ∧ D.nx σ (upd H3 a (NDO P w a (xs ++ [(k, b, v)])))
theorem nd_put {P : Program} {w : World} {H : Hp} {a b : Addr} {xs : List NE} {k : NestedKey} {v : V} (h : ND P w H a xs) (hk : KeyN H (.ref b) k) : ND P w (upd H a (NDO P w a (xs ++ [(k, b, v)]))) a (xs ++ [(k, b, v)]) := by
  have t : TupsStay H (upd H a (NDO P w a (xs ++ [(k, b, v)]))) := fun c ys e => by
    rw [upd_ne (ne_of e h.ob (fun z => nomatch z))]
    exact e
  refine ⟨upd_same, fun p hp => ?_⟩
  rcases List.mem_append.mp hp with hp | hp
  · exact ⟨nk_stay t _ _ (h.ks p hp).1, (h.ks p hp).2⟩
  · rw [List.mem_singleton.mp hp]
    exact ⟨nk_stay t _ _ hk.1, hk.2.1⟩
theorem nd_at {pins : List (Addr × Obj)} {σ : L2.St} {H : Hp} {s : Shared} {y : V} {k : NestedKey} {u : Value} (I : Inv X pins σ H s) (hk : KeyN H y k) (r : RelV y u) : ∃ b, u = .ref b ∧ y = .ref b ∧ (nestedKind X.prog X.w).is s.heap k b := by
  obtain ⟨h1, h2, b, rfl⟩ := hk
  obtain rfl : u = Value.ref b := r
  exact ⟨b, rfl, rfl, nk_is I _ _ _ h1 rfl, h2⟩
theorem nrel_none {k : NestedKey} {xs : List NE} {ys : List (NestedKey × Addr × Value)} (r : NRel xs ys) (h : getN xs k = none) : atKey ys k = none := by
  have z := getN_rel (k := k) r
  rw [h] at z
  cases e : atKey ys k with
  | none => rfl
  | some p => rw [e] at z; exact z.elim
theorem pe_ndget {P : Program} {w : World} (hP : X.prog = P) (hw : X.w = w) {o i : Expr} {td ty : TE} {pos : Pos} (hu : X.A.units + 64 < cLine) (ho : PE X o td) (hi : PE X i ty) (hs : NoSl i) : PE X (.Subscript o i pos) (tNGet P w td ty) := by
  subst hP hw
  constructor
  intro pins s σ H Q I h
  refine subD_of PySem.F.slot_dict_getitem.lookup hs (thn (ho.run pins s σ H _ I h) ?_)
  rintro u s1 ⟨x, H1, I1, rx, q1⟩
  refine thn (hi.run pins s1 σ H1 _ I1 q1) ?_
  rintro iv s2 ⟨y, H2, I2, ry, a, xs, k, v, rfl, hn, hk, hv, q2⟩
  obtain rfl : u = Value.ref a := rx
  obtain ⟨b, rfl, rfl, hb⟩ := nd_at I2 hk ry
  obtain ⟨_, hd, ys, r, dd⟩ := hn.full I2
  have z := getN_rel (k := k) r
  rw [hv] at z
  cases e : atKey ys k with
  | none => rw [e] at z; exact z.elim
  | some p =>
    rw [e] at z
    exact ⟨dd.typeIs, wpAny_getItem_heap (knd := nestedKind X.prog X.w) (show X.A.in1.units + 8 < cLine by show X.A.units + 1 + 8 < cLine; omega) hb dd e ⟨v, H2, I2.tok _, z, q2⟩⟩
theorem pc_ndnotin {P : Program} {w : World} (hP : X.prog = P) (hw : X.w = w) {o i : Expr} {td ty : TE} (hu : X.A.units + 64 < cLine) (hi : PE X i ty) (ho : PE X o td) : PC X .NotIn i o (tNNotIn P w ty td) := by
  subst hP hw
  constructor
  intro pins s σ H Q I h
  refine thn (hi.run pins s σ H _ I h) ?_
  rintro iv s1 ⟨y, H1, I1, ry, q1⟩
  refine thn (ho.run pins s1 σ H1 _ I1 q1) ?_
  rintro u s2 ⟨x, H2, I2, rx, a, xs, k, rfl, hn, hk, q2⟩
  obtain rfl : u = Value.ref a := rx
  obtain ⟨b, rfl, rfl, hb⟩ := nd_at I2 hk ry
  obtain ⟨_, hd, ys, r, dd⟩ := hn.full I2
  have z := (getN_rel (k := k) r).isSome_eq
  rw [Option.isSome_map] at z
  refine notIn_keyed (knd := nestedKind X.prog X.w) (show X.A.in1.units + 8 < cLine by show X.A.units + 1 + 8 < cLine; omega) hb hd ⟨ys, dd, rfl⟩ ⟨.bl (!(getN xs k).isSome), H2, I2.tok _, ?_, q2⟩
  rw [valueAt_pairsH, Option.isSome_map, ← z]
  rfl
theorem nd_write {pins : List (Addr × Obj)} {σ : L2.St} {H : Hp} {s : Shared} {a b : Addr} {xs : List NE} {ys : List (NestedKey × Addr × Value)} {k : NestedKey} {v : V} {r : Value} {h' : Heap} {tk : Nat} (I : Inv X pins σ H s) (hn : ND X.prog X.w H a xs) (hl : xs.length < sizeLine) (rel : NRel xs ys) (hd : (a == sysModules) = false)
    (h0 : atKey ys k = none) (rv : RelV v r) (dd : h'.DictOfH (nestedKind X.prog X.w) a (storedH ys k b r)) (hs : Heap.SameBut a s.heap h') : Inv X pins σ (upd H a (NDO X.prog X.w a (xs ++ [(k, b, v)]))) { s with heap := h', toks := tk } := by
  rw [storedH_new h0] at dd
  have he : ∃ o, h'.get? a = some o := dd.elim fun o z => ⟨o, z.choose_spec.choose_spec.1⟩
  refine d_write I (by rw [hn.ob]; exact True.intro) hs he (ndo_ok ?_ hd (awSnoc (F := fun (p : NE) (q : NestedKey × Addr × Value) => p.1 = q.1 ∧ p.2.1 = q.2.1 ∧ RelV p.2.2 q.2.2) ⟨rfl, rfl, rv⟩ rel) dd)
  rw [List.length_append]
  exact hl
theorem ps_ndput {P : Program} {w : World} (hP : X.prog = P) (hw : X.w = w) {o i value : Expr} {td ty tv : TE} {pos pos' : Pos} (hu : X.A.units + 64 < cLine) (ho : PE X o td) (hi : PE X i ty) (hv : PE X value tv) (hs : swapsWith value (some (.Subscript o i pos')) pos.line X.env = pure false) :
    PS X (.Assign [.Subscript o i pos'] value pos) (sNPut P w td ty tv) := by
  subst hP hw
  constructor
  intro pins s σ H D I h
  refine wpAny_Assign_Subscript (thn (hv.run pins s σ H _ I h) ?_) hs
  rintro r s1 ⟨v, H1, I1, rv, q1⟩
  refine thn (ho.run pins s1 σ H1 _ I1 q1) ?_
  rintro u s2 ⟨x, H2, I2, rx, q2⟩
  refine thn (hi.run pins s2 σ H2 _ I2 q2) ?_
  rintro iv s3 ⟨y, H3, I3, ry, a, xs, k, b, rfl, hn, rfl, hk, hg, hl, q3⟩
  obtain rfl : u = Value.ref a := rx
  obtain ⟨b', rfl, eb, hb⟩ := nd_at I3 hk ry
  obtain rfl : b = b' := V.ref.inj eb
  obtain ⟨_, hd, ys, rel, dd⟩ := hn.full I3
  have hz : ys.length ≤ sizeLine := by
    have := awLen rel
    omega
  exact wpAny_setItem_heap (knd := nestedKind X.prog X.w) (hsz := hz) (show X.A.in1.units + 8 < cLine by show X.A.units + 1 + 8 < cLine; omega) hb dd fun h' dd' hs' => ⟨σ, _, nd_write I3 hn hl rel hd (nrel_none rel hg) rv dd' hs', q3⟩
/-- {t: v} -/
def tNDisp (P : Program) (w : World) (tk tv : TE) : TE := fun σ H Q => ∀ p, H p = none → tk σ (upd H p (NDO P w p [])) fun x H1 => tv σ H1 fun v H2 => ∃ b k, x = .ref b ∧ KeyN H2 x k ∧ H2 p = some (NDO P w p []) ∧ Q (.ref p) (upd H2 p (NDO P w p [(k, b, v)]))
theorem pe_ndisp {P : Program} {w : World} (hP : X.prog = P) (hw : X.w = w) {ek ev : Expr} {tk tv : TE} {pos : Pos} (hu : X.A.units + 64 < cLine) (hk : PE X ek tk) (hv : PE X ev tv) : PE X (.Dict [some ek] [ev] pos) (tNDisp P w tk tv) := by
  subst hP hw
  constructor
  intro pins s σ H Q I q
  have hn := I.hok.fresh (Nat.le_refl s.heap.objs.size)
  have ok : ObjOk X.prog X.w (upd H s.heap.objs.size (NDO X.prog X.w s.heap.objs.size [])) (s.heap.push { cls := .type "dict", data := .dict #[] }) s.heap.objs.size (NDO X.prog X.w s.heap.objs.size []) :=
    ndo_ok (Nat.zero_le _) (beq_eq_false_iff_ne.mpr (Ne.symm (Nat.ne_of_lt I.big))) .nil (Heap.DictOfH.new s.heap)
  have I1 := I.laid (t' := s.toks) (fun _ _ z => Heap.get?_push_of_some _ z) (Nat.le_refl _) ok
  rw [arm_eval_Dict, zip_pairTrees [some ek] [ev] X.env pos rfl rfl, dictDisplay_pairs (pairTrees [some ek] [ev] X.env pos) (by simp [pairTrees]) (by simp [pairTrees])]
  apply wpAny_bind
  apply wpAny_standAt
  apply wpAny_bind
  refine wpAny_subDictH (knd := nestedKind X.prog X.w) (show X.A.units + 8 < cLine by omega) (by show 1 ≤ 15; decide) ?_
  refine thn ((pps_cons (pos := pos) hk hv pps_nil).run pins _ σ _ (fun ps H2 => match ps with | [(x, v)] => ∃ b k, x = .ref b ∧ KeyN H2 x k ∧ H2 s.heap.objs.size = some (NDO X.prog X.w s.heap.objs.size []) ∧ Q (.ref s.heap.objs.size) (upd H2 s.heap.objs.size (NDO X.prog X.w s.heap.objs.size [(k, b, v)])) | _ => False) I1 (q _ hn)) ?_
  rintro ws s2 ⟨ps, H2, I2, rel, hq⟩
  match ps, ws, rel, hq with
  | [(x, v)], [(u1, u2)], .cons ⟨r1, r2⟩ .nil, ⟨b, k, e, hk2, hp, q2⟩ =>
    subst e
    obtain ⟨b', rfl, eb, hb⟩ := nd_at I2 hk2 r1
    obtain rfl : b = b' := V.ref.inj eb
    have hN : ND X.prog X.w H2 s.heap.objs.size [] := ⟨hp, (fun _ z => nomatch z)⟩
    obtain ⟨_, hd, ys, r0, dd⟩ := hN.full I2
    cases r0
    refine ⟨[(k, b, u2)], ⟨rfl, rfl, hb, trivial⟩, dd, fun h' tk dd' hs => ?_⟩
    exact wpAny_pure ⟨.ref s.heap.objs.size, _, nd_write I2 hN (by show 0 < sizeLine; decide) .nil hd rfl r2 dd' hs, rfl, q2⟩
/-- len(d) -/
theorem call_lenN {P : Program} {w : World} (hP : X.prog = P) (hw : X.w = w) : CallR X (.builtin "len") (fun vs H Q => ∃ p xs, vs = [.ref p] ∧ ND P w H p xs ∧ Q (.int ((xs.length : Nat) : Int)) H) := by
  subst hP hw
  intro pins s σ H vs us Q I r h
  obtain ⟨p, xs, rfl, hn, q⟩ := h
  obtain ⟨u, rfl, ru⟩ := vals1 r
  obtain rfl : u = Value.ref p := ru
  obtain ⟨z, hd, ys, rel, dd⟩ := hn.full I
  have hl : xs.length = ys.length := awLen rel
  refine call_len_dictH hd dd (by rw [← hl]; rw [sizeLine_eq] at z; omega) ?_
  rw [← hl]
  exact ⟨.int _, H, I.tok _, ⟨_, rfl⟩, q⟩
/-- d.setdefault(k, v) -/
def rNSetd (P : Program) (w : World) : V → List V → Hp → VK → Prop := fun x vs H Q => ∃ a xs k b v, x = .ref a ∧ vs = [.ref b, v] ∧ ND P w H a xs ∧ KeyN H (.ref b) k ∧ xs.length < sizeLine ∧ (∀ y, getN xs k = some y → Q y H) ∧ (getN xs k = none → Q v (upd H a (NDO P w a (xs ++ [(k, b, v)]))))
theorem mt_nsetd (hu : X.A.units + 64 < cLine) : MtR X "dict.setdefault" (rNSetd X.prog X.w) := by
  intro pins s σ H x vs v us Q I rx rxs h
  obtain ⟨a, xs, k, b, v0, rfl, rfl, hn, hk, hl, q1, q2⟩ := h
  cases rx
  obtain ⟨u1, u2, rfl, r1, r2⟩ := vals2 rxs
  obtain ⟨b', rfl, eb, hb⟩ := nd_at I hk r1
  obtain rfl : b = b' := V.ref.inj eb
  obtain ⟨_, hd, ys, rel, dd⟩ := hn.full I
  have hz : ys.length ≤ sizeLine := by
    have := awLen rel
    omega
  have z := getN_rel (k := k) rel
  refine call_setdefault_heap (knd := nestedKind X.prog X.w) (hsz := hz) (show X.A.in1.units + 8 < cLine by show X.A.units + 1 + 8 < cLine; omega) hb hd dd (fun p hp => ?_) (fun h0 h' dd' hs => ?_)
  · rw [hp] at z
    cases e : getN xs k with
    | none => rw [e] at z; exact z.elim
    | some y =>
      rw [e] at z
      exact ⟨y, H, I.tok _, z, q1 y e⟩
  · rw [h0] at z
    cases e : getN xs k with
    | some y => rw [e] at z; exact z.elim
    | none => exact ⟨v0, _, nd_write I hn hl rel hd h0 r2 dd' hs, r2, q2 e⟩
def tNSetd (P : Program) (w : World) (to : TE) (t : TA) : TE := fun σ H Q => to σ H fun x H1 => (∃ a xs, x = V.ref a ∧ ND P w H1 a xs) ∧ t σ H1 fun vs H2 => rNSetd P w x vs H2 Q
theorem pe_nsetd {P : Program} {w : World} (hP : X.prog = P) (hw : X.w = w) {o e : Expr} {es : List Expr} {to : TE} {t : TA} {apos cpos : Pos} (hu : X.A.units + 64 < cLine) (ho : PE X o to) (ha : PA X (e :: es) t)
    (c1 : attributeBase o "setdefault" X.env (eval o X.env) = eval o X.env := by rfl)
    (c2 : ((backTo cpos (starEach (e :: es) X.env)).all (fun x => !x.1) && (backToKw cpos (keywordEach [] X.env)).all (fun x => x.1.isSome) && decide ((e :: es).length + ([] : List Keyword).length + (if ([] : List Keyword).isEmpty then 0 else 1) < 30)) = true := by rfl)
    (c3 : (apos.endLine == cpos.line) = true := by rfl) (c4 : starEach (e :: es) X.env = (false, eval e X.env) :: starEach es X.env := by rfl) (c5 : (backTo cpos (starEach es X.env)).any (·.1) = false := by rfl) :
    PE X (.Call (.Attribute o "setdefault" apos) (e :: es) [] cpos) (tNSetd P w to t) := by
  subst hP hw
  constructor
  intro pins s σ H Q I h
  refine wpAny_Call_method_late c1 c2 c3 rfl (thn (ho.run pins s σ H _ I h) ?_)
  rintro v s1 ⟨x, H1, I1, r1, ⟨a, xs, rfl, hn⟩, q1⟩
  cases r1
  obtain ⟨_, hd, ys, rel, dd⟩ := hn.full I1
  obtain ⟨ob, es', ep, g1, g2, _⟩ := id dd
  refine ⟨"dict", "dict.setdefault", F.plainAttrs_dict, F.slot_dict_setdefault, F.type_dict_setdefault, dd.typeIs, (fun z e => ⟨ob, by injection e with e; rw [← e]; exact g1, g2.2.1⟩), ?_⟩
  have hA := ha.run cpos pins s1 σ H1 _ I1 q1
  rw [c4] at hA ⊢
  refine Calls.callWith_builtin (by show (false || (backTo cpos (starEach es X.env)).any (·.1)) = false; rw [c5]; rfl) (Calls.evalArgs_plain ?_)
  exact thn hA fun us s2 ⟨vs, H2, I2, r2, q2⟩ => mt_nsetd hu pins s2 σ H2 (.ref a) vs (.ref a) us Q I2 rfl r2 q2
end nds
/-! ### dicts by nested keys: read while locked, got with a default, put anew, walked, summed -/
section nd2
variable {X : Cx}
structure NDR (P : Program) (w : World) (H : Hp) (a : Addr) (xs : List NE) : Prop where
  ob : Rd H a (NDO P w a xs)
  ks : ∀ p ∈ xs, NkAt H p.1 (.ref p.2.1) ∧ p.1.depth ≤ 8
theorem ND.r {P : Program} {w : World} {H : Hp} {a : Addr} {xs : List NE} (h : ND P w H a xs) : NDR P w H a xs := ⟨.inl h.ob, h.ks⟩
theorem NDR.full {pins : List (Addr × Obj)} {σ : L2.St} {H : Hp} {s : Shared} {a : Addr} {xs : List NE} (I : Inv X pins σ H s) (h : NDR X.prog X.w H a xs) : xs.length ≤ sizeLine ∧ (a == sysModules) = false ∧ ∃ ys, NRel xs ys ∧ s.heap.DictOfH (nestedKind X.prog X.w) a ys := by
  obtain ⟨⟨z1, z2, ys, z3, o, es, ep, z4, z5, z6, z7, z8⟩, _⟩ := h.ob.ok I.hok
  refine ⟨z1, z2, ys, z3, o, es, ep, z4, z5, z6, z7, fun y hy => ?_, z8⟩
  obtain ⟨i, hi⟩ := List.mem_iff_getElem?.mp hy
  obtain ⟨p, hp, e1, e2, _⟩ := awGet2 z3 hi
  obtain ⟨k1, k2⟩ := h.ks p (List.mem_of_getElem? hp)
  rw [e1, e2] at k1
  rw [e1] at k2
  exact ⟨nk_is I _ _ _ k1 rfl, k2⟩
def tNGetR (P : Program) (w : World) (td ty : TE) : TE := fun σ H Q => td σ H fun x H1 => ty σ H1 fun y H2 => ∃ a xs k v, x = .ref a ∧ NDR P w H2 a xs ∧ KeyN H2 y k ∧ getN xs k = some v ∧ Q v H2
theorem pe_ndgetR {P : Program} {w : World} (hP : X.prog = P) (hw : X.w = w) {o i : Expr} {td ty : TE} {pos : Pos} (hu : X.A.units + 64 < cLine) (ho : PE X o td) (hi : PE X i ty) (hs : NoSl i) : PE X (.Subscript o i pos) (tNGetR P w td ty) := by
  subst hP hw
  constructor
  intro pins s σ H Q I h
  refine subD_of PySem.F.slot_dict_getitem.lookup hs (thn (ho.run pins s σ H _ I h) ?_)
  rintro u s1 ⟨x, H1, I1, rx, q1⟩
  refine thn (hi.run pins s1 σ H1 _ I1 q1) ?_
  rintro iv s2 ⟨y, H2, I2, ry, a, xs, k, v, rfl, hn, hk, hv, q2⟩
  obtain rfl : u = Value.ref a := rx
  obtain ⟨b, rfl, rfl, hb⟩ := nd_at I2 hk ry
  obtain ⟨_, hd, ys, r, dd⟩ := hn.full I2
  have z := getN_rel (k := k) r
  rw [hv] at z
  cases e : atKey ys k with
  | none => rw [e] at z; exact z.elim
  | some p =>
    rw [e] at z
    exact ⟨dd.typeIs, wpAny_getItem_heap (knd := nestedKind X.prog X.w) (show X.A.in1.units + 8 < cLine by show X.A.units + 1 + 8 < cLine; omega) hb dd e ⟨v, H2, I2.tok _, z, q2⟩⟩
def tNGet2 (P : Program) (w : World) (td ty tx : TE) : TE := fun σ H Q => td σ H fun x H1 => ∃ a xs0, x = .ref a ∧ ND P w H1 a xs0 ∧ ty σ H1 fun y H2 => tx σ H2 fun z H3 => ∃ xs k, ND P w H3 a xs ∧ KeyN H3 y k ∧ Q ((getN xs k).getD z) H3
theorem pe_ndget2 {P : Program} {w : World} (hP : X.prog = P) (hw : X.w = w) {o e f : Expr} {td ty tx : TE} {apos cpos : Pos} (hu : X.A.units + 64 < cLine) (ho : PE X o td) (he : PE X e ty) (hf : PE X f tx) (m : M2 X o "get" apos e f cpos) : PE X (.Call (.Attribute o "get" apos) [e, f] [] cpos) (tNGet2 P w td ty tx) := by
  subst hP hw
  constructor
  intro pins s σ H Q I h
  refine wpAny_Call_method m.base m.few m.line PySem.F.plainAttrs_dict PySem.F.slot_dict_get PySem.F.type_dict_get (thn (ho.run pins s σ H _ I h) ?_)
  rintro u s1 ⟨x, H1, I1, rx, a, xs0, rfl, hn1, q1⟩
  obtain rfl : u = Value.ref a := rx
  obtain ⟨_, hd1, ys1, rel1, dd1⟩ := hn1.full I1
  obtain ⟨ob, es', ep, g1, g2, _⟩ := id dd1
  refine ⟨dd1.typeIs, (fun z e => ⟨ob, by injection e with e; rw [← e]; exact g1, g2.2.1⟩), ?_⟩
  rw [m.trees]
  refine Calls.callWith_builtin rfl (Calls.evalArgs_plain (Calls.spliced_cons (thn (he.run pins s1 σ H1 _ I1 q1) ?_)))
  rintro iv s2 ⟨y, H2, I2, ry, q2⟩
  refine Calls.spliced_cons (thn (hf.run pins s2 σ H2 _ I2 q2) ?_)
  rintro fv s3 ⟨z, H3, I3, rz, xs, k, hn, hk, q3⟩
  refine Calls.spliced_nil ?_
  obtain ⟨b, rfl, rfl, hb⟩ := nd_at I3 hk ry
  obtain ⟨_, hd, ys, rel, dd⟩ := hn.full I3
  refine call_meetsIn PySem.F.slot_dict_get dd.typeIs PySem.F.entry_dict_get (PySem.F.args_dict_get_3 _ _ _) (meetsH_dict_get_default (nestedKind X.prog X.w) a b hd fv) ⟨(show X.A.in1.units + 8 < cLine by show X.A.units + 1 + 8 < cLine; omega), k, ys, hb, dd, (getN xs k).getD z, H3, I3.tok _, ?_, q3⟩
  exact (getN_rel (k := k) rel).getD rz
def putN (xs : List NE) (k : NestedKey) (b : Addr) (v : V) : List NE := if (getN xs k).isSome = true then xs.map (fun x => if x.1 = k then (x.1, x.2.1, v) else x) else xs ++ [(k, b, v)]
theorem putN_len (xs : List NE) (k : NestedKey) (b : Addr) (v : V) : (putN xs k b v).length ≤ xs.length + 1 := by
  unfold putN
  split
  · rw [List.length_map]
    omega
  · rw [List.length_append]
    exact Nat.le_refl _
theorem nrel_map {k : NestedKey} {v : V} {r : Value} (rv : RelV v r) : ∀ {xs : List NE} {ys : List (NestedKey × Addr × Value)}, NRel xs ys → NRel (xs.map fun x => if x.1 = k then (x.1, x.2.1, v) else x) (ys.map (putAt k r))
  | _, _, .nil => .nil
  | _, _, .cons (a := x) (b := y) h t => by
    refine .cons ?_ (nrel_map rv t)
    obtain ⟨h1, h2, h3⟩ := h
    unfold putAt
    dsimp only
    by_cases e : x.1 = k
    · rw [if_pos e, if_pos (h1 ▸ e)]
      exact ⟨h1, h2, rv⟩
    · rw [if_neg e, if_neg (h1 ▸ e)]
      exact ⟨h1, h2, h3⟩
theorem nd_writeA {pins : List (Addr × Obj)} {σ : L2.St} {H : Hp} {s : Shared} {a b : Addr} {xs : List NE} {ys : List (NestedKey × Addr × Value)} {k : NestedKey} {v : V} {r : Value} {h' : Heap} {tk : Nat} (I : Inv X pins σ H s) (hn : ND X.prog X.w H a xs) (hl : xs.length < sizeLine) (rel : NRel xs ys) (hd : (a == sysModules) = false)
    (rv : RelV v r) (dd : h'.DictOfH (nestedKind X.prog X.w) a (storedH ys k b r)) (hs : Heap.SameBut a s.heap h') : Inv X pins σ (upd H a (NDO X.prog X.w a (putN xs k b v))) { s with heap := h', toks := tk } := by
  have he : ∃ o, h'.get? a = some o := dd.elim fun o z => ⟨o, z.choose_spec.choose_spec.1⟩
  have lp := putN_len xs k b v
  refine d_write I (by rw [hn.ob]; exact True.intro) hs he (ndo_ok (by omega) hd ?_ dd)
  have z := getN_rel (k := k) rel
  unfold putN
  cases e : getN xs k with
  | none =>
    rw [storedH_new (nrel_none rel e), if_neg (by simp)]
    exact awSnoc (F := fun (p : NE) (q : NestedKey × Addr × Value) => p.1 = q.1 ∧ p.2.1 = q.2.1 ∧ RelV p.2.2 q.2.2) ⟨rfl, rfl, rv⟩ rel
  | some y =>
    rw [e] at z
    cases e2 : atKey ys k with
    | none => rw [e2] at z; exact z.elim
    | some p =>
      rw [storedH_old e2, if_pos (by simp)]
      exact nrel_map rv rel
def sNPutA (P : Program) (w : World) (td ty tv : TE) : TS := fun D σ H => tv σ H fun v H1 => td σ H1 fun x H2 => ty σ H2 fun y H3 => ∃ a xs k b, x = .ref a ∧ ND P w H3 a xs ∧ y = .ref b ∧ KeyN H3 y k ∧ xs.length < sizeLine ∧ D.nx σ (upd H3 a (NDO P w a (putN xs k b v)))
theorem ps_ndputA {P : Program} {w : World} (hP : X.prog = P) (hw : X.w = w) {o i value : Expr} {td ty tv : TE} {pos pos' : Pos} (hu : X.A.units + 64 < cLine) (ho : PE X o td) (hi : PE X i ty) (hv : PE X value tv) (hs : swapsWith value (some (.Subscript o i pos')) pos.line X.env = pure false) :
    PS X (.Assign [.Subscript o i pos'] value pos) (sNPutA P w td ty tv) := by
  subst hP hw
  constructor
  intro pins s σ H D I h
  refine wpAny_Assign_Subscript (thn (hv.run pins s σ H _ I h) ?_) hs
  rintro r s1 ⟨v, H1, I1, rv, q1⟩
  refine thn (ho.run pins s1 σ H1 _ I1 q1) ?_
  rintro u s2 ⟨x, H2, I2, rx, q2⟩
  refine thn (hi.run pins s2 σ H2 _ I2 q2) ?_
  rintro iv s3 ⟨y, H3, I3, ry, a, xs, k, b, rfl, hn, rfl, hk, hl, q3⟩
  obtain rfl : u = Value.ref a := rx
  obtain ⟨b', rfl, eb, hb⟩ := nd_at I3 hk ry
  obtain rfl : b = b' := V.ref.inj eb
  obtain ⟨_, hd, ys, rel, dd⟩ := hn.full I3
  have hz : ys.length ≤ sizeLine := by
    have := awLen rel
    omega
  exact wpAny_setItem_heap (knd := nestedKind X.prog X.w) (hsz := hz) (show X.A.in1.units + 8 < cLine by show X.A.units + 1 + 8 < cLine; omega) hb dd fun h' dd' hs' => ⟨σ, _, nd_writeA I3 hn hl rel hd rv dd' hs', q3⟩
theorem nd_putA {P : Program} {w : World} {H : Hp} {a b : Addr} {xs : List NE} {k : NestedKey} {v : V} (h : ND P w H a xs) (hk : KeyN H (.ref b) k) : ND P w (upd H a (NDO P w a (putN xs k b v))) a (putN xs k b v) := by
  have tt : TupsStay H (upd H a (NDO P w a (putN xs k b v))) := fun c ys e => by
    rw [upd_ne (ne_of e h.ob (fun z => nomatch z))]
    exact e
  refine ⟨upd_same, fun p hp => ?_⟩
  unfold putN at hp
  split at hp
  · obtain ⟨x, hx, rfl⟩ := List.mem_map.mp hp
    split
    · exact ⟨nk_stay tt _ _ (h.ks x hx).1, (h.ks x hx).2⟩
    · exact ⟨nk_stay tt _ _ (h.ks x hx).1, (h.ks x hx).2⟩
  · rcases List.mem_append.mp hp with hp | hp
    · exact ⟨nk_stay tt _ _ (h.ks p hp).1, (h.ks p hp).2⟩
    · rw [List.mem_singleton.mp hp]
      exact ⟨nk_stay tt _ _ hk.1, hk.2.1⟩
/-! the keys, walked while the dict is locked -/
theorem nd_frz {pins : List (Addr × Obj)} {σ : L2.St} {H : Hp} {s : Shared} {d : Addr} {o : Obj} {xs : List NE} (I : Inv X pins σ H s) (h : H d = some (.frz o (NDO X.prog X.w d xs))) :
    (d == sysModules) = false ∧ s.heap.get? d = some o ∧ o.ExactDict ∧ ∃ (es : Array DictEntry) (ep : Nat), o.data = .dict es ep ∧ es.size = xs.length ∧ ∀ (i : Nat) (p : NE), xs[i]? = some p → ∃ en : DictEntry, es[i]? = some en ∧ en.key = .ref p.2.1 ∧ RelV p.2.2 en.val := by
  obtain ⟨hg, ⟨z1, z2, ys, z3, o', es, ep, z4, z5, z6, z7, z8⟩, _⟩ := I.hok d _ h
  obtain rfl : o' = o := Option.some.inj (z4.symm.trans hg)
  have l1 : es.size = ys.length := size_of_entries z7
  refine ⟨z2, hg, z5, es, ep, z6, l1.trans (awLen z3).symm, fun i p hp => ?_⟩
  obtain ⟨y, hy, e1, e2, e3⟩ := awGet z3 hp
  have e : es.toList[i]? = some (entryOfKey (nestedKind X.prog X.w) y) := by
    rw [z7, List.getElem?_map, hy]
    rfl
  rw [Array.getElem?_toList] at e
  refine ⟨_, e, ?_, e3⟩
  rw [e2]
  rfl
def ItN (P : Program) (w : World) (d : Addr) (o : Obj) (xs : List NE) : It :=
  ⟨fun i H => H d = some (.frz o (NDO P w d xs)) ∧ i < xs.length, fun i H x H' => H' = H ∧ ∃ p, xs[i]? = some p ∧ x = .ref p.2.1, fun i H => H d = some (.frz o (NDO P w d xs)) ∧ xs.length ≤ i⟩
theorem turn_N {d : Addr} {o : Obj} {xs : List NE} {tg : Expr} (it : Addr) {ep : Nat} {es : Array DictEntry} (hod : o.data = .dict es ep) : Turn P w K tg (ItN P w d o xs) [it] it (fun i h => h.IsKeyIter it d i xs.length ep) where
  mem := by simp
  obj := fun i h st b hb => by
    have e : b = it := by simpa using hb
    subst e
    obtain ⟨oi, e, c, dd⟩ := st
    exact ⟨oi, e, fun v z => by rw [dd] at z; cases z⟩
  keep := fun i h h' st k => st.at fun oi e => k it (by simp) oi e
  item := by
    intro X hP hw hK hc i pins s σ H E I hf st hg
    subst hP hw hK
    obtain ⟨hd, hi⟩ := hg
    obtain ⟨f0, f1, f2, f3, f4, f5⟩ := hf it (by simp)
    obtain ⟨hs, hgd, hx, es', ep', hdt, hsz, ent⟩ := nd_frz I hd
    obtain ⟨rfl, rfl⟩ := dict_ep hod hdt
    obtain ⟨p, hkv⟩ : ∃ p, xs[i]? = some p := ⟨xs[i], List.getElem?_eq_getElem hi⟩
    obtain ⟨en, hen, hkey, _⟩ := ent i p hkv
    refine next_key_item st hgd hdt hsz hen fun h' st' sb => ?_
    have I1 : Inv X pins σ H { s with heap := h' } := I.turned (t' := s.toks) (fun b ob hb e => (sb.2 b hb).trans e) f0 f1 f3 f4 f5
    obtain ⟨oi, e, c, dd⟩ := id st'
    exact ⟨en.key, rfl, go_of (s := { s with heap := h' }) e c dd (by decide) ⟨.ref p.2.1, H, I1, hkey, ⟨rfl, p, hkv, rfl⟩, st', fun b hb => (hf b hb).1⟩⟩
  done := by
    intro X hP hw hK hc i pins s σ H E I hf st hg
    subst hP hw hK
    obtain ⟨hd, hi⟩ := hg
    obtain ⟨f0, f1, f2, f3, f4, f5⟩ := hf it (by simp)
    obtain ⟨hs, hgd, hx, es', ep', hdt, hsz, ent⟩ := nd_frz I hd
    obtain ⟨rfl, rfl⟩ := dict_ep hod hdt
    exact next_key_end (I.ok.hd hc) st hgd hdt hsz hi fun h' eb => ⟨rfl, I.turned (t' := s.toks) (fun b ob hb e => eb b ob hb e) f0 f1 f3 f4 f5⟩
  self := fun A i s Q E st h => by
    refine wpAny_pyIter_slot st.typeIs F.slot_dict_keyiterator_iter (wpAny_call_entry F.slot_dict_keyiterator_iter st.typeIs F.entry_dict_keyiterator_iter ?_ (F.args_dict_keyiterator_iter_1 _))
    show wpAny _ _ (ret (.ref it)) _ _ s
    exact wpAny_pure ⟨_, rfl, "dict_keyiterator", _, st.typeIs, F.slot_dict_keyiterator_next.lookup, h⟩
def iKeysN (P : Program) (w : World) (td : TE) : TI := fun σ H R => td σ H fun x H1 => ∃ d o xs, x = .ref d ∧ H1 d = some (.frz o (NDO P w d xs)) ∧ R (ItN P w d o xs) H1
theorem pi_keysN {P : Program} {w : World} (hP : X.prog = P) (hw : X.w = w) {tg e : Expr} {td : TE} (he : PE X e td) : PI X tg e (iKeysN P w td) := by
  subst hP hw
  refine ⟨fun pins s σ H R I h => ?_⟩
  refine thn (he.run pins s σ H _ I h) ?_
  rintro u s1 ⟨x, H1, I1, rx, d, o, xs, rfl, hd, q⟩
  obtain rfl : u = Value.ref d := rx
  obtain ⟨hs, hgd, hx, es, ep, hdt, hsz, ent⟩ := nd_frz I1 hd
  refine iter_keys hs hgd hx hdt (pi_one (tk := s1.toks) I1 _ (turn_N _ hdt) ⟨_, Heap.get?_push_size _ rfl, rfl, ?_⟩ q)
  rw [hsz] <;> rfl
theorem walk_N {P : Program} {w : World} {d : Addr} {o : Obj} {xs : List NE} : Walk (ItN P w d o xs) xs.length (fun H => H d = some (.frz o (NDO P w d xs))) (fun i H x H' => H' = H ∧ ∃ p, xs[i]? = some p ∧ x = .ref p.2.1) :=
  ⟨fun _ _ hi q => ⟨q, hi⟩, fun _ q => ⟨q, Nat.le_refl _⟩, fun _ _ _ _ _ _ y => y⟩
/-! d.values(), and their sum -/
theorem nd_raw {pins : List (Addr × Obj)} {σ : L2.St} {H : Hp} {s : Shared} {d : Addr} {xs : List NE} (I : Inv X pins σ H s) (h : H d = some (NDO X.prog X.w d xs)) :
    (d == sysModules) = false ∧ ∃ es ep, s.heap.DictRaw d es ep ∧ es.size = xs.length ∧ ∀ (i : Nat) (hi : i < es.size), ∃ p, xs[i]? = some p ∧ RelV p.2.2 es[i].val := by
  obtain ⟨⟨z1, z2, ys, z3, o, es, ep, z4, z5, z6, z7, z8⟩, _⟩ := I.hok d _ h
  have l1 : es.size = ys.length := size_of_entries z7
  refine ⟨z2, es, ep, ⟨o, z4, z5, z6⟩, l1.trans (awLen z3).symm, fun i hi => ?_⟩
  have hi2 : i < ys.length := by omega
  obtain ⟨p, h1, _, _, h4⟩ := awGet2 z3 (List.getElem?_eq_getElem hi2)
  have e : es.toList[i]? = some (entryOfKey (nestedKind X.prog X.w) ys[i]) := by
    rw [z7, List.getElem?_map, List.getElem?_eq_getElem hi2]
    rfl
  have e2 : es[i] = entryOfKey (nestedKind X.prog X.w) ys[i] := by
    rw [Array.getElem?_toList, Array.getElem?_eq_getElem hi] at e
    exact Option.some.inj e
  refine ⟨p, h1, ?_⟩
  rw [e2]
  exact h4
def tNVals (P : Program) (w : World) (td : TE) : TE := fun σ H Q => td σ H fun x H1 => ∃ a xs, x = .ref a ∧ H1 a = some (NDO P w a xs) ∧ ∀ p, H1 p = none → Q (.ref p) (upd H1 p (valsO p a))
theorem pe_nvals {P : Program} {w : World} (hP : X.prog = P) (hw : X.w = w) {o : Expr} {td : TE} {apos cpos : Pos} (ho : PE X o td) (hbase : attributeBase o "values" X.env (eval o X.env) = eval o X.env := by rfl) (hline : (apos.endLine == cpos.line) = true := by rfl) : PE X (.Call (.Attribute o "values" apos) [] [] cpos) (tNVals P w td) := by
  subst hP hw
  refine ⟨fun pins s σ H Q I h => ?_⟩
  refine wpAny_Call_method0_late hbase hline (thn (ho.run pins s σ H _ I h) ?_)
  rintro v s1 ⟨x, H1, I1, r1, a, xs, rfl, ha, q1⟩
  obtain rfl : v = Value.ref a := r1
  obtain ⟨hs, es, ep, raw, _⟩ := nd_raw I1 ha
  have raw' := raw
  obtain ⟨o', ho', hx', hdt'⟩ := raw'
  refine ⟨"dict", "dict.values", F.plainAttrs_dict, F.slot_dict_values, F.type_dict_values, raw.typeIs, fun b z => ⟨o', by cases z; exact ho', hx'.2.1⟩, Calls.callWith_builtin rfl (PySem.evalArgs_none ?_)⟩
  refine call_meetsIn F.slot_dict_values raw.typeIs F.entry_dict_values (F.args_dict_values_1 _) (meets_dict_values_raw a hs) ⟨⟨es, ep, raw⟩, ?_⟩
  have I2 := I1.laid (o := valsO s1.heap.objs.size a) (t' := s1.toks) (fun b u z => Heap.get?_push_of_some _ z) (Nat.le_refl _) (valsO_ok (H := upd H1 s1.heap.objs.size (valsO s1.heap.objs.size a)) (Heap.get?_push_size _ rfl))
  exact ⟨.ref _, _, I2, rfl, q1 _ (I1.hok.fresh (Nat.le_refl _))⟩
theorem preSumN {val : Nat → Int} (zs : List Int) (h : ∀ i, i < zs.length → val i = zs.getD i 0) : preSum val zs.length = zs.sum := by
  have key : ∀ n, n ≤ zs.length → preSum val n = (zs.take n).sum := by
    intro n
    induction n with
    | zero => intro _; simp [preSum]
    | succ n ih =>
      intro hn
      have hl : n < zs.length := by omega
      rw [show preSum val (n + 1) = preSum val n + val n from rfl, ih (by omega), h n hl, List.take_add_one, List.getElem?_eq_getElem hl, List.getD_eq_getElem?_getD, List.getElem?_eq_getElem hl]
      show _ + zs[n] = (List.take n zs ++ [zs[n]]).sum
      rw [List.sum_append]
      simp only [List.sum_cons, List.sum_nil, Int.add_zero]
  rw [key _ (Nat.le_refl _), List.take_length]
def rSumN (P : Program) (w : World) : List V → Hp → VK → Prop := fun vs H Q => ∃ (p a : Addr) (xs : List NE) (zs : List Int), vs = [.ref p] ∧ H p = some (valsO p a) ∧ H a = some (NDO P w a xs) ∧ xs.map (·.2.2) = zs.map V.int ∧ Q (.int zs.sum) H
theorem call_sumN {P : Program} {w : World} (hP : X.prog = P) (hw : X.w = w) (hc : X.calm = true) : CallR X (.builtin "sum") (rSumN P w) := by
  subst hP hw
  intro pins s σ H vs us Q I r h
  obtain ⟨p, a, xs, zs, rfl, hp, ha, hz, q⟩ := h
  obtain ⟨u, rfl, ru⟩ := vals1 r
  obtain rfl : u = Value.ref p := ru
  obtain ⟨hs, es, ep, raw, sz, ent⟩ := nd_raw I ha
  have hv : s.heap.IsValuesView p a := (I.hok p _ hp).1
  have zl : zs.length = es.size := by
    have := congrArg List.length hz
    rw [List.length_map, List.length_map] at this
    omega
  have la : a < s.heap.objs.size := raw.elim fun o z => Heap.lt_size z.1
  refine call_sum_walkAnyS (wpAny_pyIter_values_raw hv raw ?_)
  have rel : ∀ i v, (∃ hi : i < es.size, v = es[i].val) → ∃ t, v = .int (zs.getD i 0) t := by
    rintro i v ⟨hi, rfl⟩
    obtain ⟨x, hkv, rv⟩ := ent i hi
    have e : (xs.map (·.2.2))[i]? = some x.2.2 := by rw [List.getElem?_map, hkv]; rfl
    rw [hz, List.getElem?_map] at e
    cases e2 : zs[i]? with
    | none => rw [e2] at e; cases e
    | some z =>
      rw [e2] at e
      have e3 : V.int z = x.2.2 := Option.some.inj e
      rw [← e3] at rv
      rw [List.getD_eq_getElem?_getD, e2]
      exact rv
  refine ⟨s.heap.objs.size, [s.heap.objs.size, a], [s.heap.objs.size], _, es.size, _, _, fun i => zs.getD i 0, rfl, (Walks.rawValues (A := X.A.in1) (I.ok.hd hc) _ a (Nat.ne_of_lt la) es ep).toS, ?_, ?_, rel, ?_⟩
  · exact ⟨⟨_, Heap.get?_push_size _ rfl, rfl, rfl⟩, raw.at fun o z => Heap.get?_push_of_some _ z⟩
  · intro b hb
    show b < (s.heap.push _).objs.size
    rw [Heap.size_push]
    simp only [List.mem_cons, List.not_mem_nil, or_false] at hb
    rcases hb with rfl | rfl
    · exact Nat.lt_succ_self _
    · exact Nat.lt_succ_of_lt la
  · intro s' t' hm
    have hk : ∀ b o, s.heap.get? b = some o → s'.heap.get? b = some o := fun b o e =>
      hm.heap b o (fun hI => absurd (Heap.lt_size e) (by rw [List.mem_singleton.mp hI]; exact Nat.lt_irrefl _)) (Heap.get?_push_of_some _ e)
    rw [Moved.eq_with hm]
    refine ⟨.int zs.sum, H, I.kept (t' := s'.toks) hk, ⟨t', ?_⟩, q⟩
    rw [← zl, preSumN zs fun i _ => rfl]
end nd2
/-! ### names in order, and in groups -/
abbrev sLt (x y : Str) : Prop := x.cps.toList < y.cps.toList
abbrev Up (ns : List Str) : Prop := ns.Pairwise sLt
theorem cps_inj {x y : Str} (h : x.cps.toList = y.cps.toList) : x = y := by
  have e := Array.toList_inj.mp h
  cases x
  cases y
  subst e
  rfl
theorem sLt_irr (x : Str) : ¬ sLt x x := List.lt_irrefl _
theorem sLt_trans {x y z : Str} (h : sLt x y) (k : sLt y z) : sLt x z := List.lt_trans h k
theorem sLt_of {x y : Str} (h : ¬ sLt y x) (n : x ≠ y) : sLt x y := by
  by_cases g : sLt x y
  · exact g
  · exact absurd (cps_inj (List.le_antisymm (List.not_lt.mp h) (List.not_lt.mp g))) n
theorem up_rising : ∀ {r : List Str} {p : Str}, risingS p r = true → (p :: r).Nodup → Up (p :: r)
  | [], p, _, _ => List.pairwise_singleton _ _
  | x :: r, p, h, nd => by
    unfold risingS at h
    rw [Bool.and_eq_true, ltCps_eq] at h
    obtain ⟨h1, h2⟩ := h
    obtain ⟨n1, n2⟩ := List.nodup_cons.mp nd
    have ih := up_rising h2 n2
    have px : sLt p x := sLt_of (by simpa using h1) fun e => n1 (e ▸ List.mem_cons_self)
    refine List.pairwise_cons.mpr ⟨fun y hy => ?_, ih⟩
    rcases List.mem_cons.mp hy with rfl | hy
    · exact px
    · exact sLt_trans px ((List.pairwise_cons.mp ih).1 y hy)
theorem up_sorted {ys : List Str} (h : sortedS ys = true) (nd : ys.Nodup) : Up ys := by
  cases ys with
  | nil => exact .nil
  | cons p r => exact up_rising h nd
theorem up_uniq {ys zs : List Str} (h : ys.Perm zs) (hy : Up ys) (hz : Up zs) : ys = zs :=
  List.Perm.eq_of_pairwise (le := fun x y => sLt x y) (fun a b _ _ h1 h2 => absurd (sLt_trans h1 h2) (sLt_irr _)) hy hz h
theorem up_nodup {ys : List Str} (h : Up ys) : ys.Nodup := by
  refine List.Pairwise.imp (fun {a b} hab e => ?_) h
  subst e
  exact sLt_irr _ hab
section grp
variable {κ κ' : Type} [DecidableEq κ] [DecidableEq κ']
abbrev Gs (κ : Type) := List (κ × List Str)
def addG (gs : Gs κ) (k : κ) (t : Str) : Gs κ := if (gs.any fun g => decide (g.1 = k)) = true then gs.map (fun g => if g.1 = k then (g.1, g.2 ++ [t]) else g) else gs ++ [(k, [t])]
def grpL (lab : Str → κ) (ns : List Str) : Gs κ := ns.foldl (fun gs t => addG gs (lab t) t) []
theorem grpL_snoc (lab : Str → κ) (ns : List Str) (t : Str) : grpL lab (ns ++ [t]) = addG (grpL lab ns) (lab t) t := by
  unfold grpL
  rw [List.foldl_append]
  rfl
/-- what groups are made of -/
structure GrpOk (lab : Str → κ) (ns : List Str) (gs : Gs κ) : Prop where
  full : ∀ g ∈ gs, g.2 ≠ []
  has : ∀ g ∈ gs, ∀ t ∈ g.2, t ∈ ns ∧ lab t = g.1
  firsts : (gs.map (·.2)).Pairwise fun g h => ∃ x r y s, g = x :: r ∧ h = y :: s ∧ sLt x y
  nd : (gs.map (·.1)).Nodup
theorem addG_any {gs : Gs κ} {k : κ} : (gs.any fun g => decide (g.1 = k)) = true ↔ k ∈ gs.map (·.1) := by
  rw [List.any_eq_true, List.mem_map]
  constructor
  · rintro ⟨g, h1, h2⟩
    exact ⟨g, h1, of_decide_eq_true h2⟩
  · rintro ⟨g, h1, h2⟩
    exact ⟨g, h1, decide_eq_true h2⟩
theorem firsts_map {gs : Gs κ} {k : κ} {t : Str} (h : (gs.map (·.2)).Pairwise fun g h => ∃ x r y s, g = x :: r ∧ h = y :: s ∧ sLt x y) (_ : ∀ g ∈ gs, g.2 ≠ []) :
    ((gs.map fun g => if g.1 = k then (g.1, g.2 ++ [t]) else g).map (·.2)).Pairwise fun g h => ∃ x r y s, g = x :: r ∧ h = y :: s ∧ sLt x y := by
  rw [List.pairwise_map] at h
  rw [List.pairwise_map, List.pairwise_map]
  refine h.imp fun {g g'} e => ?_
  obtain ⟨x, r, y, s, e1, e2, lt⟩ := e
  by_cases a : g.1 = k
  · by_cases b : g'.1 = k
    · rw [if_pos a, if_pos b]
      exact ⟨x, r ++ [t], y, s ++ [t], by simp [e1], by simp [e2], lt⟩
    · rw [if_pos a, if_neg b]
      exact ⟨x, r ++ [t], y, s, by simp [e1], e2, lt⟩
  · by_cases b : g'.1 = k
    · rw [if_neg a, if_pos b]
      exact ⟨x, r, y, s ++ [t], e1, by simp [e2], lt⟩
    · rw [if_neg a, if_neg b]
      exact ⟨x, r, y, s, e1, e2, lt⟩
theorem grp_ok (lab : Str → κ) : ∀ {ns : List Str}, Up ns → GrpOk lab ns (grpL lab ns) := by
  intro ns h
  have key : ∀ i, i ≤ ns.length → GrpOk lab (ns.take i) (grpL lab (ns.take i)) := by
    intro i
    induction i with
    | zero =>
      intro _
      rw [List.take_zero]
      exact ⟨(fun _ z => nomatch z), (fun _ z => nomatch z), .nil, .nil⟩
    | succ i ih =>
      intro hi
      have ok := ih (by omega)
      have hg := List.getElem?_eq_getElem (show i < ns.length by omega)
      rw [List.take_add_one, hg]
      generalize ht : ns[i] = t at hg
      show GrpOk lab (ns.take i ++ [t]) (grpL lab (ns.take i ++ [t]))
      rw [grpL_snoc]
      unfold addG
      have later : ∀ s ∈ ns.take i, sLt s t := fun s hs => by
        obtain ⟨j, hj, e⟩ := List.mem_take_iff_getElem.mp hs
        have := List.pairwise_iff_getElem.mp h j i (by omega) (by omega) (by omega)
        rw [e, ht] at this
        exact this
      by_cases a : (((grpL lab (ns.take i)).any fun g => decide (g.1 = lab t)) = true)
      · rw [if_pos a]
        refine ⟨fun g hg => ?_, fun g hg s hs => ?_, firsts_map ok.firsts ok.full, ?_⟩
        · obtain ⟨g0, h0, rfl⟩ := List.mem_map.mp hg
          by_cases b : g0.1 = lab t
          · rw [if_pos b]
            simp
          · rw [if_neg b]
            exact ok.full _ h0
        · obtain ⟨g0, h0, rfl⟩ := List.mem_map.mp hg
          by_cases b : g0.1 = lab t
          · rw [if_pos b] at hs ⊢
            rcases List.mem_append.mp hs with hs | hs
            · exact ⟨List.mem_append_left _ (ok.has _ h0 s hs).1, (ok.has _ h0 s hs).2⟩
            · rw [List.mem_singleton.mp hs]
              exact ⟨by simp, b.symm⟩
          · rw [if_neg b] at hs ⊢
            exact ⟨List.mem_append_left _ (ok.has _ h0 s hs).1, (ok.has _ h0 s hs).2⟩
        · have : ((grpL lab (ns.take i)).map fun g => if g.1 = lab t then (g.1, g.2 ++ [t]) else g).map (·.1) = (grpL lab (ns.take i)).map (·.1) := by
            rw [List.map_map]
            refine List.map_congr_left fun g _ => ?_
            show (if g.1 = lab t then (g.1, g.2 ++ [t]) else g).1 = g.1
            by_cases b : g.1 = lab t
            · rw [if_pos b]
            · rw [if_neg b]
          rw [this]
          exact ok.nd
      · rw [if_neg a]
        refine ⟨fun g hg => ?_, fun g hg s hs => ?_, ?_, ?_⟩
        · rcases List.mem_append.mp hg with hg | hg
          · exact ok.full _ hg
          · rw [List.mem_singleton.mp hg]
            simp
        · rcases List.mem_append.mp hg with hg | hg
          · exact ⟨List.mem_append_left _ (ok.has _ hg s hs).1, (ok.has _ hg s hs).2⟩
          · rw [List.mem_singleton.mp hg] at hs ⊢
            rw [List.mem_singleton.mp hs]
            exact ⟨by simp, rfl⟩
        · rw [List.map_append, List.pairwise_append]
          refine ⟨ok.firsts, List.pairwise_singleton _ _, fun g hg g' hg' => ?_⟩
          rw [List.mem_singleton.mp hg']
          obtain ⟨g0, h0, rfl⟩ := List.mem_map.mp hg
          have hf := ok.full _ h0
          cases e : g0.2 with
          | nil => exact absurd e hf
          | cons x r => exact ⟨x, r, t, [], rfl, rfl, later x (ok.has _ h0 x (by rw [e]; exact List.mem_cons_self)).1⟩
        · rw [List.map_append, List.nodup_append]
          refine ⟨ok.nd, by simp, fun x hx y hy e => ?_⟩
          rw [List.map_singleton, List.mem_singleton] at hy
          subst e
          rw [hy] at hx
          exact a (addG_any.mpr hx)
  have := key ns.length (Nat.le_refl _)
  rw [List.take_length] at this
  exact this
theorem addG_len (gs : Gs κ) (k : κ) (t : Str) : (addG gs k t).length ≤ gs.length + 1 := by
  unfold addG
  split
  · rw [List.length_map]; omega
  · rw [List.length_append]; exact Nat.le_refl _
theorem grpL_len (lab : Str → κ) (ns : List Str) : (grpL lab ns).length ≤ ns.length := by
  have key : ∀ i, i ≤ ns.length → (grpL lab (ns.take i)).length ≤ i := by
    intro i
    induction i with
    | zero => intro _; rw [List.take_zero]; exact Nat.le_refl _
    | succ i ih =>
      intro hi
      have hg := List.getElem?_eq_getElem (show i < ns.length by omega)
      rw [List.take_add_one, hg]
      show (grpL lab (ns.take i ++ [ns[i]])).length ≤ _
      rw [grpL_snoc]
      have := addG_len (grpL lab (ns.take i)) (lab ns[i]) ns[i]
      have := ih (by omega)
      omega
  have := key ns.length (Nat.le_refl _)
  rw [List.take_length] at this
  exact this
/-- groups know of the names' labels only which are one -/
inductive GSim (lab : Str → κ) (lab' : Str → κ') (ns : List Str) : Gs κ → Gs κ' → Prop
  | nil : GSim lab lab' ns [] []
  | cons {g : κ × List Str} {g' : κ' × List Str} {gs : Gs κ} {gs' : Gs κ'} : g.2 = g'.2 → (∃ t ∈ ns, t ∈ g.2) → (∀ t ∈ g.2, t ∈ ns ∧ lab t = g.1 ∧ lab' t = g'.1) → GSim lab lab' ns gs gs' → GSim lab lab' ns (g :: gs) (g' :: gs')
theorem gsim_any {lab : Str → κ} {lab' : Str → κ'} {ns : List Str} (same : ∀ s ∈ ns, ∀ t ∈ ns, lab s = lab t ↔ lab' s = lab' t) {t : Str} (ht : t ∈ ns) : ∀ {gs : Gs κ} {gs' : Gs κ'}, GSim lab lab' ns gs gs' → (gs.any fun g => decide (g.1 = lab t)) = (gs'.any fun g => decide (g.1 = lab' t))
  | _, _, .nil => rfl
  | _, _, .cons (g := g) (g' := g') e1 e2 e3 h => by
    rw [List.any_cons, List.any_cons, gsim_any same ht h]
    congr 1
    obtain ⟨s, hs, hg⟩ := e2
    obtain ⟨_, a, b⟩ := e3 s hg
    rw [← a, ← b]
    by_cases c : lab s = lab t
    · rw [decide_eq_true c, decide_eq_true ((same s hs t ht).mp c)]
    · rw [decide_eq_false c, decide_eq_false fun z => c ((same s hs t ht).mpr z)]
theorem gsim_map {lab : Str → κ} {lab' : Str → κ'} {ns : List Str} (same : ∀ s ∈ ns, ∀ t ∈ ns, lab s = lab t ↔ lab' s = lab' t) {t : Str} (ht : t ∈ ns) : ∀ {gs : Gs κ} {gs' : Gs κ'}, GSim lab lab' ns gs gs' →
    GSim lab lab' ns (gs.map fun g => if g.1 = lab t then (g.1, g.2 ++ [t]) else g) (gs'.map fun g => if g.1 = lab' t then (g.1, g.2 ++ [t]) else g)
  | _, _, .nil => .nil
  | _, _, .cons (g := g) (g' := g') e1 e2 e3 h => by
    rw [List.map_cons, List.map_cons]
    have e2' := e2
    obtain ⟨s, hs, hg⟩ := e2
    obtain ⟨_, a, b⟩ := e3 s hg
    by_cases c : g.1 = lab t
    · have c' : g'.1 = lab' t := by
        rw [← b]
        exact (same s hs t ht).mp (a.trans c)
      rw [if_pos c, if_pos c']
      refine .cons (by show g.2 ++ [t] = g'.2 ++ [t]; rw [e1]) ⟨s, hs, List.mem_append_left _ hg⟩ (fun x hx => ?_) (gsim_map same ht h)
      rcases List.mem_append.mp hx with hx | hx
      · exact e3 x hx
      · rw [List.mem_singleton.mp hx]
        exact ⟨ht, c.symm, c'.symm⟩
    · have c' : ¬ g'.1 = lab' t := fun z => c (by
        rw [← a]
        exact (same s hs t ht).mpr (b.trans z))
      rw [if_neg c, if_neg c']
      exact .cons e1 e2' e3 (gsim_map same ht h)
theorem gsim_snoc {lab : Str → κ} {lab' : Str → κ'} {ns : List Str} {t : Str} (ht : t ∈ ns) : ∀ {gs : Gs κ} {gs' : Gs κ'}, GSim lab lab' ns gs gs' → GSim lab lab' ns (gs ++ [(lab t, [t])]) (gs' ++ [(lab' t, [t])])
  | _, _, .nil => .cons rfl ⟨t, ht, by simp⟩ (fun x hx => by rw [List.mem_singleton.mp hx]; exact ⟨ht, rfl, rfl⟩) .nil
  | _, _, .cons e1 e2 e3 h => .cons e1 e2 e3 (gsim_snoc ht h)
theorem grp_same {lab : Str → κ} {lab' : Str → κ'} {ns : List Str} (same : ∀ s ∈ ns, ∀ t ∈ ns, lab s = lab t ↔ lab' s = lab' t) : (grpL lab ns).map (·.2) = (grpL lab' ns).map (·.2) := by
  have key : ∀ i, i ≤ ns.length → GSim lab lab' ns (grpL lab (ns.take i)) (grpL lab' (ns.take i)) := by
    intro i
    induction i with
    | zero => intro _; rw [List.take_zero]; exact .nil
    | succ i ih =>
      intro hi
      have hg := List.getElem?_eq_getElem (show i < ns.length by omega)
      rw [List.take_add_one, hg]
      show GSim lab lab' ns (grpL lab (ns.take i ++ [ns[i]])) (grpL lab' (ns.take i ++ [ns[i]]))
      rw [grpL_snoc, grpL_snoc]
      have z := ih (by omega)
      have ht : ns[i] ∈ ns := List.getElem_mem _
      have e := gsim_any same ht z
      unfold addG
      by_cases a : ((grpL lab (ns.take i)).any fun g => decide (g.1 = lab ns[i])) = true
      · rw [if_pos a, if_pos (e ▸ a)]
        exact gsim_map same ht z
      · rw [if_neg a, if_neg (e ▸ a)]
        exact gsim_snoc ht z
  have := key ns.length (Nat.le_refl _)
  rw [List.take_length] at this
  clear key same
  generalize grpL lab ns = gs at this
  generalize grpL lab' ns = gs' at this
  induction this with
  | nil => rfl
  | cons e1 _ _ _ ih => rw [List.map_cons, List.map_cons, e1, ih]
end grp
/-! ### dict comprehensions with nested keys, d.get(k), sorted(d.values()) of lists of texts that stand in order -/
section ndc
variable {X : Cx}
def tNGet1 (P : Program) (w : World) (td ty : TE) : TE := fun σ H Q => td σ H fun x H1 => ∃ a xs0, x = .ref a ∧ ND P w H1 a xs0 ∧ ty σ H1 fun y H2 => ∃ xs k, ND P w H2 a xs ∧ KeyN H2 y k ∧ Q ((getN xs k).getD .non) H2
theorem pe_ndget1 {P : Program} {w : World} (hP : X.prog = P) (hw : X.w = w) {o e : Expr} {td ty : TE} {apos cpos : Pos} (hu : X.A.units + 64 < cLine) (ho : PE X o td) (he : PE X e ty) (m : M1 X o "get" apos e cpos) : PE X (.Call (.Attribute o "get" apos) [e] [] cpos) (tNGet1 P w td ty) := by
  subst hP hw
  constructor
  intro pins s σ H Q I h
  refine wpAny_Call_method m.base m.few m.line PySem.F.plainAttrs_dict PySem.F.slot_dict_get PySem.F.type_dict_get (thn (ho.run pins s σ H _ I h) ?_)
  rintro u s1 ⟨x, H1, I1, rx, a, xs0, rfl, hn1, q1⟩
  obtain rfl : u = Value.ref a := rx
  obtain ⟨_, hd1, ys1, rel1, dd1⟩ := hn1.full I1
  obtain ⟨ob, es', ep, g1, g2, _⟩ := id dd1
  refine ⟨dd1.typeIs, (fun z e => ⟨ob, by injection e with e; rw [← e]; exact g1, g2.2.1⟩), ?_⟩
  rw [m.trees]
  refine Calls.callWith_builtin rfl (Calls.evalArgs_plain (Calls.spliced_cons (thn (he.run pins s1 σ H1 _ I1 q1) ?_)))
  rintro iv s2 ⟨y, H2, I2, ry, xs, k, hn, hk, q2⟩
  refine Calls.spliced_nil ?_
  obtain ⟨b, rfl, rfl, hb⟩ := nd_at I2 hk ry
  obtain ⟨_, hd, ys, rel, dd⟩ := hn.full I2
  refine call_meetsIn PySem.F.slot_dict_get dd.typeIs PySem.F.entry_dict_get (PySem.F.args_dict_get_2 _ _) (meetsH_dict_get (nestedKind X.prog X.w) a b hd) ⟨(show X.A.in1.units + 8 < cLine by show X.A.units + 1 + 8 < cLine; omega), k, ys, hb, dd, (getN xs k).getD .non, H2, I2.tok _, ?_, q2⟩
  exact (getN_rel (k := k) rel).getD (d := V.non) (d' := Value.none) (show RelV .non .none from rfl)
/-- d[k] = v by a comprehension -/
theorem nd_dictSet {pins : List (Addr × Obj)} {σ : L2.St} {H : Hp} {s : Shared} {E : Value → Shared → Prop} {D b : Addr} {xs : List NE} {k : NestedKey} {v : V} {u r : Value} {Q : Unit → Shared → Prop} (hu : X.A.units + 64 < cLine) (I : Inv X pins σ H s) (hD : ND X.prog X.w H D xs) (hz : xs.length < sizeLine)
    (hk : KeyN H (.ref b) k) (ry : RelV (.ref b) u) (rv : RelV v r) (h : ∀ s', Inv X pins σ (upd H D (NDO X.prog X.w D (putN xs k b v))) s' → Q () s') : wpAny (model X.prog X.w) X.A (dictSet D u r) Q E s := by
  obtain ⟨_, hd, ys, rel, dd⟩ := hD.full I
  obtain ⟨b', rfl, eb, hb⟩ := nd_at I hk ry
  obtain rfl : b = b' := V.ref.inj eb
  have hzv : ys.length ≤ sizeLine := by
    have := awLen rel
    omega
  exact wpAny_dictSet_heap (knd := nestedKind X.prog X.w) (hsz := hzv) (show X.A.units + 8 < cLine by omega) hb dd fun h' dd' hs => h _ (nd_writeA I hD hz rel hd rv dd' hs)
/-- {k: v for target in iter if ..}, keys nested tuples: D the new dict -/
def tDcN (P : Program) (w : World) (wi : TI) (g : TG) (tt : TT) (tk tv : TE) (vs : List Nat) : TE := fun σ H Q => wi σ H fun J H1 => ∀ D, H1 D = none → ∃ W : Nat → Nat → Hp → Prop, (∃ m, W 0 m (upd H1 D (NDO P w D []))) ∧ ∀ i m H, W i m H →
  (J.stop i H ∧ Q (.ref D) H) ∨ (J.go i H ∧ ∃ Nx : Hp → Prop, (∀ H', Nx H' → ∃ m', m' < m ∧ W (i + 1) m' H') ∧ ∀ x H', J.yld i H x H' → g x (wipe σ vs) H' fun σ2 H2 => wipe σ2 vs = wipe σ vs ∧ tt σ2 H2 fun b H3 =>
    if b = true then tk σ2 H3 fun y H4 => tv σ2 H4 fun z H5 => ∃ xs k b, y = .ref b ∧ ND P w H5 D xs ∧ KeyN H5 (.ref b) k ∧ xs.length < sizeLine ∧ Nx (upd H5 D (NDO P w D (putN xs k b z))) else Nx H3)
theorem dcn_core {pins : List (Addr × Obj)} {s : Shared} {σ : L2.St} {H : Hp} {Q : VK} {kx vx tg iter : Expr} {ifs : List Expr} {scope : Scope} {own : List (Str × Nat)} {pos pos' : Pos} {wi : TI} {g : TG} {tt : TT} {tk tv : TE} {use : Option (Value → Sem Unit)} {Qf : Value → Shared → Prop}
    (hu : X.A.units + 64 < cLine) (hc : X.calm = true) (hN : X.N.Nodup) (I : Inv X pins σ H s) (hi : PI X tg iter wi) (ok : BlkOk X.N X.env.scope scope own)
    (hg : ∀ (s : Shared) (H : Hp) (C : Addr) (cl : List (Str × Addr)) (fp : List Addr), PG (X.blk s H scope (compEnvC scope cl C X.env) fp) tg g) (ht : ∀ (s : Shared) (H : Hp) (C : Addr) (cl : List (Str × Addr)) (fp : List Addr), PTs (X.blk s H scope (compEnvC scope cl C X.env) fp) ifs tt)
    (hk : ∀ (s : Shared) (H : Hp) (C : Addr) (cl : List (Str × Addr)) (fp : List Addr), PE (X.blk s H scope (compEnvC scope cl C X.env) fp) kx tk)
    (he : ∀ (s : Shared) (H : Hp) (C : Addr) (cl : List (Str × Addr)) (fp : List Addr), PE (X.blk s H scope (compEnvC scope cl C X.env) fp) vx tv) (hs : ∀ x, foldedSetIterable iter X.env x = pure x)
    (h : tDcN X.prog X.w wi g tt tk tv (own.map (·.2)) σ H Q)
    (hRR : ∀ D C s' m H', Inv X pins σ H' s' → Q (.ref D) H' → s'.heap.Ns C m → FpOk X pins H' C → compPost (model X.prog X.w) X.A X.xe use Qf (.ref D) C (.ok .next) s') :
    wpAny (model X.prog X.w) X.A (comprehension (.DictComp kx vx [⟨tg, iter, ifs, 0⟩] scope pos) scope X.env pos' newDict false (eval iter X.env) use) Qf X.xe s := by
  have hfree : ∀ y ∈ scope.names, y.2 = .free → ∃ c, X.env.cells.lookup y.1 = some c := fun y hy e => by
    rcases ok.free y hy e with k | k
    · exact I.ok.has _ (.inl k)
    · exact I.ok.has _ (.inr k)
  refine wpAny_comprehension_free (use := use) rfl hs (closure_ok hfree) ok.kind (fun y hy e => by rw [ok.uniq y hy, e])
    (thn (hi.run pins s σ H _ I h) fun xv s1 hx => thn hx fun itv s2 h2 => ?_)
  obtain ⟨it, fp, tn, J, H2, e, I2, T, st2, f2, q⟩ := h2
  subst e
  refine wpAny_newObj_type (newEnv_comp ?_)
  generalize hD : s2.heap.objs.size = D
  have hDn : H2 D = none := I2.hok.fresh (Nat.le_of_eq hD)
  obtain ⟨W, ⟨m0, w0⟩, turn⟩ := q D hDn
  generalize hs3 : ({ s2 with heap := s2.heap.push { cls := .type "dict", data := .dict #[] } } : Shared) = s3
  have I3 : Inv X pins σ (upd H2 D (NDO X.prog X.w D [])) s3 := by
    rw [← hs3]
    refine I2.laid (t' := s2.toks) (fun b o e => Heap.get?_push_of_some _ e) (Nat.le_of_eq hD) ?_
    rw [← hD]
    exact ndo_ok (Nat.zero_le _) (beq_eq_false_iff_ne.mpr (Ne.symm (Nat.ne_of_lt I2.big))) .nil (Heap.DictOfH.new s2.heap)
  have h3 : s3.heap = s2.heap.push { cls := .type "dict", data := .dict #[] } := by rw [← hs3]
  have sz : ∀ b ∈ fp, b < s2.heap.objs.size := fun b hb => by
    obtain ⟨o, e, _⟩ := T.obj _ _ st2 b hb
    exact Heap.lt_size e
  have f3 : ∀ b ∈ fp, FpOk X pins (upd H2 D (NDO X.prog X.w D [])) b ∧ b < s3.heap.objs.size := fun b hb => by
    have hlt := sz b hb
    refine ⟨⟨?_, (f2 b hb).2⟩, by rw [h3, Heap.size_push]; exact Nat.lt_succ_of_lt hlt⟩
    rw [upd_ne (by rw [← hD]; exact Nat.ne_of_lt hlt)]
    exact (f2 b hb).1
  have st3 : tn 0 s3.heap := T.keep _ _ _ st2 fun b _ o e => by rw [h3]; exact Heap.get?_push_of_some _ e
  have I4 := block_start I3 ok hN f3
  have pg := hg s3 (upd H2 D (NDO X.prog X.w D [])) s3.heap.objs.size (cellsFrom (s3.heap.objs.size + 1) scope.names (cloFrom X.env.cells scope.names [])) fp
  have pt := ht s3 (upd H2 D (NDO X.prog X.w D [])) s3.heap.objs.size (cellsFrom (s3.heap.objs.size + 1) scope.names (cloFrom X.env.cells scope.names [])) fp
  have pk := hk s3 (upd H2 D (NDO X.prog X.w D [])) s3.heap.objs.size (cellsFrom (s3.heap.objs.size + 1) scope.names (cloFrom X.env.cells scope.names [])) fp
  have pe := he s3 (upd H2 D (NDO X.prog X.w D [])) s3.heap.objs.size (cellsFrom (s3.heap.objs.size + 1) scope.names (cloFrom X.env.cells scope.names [])) fp
  show codeAny _ _ (.compStart (.DictComp kx vx [⟨tg, iter, ifs, 0⟩] scope pos) 0 (.ref it) (.ref D) (compEnvC scope (cellsFrom (s3.heap.objs.size + 1) scope.names (cloFrom X.env.cells scope.names [])) s3.heap.objs.size X.env)) (compPost (model X.prog X.w) X.A X.xe use Qf (.ref D) s3.heap.objs.size) { s3 with heap := pushCells (s3.heap.push { cls := .type "dict", data := .dict #[] }) scope.names }
  have nfp : ∀ b ∈ fp, (upd H2 D (NDO X.prog X.w D [])) b = none := fun b hb => (f3 b hb).1.1
  generalize hce : compEnvC scope (cellsFrom (s3.heap.objs.size + 1) scope.names (cloFrom X.env.cells scope.names [])) s3.heap.objs.size X.env = ce at I4 pg pt pk pe ⊢
  have cL : ce.locals = s3.heap.objs.size := by subst hce; rfl
  generalize hH3 : upd H2 D (NDO X.prog X.w D []) = H3 at I3 I4 pg pt pk pe w0 nfp f3
  generalize hs4 : ({ s3 with heap := pushCells (s3.heap.push { cls := .type "dict", data := .dict #[] }) scope.names } : Shared) = s4 at I4 ⊢
  have st4 : tn 0 s4.heap := T.keep _ _ _ st3 fun b _ o e => by rw [← hs4]; exact pushCells_keeps _ _ _ _ (Heap.get?_push_of_some _ e)
  have stat : ∀ {σ' : L2.St} {H' : Hp} {s' : Shared}, Inv (X.blk s3 H3 scope ce fp) [] σ' H' s' → (∀ b ∈ fp, H' b = none) → ∀ b ∈ fp, FpOk (X.blk s3 H3 scope ce fp) [] H' b := fun {σ' H' s'} I' hn b hb =>
    ⟨hn b hb, (I'.ok.exf b hb).1, I'.ok.exfs b hb, .inl hb, fun x c e => (I'.ok.exf b hb).2 x c e, fun p hp => absurd (show p ∈ ([] : List (Addr × Obj)) ++ [] from hp) (by simp)⟩
  have loop : codeAny (model X.prog X.w) X.A (.compLoop (.DictComp kx vx [⟨tg, iter, ifs, 0⟩] scope pos) 0 (.ref it) (.ref D) ce) (compPost (model X.prog X.w) X.A X.xe use Qf (.ref D) s3.heap.objs.size) s4 := by
    refine compLoop_anyD (fun n s' => ∃ i H', Inv (X.blk s3 H3 scope ce fp) [] (wipe σ (own.map (·.2))) H' s' ∧ tn i s'.heap ∧ (∀ b ∈ fp, H' b = none) ∧ W i n H') ?_ m0 ⟨0, H3, I4, st4, nfp, w0⟩
    rintro n s5 ⟨i, H5, I5, st5, n5, w5⟩
    rcases turn i n H5 w5 with ⟨stop, qq⟩ | ⟨go, Nx, hNx, step⟩
    · have td := T.done (X.blk s3 H3 scope ce fp) rfl rfl rfl hc i [] s5 _ H5 (fun _ _ => False) I5 (stat I5 n5) st5 stop
      refine thnF td fun r s6 ⟨hr, I6⟩ => ?_
      subst hr
      have I7 : Inv X pins σ H5 s6 := I3.call' (ch := fp) I6.os I6.base I6.hok I6.bare fun b hb => ⟨(f3 b hb).1.2.2.2.1, (f3 b hb).1.2.1, (f3 b hb).1.2.2.2.2.1, (f3 b hb).1.2.2.2.2.2⟩
      have nC : H5 s3.heap.objs.size = none := by
        have z : H5 ce.locals = none := I6.free
        rw [cL] at z
        exact z
      obtain ⟨m, hn, _⟩ := I6.loc
      have hn : s6.heap.Ns ce.locals m := hn
      rw [cL] at hn
      exact hRR D s3.heap.objs.size s6 m H5 I7 qq hn (I3.fpOk (Nat.le_refl _) nC)
    · have ti := T.item (X.blk s3 H3 scope ce fp) rfl rfl rfl hc i [] s5 _ H5 (fun _ _ => False) I5 (stat I5 n5) st5 go
      refine thnF ti fun r s6 ⟨u, hr, h6⟩ => ?_
      subst hr
      refine thnF h6 fun _ s7 ⟨x, H7, I7, r7, y7, st7, n7⟩ => ?_
      have I7' := I7.pinned (stat I7 n7) (T.obj _ _ st7)
      refine thnF (pg.run _ s7 _ H7 x u _ I7' r7 (step x H7 y7)) fun _ s8 ⟨σ8, H8, I8, hw8, q8⟩ => ?_
      refine thnF (pt.run _ s8 σ8 H8 _ I8 q8) fun b s9 ⟨H9, I9, q9⟩ => ?_
      have fin : ∀ {s' : Shared} {H' : Hp}, Inv (X.blk s3 H3 scope ce fp) ([] ++ pinsAt fp s7.heap) σ8 H' s' → Nx H' → ∃ m, m < n ∧ ∃ i H', Inv (X.blk s3 H3 scope ce fp) [] (wipe σ (own.map (·.2))) H' s' ∧ tn i s'.heap ∧ (∀ b ∈ fp, H' b = none) ∧ W i m H' := fun {s' H'} I' nx => by
        obtain ⟨m', hm, w'⟩ := hNx H' nx
        have pin' : ∀ b ∈ fp, ∀ o, s7.heap.get? b = some o → s'.heap.get? b = some o ∧ H' b = none := fun b hb o e =>
          let z := I'.pin (b, o) (List.mem_append_right _ (List.mem_append_right _ (mem_pinsAt hb e)))
          ⟨z.1, z.2.1⟩
        have hl : (wipe σ (own.map (·.2))).length = σ8.length := by rw [← hw8, wipe_length]
        refine ⟨m', hm, i + 1, H', (I'.unpinned (pins := [])).weak hl (fun j v e => ?_), T.keep _ _ _ st7 fun b hb o e => (pin' b hb o e).1, fun b hb => ?_, w'⟩
        · rw [← hw8] at e
          exact (wipe_some e).1
        · obtain ⟨o, e, _⟩ := T.obj _ _ st7 b hb
          exact (pin' b hb o e).2
      cases b with
      | false =>
        simp only [Bool.false_eq_true, if_false] at q9 ⊢
        exact fin I9 q9
      | true =>
        simp only [if_true] at q9 ⊢
        refine thnF (pk.run _ s9 σ8 H9 _ I9 q9) fun z s10 ⟨yk, H10, I10, r10, q10⟩ => ?_
        refine thnF (pe.run _ s10 σ8 H10 _ I10 q10) fun z2 s11 ⟨yv, H11, I11, r11, xs, k, b, ek, hD11, hk11, hz11, nx⟩ => ?_
        subst ek
        exact nd_dictSet (X := X.blk s3 H3 scope ce fp) hu I11 hD11 hz11 hk11 r10 r11 fun s12 I12 => fin I12 nx
  exact codeAny_compStart_dict loop (T.self X.A 0 _ _ _ st4 loop)
/-- as a value -/
theorem pe_dcN {P : Program} {w : World} (hP : X.prog = P) (hw : X.w = w) {kx vx tg iter : Expr} {ifs : List Expr} {scope : Scope} {own : List (Str × Nat)} {pos : Pos} {wi : TI} {g : TG} {tt : TT} {tk tv : TE} (hu : X.A.units + 64 < cLine) (hc : X.calm = true) (hN : X.N.Nodup) (hi : PI X tg iter wi) (ok : BlkOk X.N X.env.scope scope own)
    (hg : ∀ (s : Shared) (H : Hp) (C : Addr) (cl : List (Str × Addr)) (fp : List Addr), PG (X.blk s H scope (compEnvC scope cl C X.env) fp) tg g) (ht : ∀ (s : Shared) (H : Hp) (C : Addr) (cl : List (Str × Addr)) (fp : List Addr), PTs (X.blk s H scope (compEnvC scope cl C X.env) fp) ifs tt)
    (hk : ∀ (s : Shared) (H : Hp) (C : Addr) (cl : List (Str × Addr)) (fp : List Addr), PE (X.blk s H scope (compEnvC scope cl C X.env) fp) kx tk)
    (he : ∀ (s : Shared) (H : Hp) (C : Addr) (cl : List (Str × Addr)) (fp : List Addr), PE (X.blk s H scope (compEnvC scope cl C X.env) fp) vx tv) (hs : ∀ x, foldedSetIterable iter X.env x = pure x := by intro _; rfl) :
    PE X (.DictComp kx vx [⟨tg, iter, ifs, 0⟩] scope pos) (tDcN P w wi g tt tk tv (own.map (·.2))) := by
  subst hP hw
  refine ⟨fun pins s σ H Q I h => ?_⟩
  rw [arm_eval_DictComp]
  refine dcn_core hu hc hN I hi ok hg ht hk he hs h fun D C s' m H' I' q hn f => ⟨m, hn, fun h'' sb => ?_⟩
  obtain ⟨f0, f1, f2, f3, f4, f5⟩ := f
  exact ⟨.ref D, H', I'.turned (t' := s'.toks) (fun b o hb e => (sb.2 b hb).trans e) f0 f1 f3 f4 f5, rfl, q⟩
/-! sorted(d.values()) -/
theorem prOf {α β : Type} {F : α → β → Prop} : ∀ {l : List α} {k : List β}, l.length = k.length → (∀ (i : Nat) (x : α) (y : β), l[i]? = some x → k[i]? = some y → F x y) → Paired F l k
  | [], [], _, _ => .nil
  | x :: l, y :: k, h, f => .cons (f 0 x y rfl rfl) (prOf (by simpa using h) fun i x y h1 h2 => f (i + 1) x y (by simpa using h1) (by simpa using h2))
  | [], _ :: _, h, _ => by simp at h
  | _ :: _, [], h, _ => by simp at h
abbrev Firsts (gs : List (List Str)) : Prop := gs.Pairwise fun g h => ∃ x r y s, g = x :: r ∧ h = y :: s ∧ sLt x y
theorem alike_strs : ∀ xs ys : List Str, PySem.W.alikeAll (xs.map .str) (ys.map .str) = true
  | [], _ => by simp [PySem.W.alikeAll]
  | _ :: _, [] => by simp [PySem.W.alikeAll]
  | x :: xs, y :: ys => by
    show PySem.W.alikeAll (.str x :: xs.map .str) (.str y :: ys.map .str) = true
    rw [PySem.W.alikeAll, alike_strs xs ys]
    simp [PySem.W.alike]
theorem depth_strs : ∀ xs : List Str, PyData.depthAll (xs.map .str) = 0
  | [] => by simp [PyData.depthAll]
  | x :: xs => by
    show PyData.depthAll (.str x :: xs.map .str) = 0
    rw [PyData.depthAll, depth_strs xs]
    simp [PyData.depth]
theorem firsts_lt {g h : List Str} (e : ∃ x r y s, g = x :: r ∧ h = y :: s ∧ sLt x y) : PySem.W.dataLt (.list (h.map .str)) (.list (g.map .str)) = false := by
  obtain ⟨x, r, y, s, rfl, rfl, lt⟩ := e
  rw [PySem.W.dataLt_list, List.map_cons, List.map_cons, PySem.W.dataLt_cons (by simp [PySem.W.alike]), PySem.W.dataLt_str]
  have ne : ¬ y = x := fun z => by
    subst z
    exact sLt_irr _ lt
  rw [if_neg (by simp [PyData.eqv, ne])]
  exact decide_eq_false fun z => sLt_irr _ (sLt_trans lt z)
theorem strs_reads {prog : Program} {w : World} {h : Heap} : ∀ {us : List Value} {g : List Str}, Vals (g.map V.str) us → ReadsAll h us (g.map .str) []
  | _, [], .nil => .nil
  | _, x :: g, .cons r t => by
    obtain ⟨tk, rfl⟩ := r
    exact ReadsAll.cons (as := []) (Reads.str x tk) (strs_reads (prog := prog) (w := w) t)
def rSortedVN (P : Program) (w : World) : List V → Hp → VK → Prop := fun vs H Q => ∃ (p a : Addr) (xs : List NE) (gs : List (List Str)), vs = [.ref p] ∧ H p = some (valsO p a) ∧ H a = some (NDO P w a xs) ∧
  Paired (fun (e : NE) (g : List Str) => ∃ q, e.2.2 = .ref q ∧ H q = some (.lst (g.map V.str))) xs gs ∧ Firsts gs ∧ gs.length ≤ 100000 ∧ ∀ L, H L = none → Q (.ref L) (upd H L (.lst (xs.map (·.2.2))))
theorem each_zip {α β : Type} {R : α → β → Prop} : ∀ {l : List α} {k : List β}, Paired R l k → PySem.W.EachIs (fun a (b : β × α) => a = b.2 ∧ R a b.1) l (k.zip l)
  | _, _, .nil => .nil
  | _, _, .cons h t => .cons ⟨rfl, h⟩ (each_zip t)
theorem each_imp {α β : Type} {R S : α → β → Prop} (f : ∀ a b, R a b → S a b) : ∀ {l : List α} {k : List β}, PySem.W.EachIs R l k → PySem.W.EachIs S l k
  | _, _, .nil => .nil
  | _, _, .cons h t => .cons (f _ _ h) (each_imp f t)
theorem each_snd {α β : Type} : ∀ {l : List α} {k : List (β × α)}, PySem.W.EachIs (fun a (b : β × α) => a = b.2) l k → l = k.map (·.2)
  | _, _, .nil => rfl
  | _, _, .cons h t => by rw [List.map_cons, ← h, ← each_snd t]
theorem call_sortedVN {P : Program} {w : World} (hP : X.prog = P) (hw : X.w = w) (hc : X.calm = true) (hu : X.A.units + 64 < cLine) : CallR X (.builtin "sorted") (rSortedVN P w) := by
  subst hP hw
  intro pins s σ H vs us Q I r h
  obtain ⟨p, a, xs, gs, rfl, hp, ha, hg, ho, h1000, q⟩ := h
  obtain ⟨u, rfl, ru⟩ := vals1 r
  obtain rfl : u = Value.ref p := ru
  obtain ⟨hs, es, ep, raw, sz, ent⟩ := nd_raw I ha
  have hv : s.heap.IsValuesView p a := (I.hok p _ hp).1
  have lg := awLen hg
  have hz : es.size ≤ sizeLine := by rw [sizeLine_eq]; omega
  refine Calls.call_function_entry PyProof.Rows.kind_sorted PyProof.Rows.plain_sorted PyProof.Rows.entry_sorted (PyProof.Rows.args_sorted1 _) ?_
  unfold Builtin.«sorted»
  refine wpAny_bind (m := checkCount "sorted" 1 1 _) (wpAny_pure ?_)
  refine wpAny_bind (PySem.W.kdu_collect (A := X.A.in1) (PySem.KdlSrc.rawValues (es := es) (ep := ep)) (I.ok.hd hc) ⟨hv, raw⟩ hz fun h' tk acc hk hacc => ?_)
  have hal : acc.toList.length = es.size := by rw [Array.length_toList, hacc.1]
  have I1 : Inv X pins σ H { s with heap := h', toks := tk } := I.kept hk
  -- the values, each with what it is
  have rvs : Paired RelV (xs.map (·.2.2)) acc.toList := by
    refine prOf (by rw [List.length_map]; omega) fun i x u hx hu => ?_
    obtain ⟨hi, rfl⟩ := hacc.2 i u (by rw [← Array.getElem?_toList]; exact hu)
    obtain ⟨e, he, re⟩ := ent i hi
    rw [List.getElem?_map, he] at hx
    obtain rfl := Option.some.inj hx
    exact re
  have pr : Paired (fun (u : Value) (g : List Str) => ∃ q, u = .ref q ∧ H q = some (.lst (g.map V.str))) acc.toList gs := by
    refine prOf (by omega) fun i u g hu hgi => ?_
    obtain ⟨e, he, q', e1, e2⟩ := awGet2 hg hgi
    obtain ⟨u', hu', ru'⟩ := awGet rvs (show (xs.map (·.2.2))[i]? = some e.2.2 by rw [List.getElem?_map, he]; rfl)
    rw [hu] at hu'
    obtain rfl := Option.some.inj hu'
    rw [e1] at ru'
    exact ⟨q', ru', e2⟩
  refine wpAny_bind (wpAny_newList ?_ (by rw [hal]; exact hz))
  generalize hh2 : h'.push (seqObj "list" acc.toList.toArray 0) = h2
  have hoL : h2.get? h'.objs.size = some (seqObj "list" acc.toList.toArray 0) := by rw [← hh2]; exact Heap.get?_push_size _ rfl
  have k2 : ∀ b o, h'.get? b = some o → h2.get? b = some o := fun b o e => by rw [← hh2]; exact Heap.get?_push_of_some _ e
  show wpAny _ _ _ _ _ { s with heap := h2, toks := tk }
  have ez := each_zip pr
  have el : (gs.zip acc.toList).length = es.size := by rw [List.length_zip]; omega
  have srt : (gs.zip acc.toList).mergeSort (PySem.W.dataLe false fun b : List Str × Value => .list (b.1.map .str)) = gs.zip acc.toList := by
    refine List.mergeSort_of_pairwise ?_
    rw [PySem.W.dataLe_eq]
    have hf : (gs.zip acc.toList).map (·.1) = gs := List.map_fst_zip (by omega)
    have ho' : ((gs.zip acc.toList).map (·.1)).Pairwise fun g h => ∃ x r y s, g = x :: r ∧ h = y :: s ∧ sLt x y := by rw [hf]; exact ho
    rw [List.pairwise_map] at ho'
    refine ho'.imp fun {b b'} e => ?_
    show (!PySem.W.dataLt _ _) = true
    rw [firsts_lt e]
    rfl
  refine wpAny_bind (wpAny_holding (PySem.W.list_sort_data (s := { s with heap := h2, toks := tk }) (enc := fun b : List Str × Value => .list (b.1.map .str)) (bs := gs.zip acc.toList) (R := fun v b => v = b.2) hoL (each_imp (fun _ _ e => e.1) ez) (each_imp (fun u b e => ?_) ez) (.of fun b b' => ?_) (.others fun b => ⟨(fun z => nomatch z), (fun _ z => nomatch z)⟩) (by rw [el]; exact hz) (fun b _ => ?_) fun out hl eo => ?_))
  · obtain ⟨_, q', e1, e2⟩ := e
    subst e1
    obtain ⟨_, its, n, rv, hob⟩ := (show ObjOk X.prog X.w H _ q' (.lst (b.1.map V.str)) from I1.hok q' _ e2)
    refine ⟨_, Reads.list (k2 _ _ hob) rfl rfl (by simpa using strs_reads (prog := X.prog) (w := X.w) (h := h2) rv), ?_⟩
    rw [List.mem_singleton]
    exact (Nat.ne_of_lt (Heap.lt_size hob)).symm
  · show PySem.W.alike (.list _) (.list _) = true
    rw [PySem.W.alike]
    exact alike_strs _ _
  · show X.A.in1.units + 1 + PyData.depth (.list _) < cLine
    rw [PyData.depth, depth_strs]
    show X.A.units + 1 + 1 + _ < cLine
    omega
  · rw [srt] at eo
    have eout : out = acc.toList := by
      rw [each_snd eo]
      exact List.map_snd_zip (by omega)
    subst eout
    obtain ⟨e', he'⟩ := PyProof.Rows.sortedHeap_at (vs := acc.toList) (out := acc.toList.toArray) hoL
    have hlen : (xs.map (·.2.2)).length ≤ sizeLine := by rw [List.length_map, sizeLine_eq]; omega
    refine wpAny_pure ⟨_, rfl, .ref h'.objs.size, upd H h'.objs.size (.lst (xs.map (·.2.2))), I1.laid (t' := tk) (fun b u e => ?_) (Nat.le_refl _)
      (show ObjOk X.prog X.w _ _ _ (.lst (xs.map (·.2.2))) from ⟨hlen, acc.toList, e', rvs, he'⟩), rfl, q _ (I1.hok.fresh (Nat.le_refl _))⟩
    have hb : b < h'.objs.size := Heap.lt_size e
    rw [PyProof.Rows.sortedHeap_old (Nat.ne_of_lt hb) (by rw [← hh2, size_push']; exact Nat.lt_succ_of_lt hb)]
    exact k2 _ _ e
end ndc
/-! ### the class Walk -/
abbrev sWalk___init__ : Stmt := inClass c_Walk 0
abbrev sWalk_meet : Stmt := inClass c_Walk 1
theorem scWi : FnScope ["self", "first"] ["self", "first"] (defScope sWalk___init__) := ⟨rfl, rfl, rfl, by decide +kernel, rfl, by decide +kernel, by decide +kernel⟩
theorem scWm : FnScope ["self", "thing", "ahead", "bits"] ["self", "thing", "ahead", "bits"] (defScope sWalk_meet) := ⟨rfl, rfl, rfl, by decide +kernel, rfl, by decide +kernel, by decide +kernel⟩
theorem w_mn : ¬ ("met" : Str) = "numbers" := by decide +kernel
theorem w_mw : ¬ ("met" : Str) = "ways" := by decide +kernel
theorem w_nw : ¬ ("numbers" : Str) = "ways" := by decide +kernel
def wF (M N W : Addr) : List (Str × V) := putF "ways" (.ref W) (putF "numbers" (.ref N) (putF "met" (.ref M) []))
theorem wF_met (M N W : Addr) : (wF M N W).lookup ("met" : Str) = some (.ref M) := by
  unfold wF
  rw [lookup_putF, if_neg w_mw, lookup_putF, if_neg w_mn, lookup_putF, if_pos rfl]
theorem wF_num (M N W : Addr) : (wF M N W).lookup ("numbers" : Str) = some (.ref N) := by
  unfold wF
  rw [lookup_putF, if_neg w_nw, lookup_putF, if_pos rfl]
theorem wF_ways (M N W : Addr) : (wF M N W).lookup ("ways" : Str) = some (.ref W) := by
  unfold wF
  rw [lookup_putF, if_pos rfl]
theorem wF_no (M N W : Addr) {m : Str} (h1 : ¬ m = "ways") (h2 : ¬ m = "numbers") (h3 : ¬ m = "met") : (wF M N W).lookup m = none := by
  unfold wF
  rw [lookup_putF, if_neg h1, lookup_putF, if_neg h2, lookup_putF, if_neg h3]
  rfl
theorem wF_meet (M N W : Addr) : (wF M N W).lookup ("meet" : Str) = none := wF_no M N W (by decide +kernel) (by decide +kernel) (by decide +kernel)
structure WCls (K : PySem.W.Frag) (mg : Str → Option Value) (C : Addr) : Prop where
  cl : Cls K C
  nM : NoAttr K C "met"
  nN : NoAttr K C "numbers"
  nW : NoAttr K C "ways"
  mgC : mg "Walk" = some (.ref C)
abbrev WT := NestedKey × Addr
def numE (ts : List WT) : List NE := ts.mapIdx fun i t => (t.1, t.2, .int (i : Nat))
theorem numE_snoc (ts : List WT) (t : WT) : numE (ts ++ [t]) = numE ts ++ [(t.1, t.2, .int (ts.length : Nat))] := by
  unfold numE
  rw [List.mapIdx_append]
  simp
theorem numE_len (ts : List WT) : (numE ts).length = ts.length := List.length_mapIdx ..
theorem numE_mem {ts : List WT} {e : NE} (h : e ∈ numE ts) : ∃ i t, ts[i]? = some t ∧ e = (t.1, t.2, .int (i : Nat)) := by
  obtain ⟨i, hi, rfl⟩ := List.mem_mapIdx.mp h
  exact ⟨i, ts[i], List.getElem?_eq_getElem hi, rfl⟩
theorem numE_none {ts : List WT} {k : NestedKey} (h : ∀ t ∈ ts, t.1 ≠ k) : getN (numE ts) k = none := by
  rw [getN_none]
  intro e he
  obtain ⟨i, t, ht, rfl⟩ := numE_mem he
  exact h t (List.mem_of_getElem? ht)
theorem numE_some {ts : List WT} {i : Nat} {k : NestedKey} {b : Addr} (nd : (ts.map (·.1)).Nodup) (h : ts[i]? = some (k, b)) : getN (numE ts) k = some (.int (i : Nat)) := by
  cases e : getN (numE ts) k with
  | none =>
    exfalso
    have hi := (List.getElem?_eq_some_iff.mp h).1
    have := getN_none.mp e (k, b, .int (i : Nat)) (List.mem_mapIdx.mpr ⟨i, hi, by rw [List.getElem?_eq_getElem hi] at h; rw [Option.some.inj h]⟩)
    exact this rfl
  | some v =>
    obtain ⟨c, hc⟩ := getN_some e
    obtain ⟨j, t, ht, he⟩ := numE_mem hc
    have e1 : t.1 = k := (Prod.mk.inj he).1.symm
    have e2 : v = .int (j : Nat) := (Prod.mk.inj (Prod.mk.inj he).2).2
    have ij : i = j := by
      have a1 : (ts.map (·.1))[i]? = some k := by rw [List.getElem?_map, h]; rfl
      have a2 : (ts.map (·.1))[j]? = some k := by rw [List.getElem?_map, ht, ← e1]; rfl
      exact (List.getElem?_inj (List.getElem?_eq_some_iff.mp a1).1 nd).mp (a1.trans a2.symm)
    rw [e2, ij]
abbrev WayAt (H : Hp) : List Addr → List (Int × List Int) → Prop := Paired fun q e => ∃ bb, H q = some (.tup [.int e.1, .ref bb]) ∧ H bb = some (.tup (e.2.map V.int))
structure WalkAt (P : Program) (w : World) (C : Addr) (H : Hp) (p M N W : Addr) (ts : List WT) (wy : List (Int × List Int)) : Prop where
  ob : ∃ dx, H p = some (.ins C dx (wF M N W))
  met : H M = some (.lst (ts.map fun t => V.ref t.2))
  num : ND P w H N (numE ts)
  ways : ∃ ws, H W = some (.lst (ws.map V.ref)) ∧ WayAt H ws wy
  nd : (ts.map (·.1)).Nodup
  keys : ∀ t ∈ ts, KeyN H (.ref t.2) t.1
  len : wy.length = ts.length
  nMW : M ≠ W
theorem keyn_stay {H H' : Hp} (t : TupsStay H H') {y : V} {k : NestedKey} (h : KeyN H y k) : KeyN H' y k := ⟨nk_stay t _ _ h.1, h.2⟩
theorem WalkAt.stay {C : Addr} {H H' : Hp} {p M N W : Addr} {ts : List WT} {wy : List (Int × List Int)} (h : WalkAt P w C H p M N W ts wy) (t : TupsStay H H') (k : ∀ c o, (c = p ∨ c = M ∨ c = N ∨ c = W) → H c = some o → H' c = some o) : WalkAt P w C H' p M N W ts wy := by
  obtain ⟨⟨dx, ob⟩, met, num, ⟨ws, e1, e2⟩, nd, keys, len, ne⟩ := h
  exact ⟨⟨dx, k _ _ (.inl rfl) ob⟩, k _ _ (.inr (.inl rfl)) met, nd_stay num (k _ _ (.inr (.inr (.inl rfl))) num.ob) t, ⟨ws, k _ _ (.inr (.inr (.inr rfl))) e1, awMap (fun q e z => z.elim fun bb y => ⟨bb, t _ _ y.1, t _ _ y.2⟩) e2⟩, nd, fun x hx => keyn_stay t (keys x hx), len, ne⟩
theorem WalkAt.same {C : Addr} {H H' : Hp} {p M N W : Addr} {ts : List WT} {wy : List (Int × List Int)} (h : WalkAt P w C H p M N W ts wy) (s : Same H H') : WalkAt P w C H' p M N W ts wy := h.stay (Same.tups s) fun c o _ e => s c o e
def spWi (P : Program) (w : World) (C : Addr) : Sp := fun vs H Q _ => ∃ (p dx b : Addr) (k : NestedKey), vs = [.ref p, .ref b] ∧ H p = some (.ins C dx []) ∧ KeyN H (.ref b) k ∧
  ∀ H' M N W, WalkAt P w C H' p M N W [(k, b)] [(0, [])] → H M = none → H N = none → H W = none → (∀ c o, c ≠ p → H c = some o → H' c = some o) → Q .non H'
theorem ok_wi {f C : Addr} {fd : FuncData} {k : Nat} (F : Fun K "__init__" "Walk.__init__" sWalk___init__ f fd) (T : WCls K mg C) : FnOk P w K mg base CX0 (k + 1) f fd ["self", "first"] (spWi P w C) := by
  refine F.ok scWi (fun vs H Q E h => ?_) (fun cdv A outer s H vs Q E hr h => ?_)
  · obtain ⟨p, dx, b, k, rfl, _⟩ := h
    rfl
  · obtain ⟨p, dx, b, key, rfl, hp, hk, q⟩ := h
    refine ⟨_, pss_cons (ps_fld (pv 0) (pe_lst (pa_cons (pv 1) pa_nil)) rfl)
      (pss_cons (ps_fld (pv 0) (pe_ndisp (P := P) (w := w) rfl rfl hr.units (pv 1) pe_int) rfl)
      (pss_one (ps_fld (pv 0) (pe_lst (pa_cons (pe_tup (pa_cons pe_int (pa_cons (pe_tup pa_nil) pa_nil))) pa_nil)) rfl))), ?_⟩
    refine ⟨.ref b, rfl, by show 1 ≤ sizeLine; decide, fun M hM => ?_⟩
    have sM := same_new (o := .lst [.ref b]) hM
    have npM : p ≠ M := ne_of_none hp hM
    refine ⟨.ref p, rfl, p, C, dx, [], rfl, sM _ _ hp, T.cl, T.nM, (by show 0 < 1000; decide), ?_⟩
    -- the heap with met
    have t1 : TupsStay H (upd (upd H M (.lst [.ref b])) p (.ins C dx (putF "met" (.ref M) []))) := fun c xs e => by
      rw [upd_ne (ne_of e hp (fun z => nomatch z))]
      exact sM _ _ e
    have k1 : ∀ c o, c ≠ p → H c = some o → upd (upd H M (.lst [.ref b])) p (.ins C dx (putF "met" (.ref M) [])) c = some o := fun c o n e => by
      rw [upd_ne n]
      exact sM _ _ e
    have ep1 : upd (upd H M (.lst [.ref b])) p (.ins C dx (putF "met" (.ref M) [])) p = some (.ins C dx (putF "met" (.ref M) [])) := upd_same
    have eM1 : upd (upd H M (.lst [.ref b])) p (.ins C dx (putF "met" (.ref M) [])) M = some (.lst [.ref b]) := by
      rw [upd_ne npM.symm]
      exact upd_same
    generalize upd (upd H M (.lst [.ref b])) p (.ins C dx (putF "met" (.ref M) [])) = H1 at t1 k1 ep1 eM1
    intro N hN
    have sN := same_new (o := NDO P w N []) hN
    have npN : p ≠ N := ne_of_none ep1 hN
    have nMN : M ≠ N := ne_of_none eM1 hN
    refine ⟨.ref b, rfl, b, key, rfl, keyn_stay (t1.trans (Same.tups sN)) hk, upd_same, ?_⟩
    rw [upd_upd]
    have sN2 := same_new (o := NDO P w N [(key, b, .int 0)]) hN
    refine ⟨.ref p, rfl, p, C, dx, _, rfl, sN2 _ _ ep1, T.cl, T.nN, (by show 1 < 1000; decide), ?_⟩
    have k2 : ∀ c o, c ≠ p → H1 c = some o → upd (upd H1 N (NDO P w N [(key, b, .int 0)])) p (.ins C dx (putF "numbers" (.ref N) (putF "met" (.ref M) []))) c = some o := fun c o n e => by
      rw [upd_ne n]
      exact sN2 _ _ e
    have t2 : TupsStay H1 (upd (upd H1 N (NDO P w N [(key, b, .int 0)])) p (.ins C dx (putF "numbers" (.ref N) (putF "met" (.ref M) [])))) := fun c xs e => k2 c _ (ne_of e ep1 (fun z => nomatch z)) e
    have ep2 : upd (upd H1 N (NDO P w N [(key, b, .int 0)])) p (.ins C dx (putF "numbers" (.ref N) (putF "met" (.ref M) []))) p = some (.ins C dx (putF "numbers" (.ref N) (putF "met" (.ref M) []))) := upd_same
    have eN2 : upd (upd H1 N (NDO P w N [(key, b, .int 0)])) p (.ins C dx (putF "numbers" (.ref N) (putF "met" (.ref M) []))) N = some (NDO P w N [(key, b, .int 0)]) := by
      rw [upd_ne npN.symm]
      exact upd_same
    generalize upd (upd H1 N (NDO P w N [(key, b, .int 0)])) p (.ins C dx (putF "numbers" (.ref N) (putF "met" (.ref M) []))) = H2 at k2 t2 ep2 eN2
    have eM2 := k2 _ _ npM.symm eM1
    refine ⟨by show 0 ≤ sizeLine; decide, fun E0 hE0 => ⟨by show 2 ≤ sizeLine; decide, fun T0 hT0 => ⟨by show 1 ≤ sizeLine; decide, fun W hW => ?_⟩⟩⟩
    have s1 := same_new (o := .tup []) hE0
    have s2 := same_new (o := .tup [.int 0, .ref E0]) hT0
    have s3 := same_new (o := .lst [.ref T0]) hW
    have s123 := (s1.trans s2).trans s3
    have npW : p ≠ W := ne_of_none ((s1.trans s2) _ _ ep2) hW
    have nMW : M ≠ W := ne_of_none ((s1.trans s2) _ _ eM2) hW
    have nNW : N ≠ W := ne_of_none ((s1.trans s2) _ _ eN2) hW
    refine ⟨.ref p, rfl, p, C, dx, _, rfl, s123 _ _ ep2, T.cl, T.nW, (by show 2 < 1000; decide), ?_⟩
    have k3 : ∀ c o, c ≠ p → H2 c = some o → upd (upd (upd (upd H2 E0 (.tup [])) T0 (.tup [.int 0, .ref E0])) W (.lst [.ref T0])) p (.ins C dx (putF "ways" (.ref W) (putF "numbers" (.ref N) (putF "met" (.ref M) [])))) c = some o := fun c o n e => by
      rw [upd_ne n]
      exact s123 _ _ e
    have t3 : TupsStay H2 (upd (upd (upd (upd H2 E0 (.tup [])) T0 (.tup [.int 0, .ref E0])) W (.lst [.ref T0])) p (.ins C dx (putF "ways" (.ref W) (putF "numbers" (.ref N) (putF "met" (.ref M) []))))) := fun c xs e => k3 c _ (ne_of e ep2 (fun z => nomatch z)) e
    have tA := (t1.trans t2).trans t3
    refine q _ M N W ⟨⟨dx, upd_same⟩, k3 _ _ npM.symm eM2, ⟨k3 _ _ npN.symm eN2, fun e he => ?_⟩, ⟨[T0], ?_, .cons ⟨E0, ?_, ?_⟩ .nil⟩, by simp, fun x hx => ?_, rfl, nMW⟩ hM ?_ ?_ fun c o n e => k3 c o n (k2 c o n (k1 c o n e))
    · rw [List.mem_singleton.mp he]
      exact ⟨nk_stay tA _ _ hk.1, hk.2.1⟩
    · rw [upd_ne npW.symm]
      exact upd_same
    · have : T0 ≠ p := fun z => by rw [z] at hT0; rw [s1 _ _ ep2] at hT0; cases hT0
      rw [upd_ne this]
      exact s3 _ _ upd_same
    · have : E0 ≠ p := fun z => by rw [z, ep2] at hE0; cases hE0
      rw [upd_ne this]
      exact s3 _ _ (s2 _ _ upd_same)
    · rw [List.mem_singleton.mp hx]
      exact keyn_stay tA hk
    · cases e : H N with
      | none => rfl
      | some o =>
        by_cases z : N = p
        · exact absurd z npN.symm
        · rw [k1 _ _ z e] at hN
          cases hN
    · cases e : H W with
      | none => rfl
      | some o =>
        by_cases z : W = p
        · exact absurd z npW.symm
        · rw [(s1.trans s2) _ _ (k2 _ _ z (k1 _ _ z e))] at hW
          cases hW
def spWm (P : Program) (w : World) (C : Addr) : Sp := fun vs H Q _ => ∃ (p M N W b bb : Addr) (ts : List WT) (wy : List (Int × List Int)) (k : NestedKey) (ah : Int) (bs : List Int), vs = [.ref p, .ref b, .int ah, .ref bb] ∧ WalkAt P w C H p M N W ts wy ∧ KeyN H (.ref b) k ∧ H bb = some (.tup (bs.map V.int)) ∧ ts.length ≤ 1000000 ∧
  ∀ H' ts' wy' i, WalkAt P w C H' p M N W ts' wy' → (∃ b', ts'[i]? = some (k, b')) → ((ts' = ts ∧ wy' = wy) ∨ (ts' = ts ++ [(k, b)] ∧ wy' = wy ++ [(ah, bs)] ∧ i = ts.length ∧ ∀ t ∈ ts, t.1 ≠ k)) → (∀ c o, c ≠ M → c ≠ N → c ≠ W → H c = some o → H' c = some o) → Q (.int (i : Nat)) H'
theorem ok_wm {f C : Addr} {fd : FuncData} {k : Nat} (F : Fun K "meet" "Walk.meet" sWalk_meet f fd) (T : WCls K mg C) (mn : mg "len" = none) : FnOk P w K mg base CX0 (k + 1) f fd ["self", "thing", "ahead", "bits"] (spWm P w C) := by
  refine F.ok scWm (fun vs H Q E h => ?_) (fun cdv A outer s H vs Q E hr h => ?_)
  · obtain ⟨p, M, N, W, b, bb, ts, wy, k, ah, bs, rfl, _⟩ := h
    rfl
  · obtain ⟨p, M, N, W, b, bb, ts, wy, key, ah, bs, rfl, hw, hk, hbb, hl, q⟩ := h
    refine ⟨_, pss_mid (ps_if (pt_cmp (pc_ndnotin (P := P) (w := w) rfl rfl hr.units (pv 1) (pe_fld (pv 0) rfl)))
        (pss_cons (ps_ndput (P := P) (w := w) rfl rfl hr.units (pe_fld (pv 0) rfl) (pv 1) (pe_callB call_len_seq (by rfl) mn PySem.boot_len (pa_cons (pe_fld (pv 0) rfl) pa_nil)) rfl)
        (pss_cons (ps_expr (pe_bm PySem.F.plainAttrs_list PySem.F.slot_list_append PySem.F.type_list_append mt_append (pe_fld (pv 0) rfl) (pa_cons (pv 1) pa_nil)))
        (pss_one (ps_expr (pe_bm PySem.F.plainAttrs_list PySem.F.slot_list_append PySem.F.type_list_append mt_append (pe_fld (pv 0) rfl) (pa_cons (pe_tup (pa_cons (pv 2) (pa_cons (pv 3) pa_nil))) pa_nil)))))) pss_nil)
      (pss_one (ps_ret (pe_ndget (P := P) (w := w) rfl rfl hr.units (pe_fld (pv 0) rfl) (pv 1) (fun _ _ => rfl)))), ?_⟩
    obtain ⟨⟨dx, ob⟩, met, num, ⟨ws, ways, wat⟩, nd, keys, len, nMW⟩ := id hw
    have npM : p ≠ M := ne_of ob met (fun z => nomatch z)
    have npN : p ≠ N := ne_of ob num.ob (fun z => nomatch z)
    have npW : p ≠ W := ne_of ob ways (fun z => nomatch z)
    have nMN : M ≠ N := ne_of met num.ob (fun z => nomatch z)
    have nNW : N ≠ W := ne_of num.ob ways (fun z => nomatch z)
    have sl : (1000000 : Nat) < sizeLine := by rw [sizeLine_eq]; decide
    refine ⟨fun σ2 H2 => ∃ ts' wy' i, σ2 = [some (.ref p), some (.ref b), some (.int ah), some (.ref bb)] ∧ WalkAt P w C H2 p M N W ts' wy' ∧ (∃ b', ts'[i]? = some (key, b')) ∧ ((ts' = ts ∧ wy' = wy) ∨ (ts' = ts ++ [(key, b)] ∧ wy' = wy ++ [(ah, bs)] ∧ i = ts.length ∧ ∀ t ∈ ts, t.1 ≠ key)) ∧ (∀ c o, c ≠ M → c ≠ N → c ≠ W → H c = some o → H2 c = some o), ?_, ?_⟩
    · refine ⟨.ref b, rfl, .ref p, rfl, p, C, dx, _, _, rfl, ob, T.cl, T.nN, wF_num _ _ _, N, _, key, rfl, num, hk, _, rfl, ?_⟩
      cases e : getN (numE ts) key with
      | some v =>
        refine iteF ?_
        obtain ⟨c, hc⟩ := getN_some e
        obtain ⟨i, t, ht, he⟩ := numE_mem hc
        have e1 : t.1 = key := (Prod.mk.inj he).1.symm
        exact ⟨ts, wy, i, rfl, hw, ⟨t.2, by rw [ht, ← e1]⟩, .inl ⟨rfl, rfl⟩, fun c o _ _ _ z => z⟩
      | none =>
        refine iteT ?_
        have fresh : ∀ t ∈ ts, t.1 ≠ key := fun t ht z => by
          obtain ⟨i, hi⟩ := List.mem_iff_getElem?.mp ht
          have : ts[i]? = some (key, t.2) := by rw [hi, ← z]
          rw [numE_some nd this] at e
          cases e
        have nl : (numE ts).length < sizeLine := by rw [numE_len]; omega
        refine ⟨.ref p, rfl, p, C, dx, _, _, rfl, ob, T.cl, T.nM, wF_met _ _ _, M, _, rfl, .inl (.inl (.inl met)), .ref p, rfl, p, C, dx, _, _, rfl, ob, T.cl, T.nN, wF_num _ _ _, .ref b, rfl, N, _, key, b, rfl, num, rfl, hk, e, nl, ?_⟩
        have ml : ((ts.map fun t => V.ref t.2).length : Int) = ((ts.length : Nat) : Int) := by rw [List.length_map]
        rw [ml]
        have num1 := nd_put (v := .int ((ts.length : Nat) : Int)) num hk
        rw [← numE_snoc ts (key, b)] at num1 ⊢
        have k1 : ∀ c o, c ≠ N → H c = some o → upd H N (NDO P w N (numE (ts ++ [(key, b)]))) c = some o := fun c o n z => by
          rw [upd_ne n]
          exact z
        have t1 : TupsStay H (upd H N (NDO P w N (numE (ts ++ [(key, b)])))) := fun c xs z => k1 c _ (ne_of z num.ob (fun y => nomatch y)) z
        generalize upd H N (NDO P w N (numE (ts ++ [(key, b)]))) = H1 at num1 k1 t1
        have ob1 := k1 _ _ npN ob
        have met1 := k1 _ _ nMN met
        refine ⟨.ref p, rfl, p, C, dx, _, _, rfl, ob1, T.cl, T.nM, wF_met _ _ _, .inl ⟨rfl, _, .inl (.inl met1)⟩, .ref b, rfl, M, _, _, rfl, rfl, met1, ?_, ?_⟩
        · rw [List.length_map]
          omega
        have e2 : (ts.map fun t => V.ref t.2) ++ [V.ref b] = (ts ++ [(key, b)]).map fun t => V.ref t.2 := by rw [List.map_append]; rfl
        rw [e2]
        have k2 : ∀ c o, c ≠ M → H1 c = some o → upd H1 M (.lst ((ts ++ [(key, b)]).map fun t => V.ref t.2)) c = some o := fun c o n z => by
          rw [upd_ne n]
          exact z
        have t2 : TupsStay H1 (upd H1 M (.lst ((ts ++ [(key, b)]).map fun t => V.ref t.2))) := fun c xs z => k2 c _ (ne_of z met1 (fun y => nomatch y)) z
        have met2 : upd H1 M (.lst ((ts ++ [(key, b)]).map fun t => V.ref t.2)) M = some (.lst ((ts ++ [(key, b)]).map fun t => V.ref t.2)) := upd_same
        generalize upd H1 M (.lst ((ts ++ [(key, b)]).map fun t => V.ref t.2)) = H2 at k2 t2 met2
        have ob2 := k2 _ _ npM ob1
        have ways2 := k2 _ _ nMW.symm (k1 _ _ nNW.symm ways)
        refine ⟨.ref p, rfl, p, C, dx, _, _, rfl, ob2, T.cl, T.nW, wF_ways _ _ _, .inl ⟨rfl, _, .inl (.inl ways2)⟩, .int ah, rfl, .ref bb, rfl, by show 2 ≤ sizeLine; decide, fun U hU => ?_⟩
        have sU := same_new (o := .tup [.int ah, .ref bb]) hU
        have wl := awLen wat
        refine ⟨W, _, _, rfl, rfl, sU _ _ ways2, ?_, ?_⟩
        · rw [List.length_map]
          omega
        have e3 : ws.map V.ref ++ [V.ref U] = (ws ++ [U]).map V.ref := by rw [List.map_append]; rfl
        rw [e3]
        have k3 : ∀ c o, c ≠ W → H2 c = some o → upd (upd H2 U (.tup [.int ah, .ref bb])) W (.lst ((ws ++ [U]).map V.ref)) c = some o := fun c o n z => by
          rw [upd_ne n]
          exact sU _ _ z
        have t3 : TupsStay H2 (upd (upd H2 U (.tup [.int ah, .ref bb])) W (.lst ((ws ++ [U]).map V.ref))) := fun c xs z => k3 c _ (ne_of z ways2 (fun y => nomatch y)) z
        have tA := (t1.trans t2).trans t3
        have nUW : U ≠ W := fun z => by rw [z, ways2] at hU; cases hU
        have eU3 : upd (upd H2 U (.tup [.int ah, .ref bb])) W (.lst ((ws ++ [U]).map V.ref)) U = some (.tup [.int ah, .ref bb]) := by
          rw [upd_ne nUW]
          exact upd_same
        have eW3 : upd (upd H2 U (.tup [.int ah, .ref bb])) W (.lst ((ws ++ [U]).map V.ref)) W = some (.lst ((ws ++ [U]).map V.ref)) := upd_same
        generalize upd (upd H2 U (.tup [.int ah, .ref bb])) W (.lst ((ws ++ [U]).map V.ref)) = H3 at k3 t3 tA eU3 eW3
        refine ⟨ts ++ [(key, b)], wy ++ [(ah, bs)], ts.length, rfl, ⟨⟨dx, k3 _ _ npW ob2⟩, k3 _ _ nMW met2, nd_stay num1 (k3 _ _ nNW (k2 _ _ nMN.symm num1.ob)) (t2.trans t3), ⟨ws ++ [U], eW3, ?_⟩, ?_, fun x hx => ?_, ?_, nMW⟩, ⟨b, ?_⟩, .inr ⟨rfl, rfl, rfl, fresh⟩, fun c o n1 n2 n3 z => k3 _ _ n3 (k2 _ _ n1 (k1 _ _ n2 z))⟩
        · exact awSnoc (F := fun (q : Addr) (e : Int × List Int) => ∃ bb, H3 q = some (.tup [.int e.1, .ref bb]) ∧ H3 bb = some (.tup (e.2.map V.int))) ⟨bb, eU3, tA _ _ hbb⟩ (awMap (fun q e z => z.elim fun bb y => ⟨bb, tA _ _ y.1, tA _ _ y.2⟩) wat)
        · rw [List.map_append, List.nodup_append]
          refine ⟨nd, by simp, fun x hx y hy => ?_⟩
          obtain ⟨t, ht, rfl⟩ := List.mem_map.mp hx
          rw [List.mem_singleton.mp hy]
          exact fresh t ht
        · rcases List.mem_append.mp hx with hx | hx
          · exact keyn_stay tA (keys x hx)
          · rw [List.mem_singleton.mp hx]
            exact keyn_stay tA hk
        · rw [List.length_append, List.length_append, len]
          rfl
        · rw [List.getElem?_append_right (Nat.le_refl _), Nat.sub_self]
          rfl
    · rintro σ2 H2 ⟨ts', wy', i, rfl, hw2, ⟨b', hb'⟩, hcase, kp⟩
      obtain ⟨⟨dx2, ob2⟩, _, num2, _, nd2, _⟩ := id hw2
      have tS : TupsStay H H2 := fun c xs z => kp c _ (ne_of z met (fun y => nomatch y)) (ne_of z num.ob (fun y => nomatch y)) (ne_of z ways (fun y => nomatch y)) z
      exact ⟨.ref p, rfl, p, C, dx2, _, _, rfl, ob2, T.cl, T.nN, wF_num _ _ _, .ref b, rfl, N, _, key, .int (i : Nat), rfl, num2, keyn_stay tS hk, numE_some nd2 hb', q H2 ts' wy' i hw2 ⟨b', hb'⟩ hcase kp⟩
/-! ### list(zip(a, b)) of two lists -/
section lz
variable {A : Around} {E : Value → Shared → Prop} {s : Shared}
abbrev IsZ (h : Heap) (z TI TO : Addr) (f0 : Value) (b : Bool) : Prop := h.get? z = some { cls := .type "zip", dict := none, data := .fields #[f0, .bool b, .bool false, .ref TI, .ref TO], slots := #[] }
theorem z_free {z TI TO T : Addr} {f : Bool} {oT : Obj} {Q : Bool → Shared → Prop} (hz : IsZ s.heap z TI TO (rawInt T) f) (hT : s.heap.get? T = some oT) (q : ∀ h', IsZ h' z TI TO (rawInt T) true → Heap.SameBut z s.heap h' → Q false { s with heap := h' }) :
    wpAny (model P w) A (Builtin.SmallTypes.ownedTupleIsFree (.ref z)) Q E s := by
  unfold Builtin.SmallTypes.ownedTupleIsFree
  apply wpAny_bind
  refine wpAny_field hz rfl (x := rawInt T) rfl ?_
  show wpAny _ _ (loadIfAlive ((T : Int).toNat) >>= _) _ _ _
  rw [Int.toNat_natCast]
  apply wpAny_bind
  refine PySem.W.kdx_alive hT ?_
  simp only [Option.isNone_some, Bool.false_eq_true, if_false]
  apply wpAny_bind
  refine wpAny_field hz rfl (x := .bool f) rfl ?_
  cases f with
  | true =>
    rw [if_neg (show ¬ ((Value.bool true != Value.bool true) = true) from Bool.false_ne_true)]
    exact wpAny_pure (q s.heap hz (Heap.SameBut.refl _ _))
  | false =>
    rw [if_pos (show (Value.bool false != Value.bool true) = true from rfl)]
    apply wpAny_bind
    exact wpAny_setField_rec hz (by simp) fun h' hz' hs' => wpAny_pure (q h' hz' hs')
theorem z_next_out {z TI TO i1 i2 l1 l2 T : Addr} {k1 k2 : Nat} {xs ys : Array Value} {x y : Value} {f : Bool} {oT : Obj} {Q : Value → Shared → Prop} (D : ZipApart z TI TO i1 i2 l1 l2) (hz : IsZ s.heap z TI TO (rawInt T) f) (hT : s.heap.get? T = some oT)
    (hTI : IsPair s.heap TI (.ref i1) (.ref i2)) (h1 : s.heap.IsListIter i1 l1 k1) (h2 : s.heap.IsListIter i2 l2 k2) (hl1 : s.heap.IsList l1 xs) (hl2 : s.heap.IsList l2 ys) (hx : xs[k1]? = some x) (hy : ys[k2]? = some y)
    (q : ∀ h', IsZ h' z TI TO (rawInt T) true → h'.IsListIter i1 l1 (k1 + 1) → h'.IsListIter i2 l2 (k2 + 1) → IsPair h' s.heap.objs.size x y → h'.objs.size = s.heap.objs.size + 1 → (∀ c o, c ≠ z → c ≠ i1 → c ≠ i2 → s.heap.get? c = some o → h'.get? c = some o) → Q (.ref s.heap.objs.size) { s with heap := h' }) :
    wpAny (model P w) A (Builtin.«zip.__next__» ⟨[.ref z], []⟩) (fun fin s' => ∃ v, fin = .done (.ret v) ∧ Q v s') E s := by
  show wpAny _ _ (field (.ref z) 2 >>= _) _ _ _
  apply wpAny_bind
  refine wpAny_field hz rfl (x := .bool false) rfl ?_
  show wpAny _ _ (field (.ref z) 3 >>= _) _ _ _
  apply wpAny_bind
  refine wpAny_field hz rfl (x := .ref TI) rfl ?_
  apply wpAny_bind
  refine wpAny_seqItems hTI rfl ?_
  show wpAny _ _ (Builtin.SmallTypes.ownedTupleIsFree (.ref z) >>= _) _ _ _
  apply wpAny_bind
  refine z_free hz hT fun h₁ hz₁ hs₁ => ?_
  simp only [Bool.false_eq_true, if_false]
  apply wpAny_bind
  simp only [← Array.forIn_toList, List.forIn_cons, List.forIn_nil]
  apply wpAny_bind
  apply wpAny_bind
  apply wpAny_holding
  show wpAny _ _ (Builtin.SmallTypes.nextOf (.ref i1) >>= _) _ _ _
  apply wpAny_bind
  refine wpAny_nextOf_list_item (h1.extBut hs₁.extBut D.i1z) (hl1.extBut hs₁.extBut D.l1z) hx fun h₂ h1₂ hs₂ => wpAny_pure ?_
  refine wpAny_pure ?_
  apply wpAny_bind
  apply wpAny_bind
  apply wpAny_holding
  show wpAny _ _ (Builtin.SmallTypes.nextOf (.ref i2) >>= _) _ _ _
  apply wpAny_bind
  refine wpAny_nextOf_list_item ((h2.extBut hs₁.extBut D.i2z).extBut hs₂.extBut D.i12.symm) ((hl2.extBut hs₁.extBut D.l2z).extBut hs₂.extBut D.l2i1) hy fun h₃ h2₃ hs₃ => wpAny_pure ?_
  refine wpAny_pure (wpAny_pure ?_)
  have hsz : h₃.objs.size = s.heap.objs.size := by rw [hs₃.1, hs₂.1, hs₁.1]
  apply wpAny_bind
  refine wpAny_newTuple ?_ (by show 2 ≤ sizeLine; decide)
  have z3 : IsZ h₃ z TI TO (rawInt T) true := hs₃.extBut _ _ D.i2z.symm (hs₂.extBut _ _ D.i1z.symm hz₁)
  refine wpAny_pure ⟨_, rfl, ?_⟩
  show Q (.ref h₃.objs.size) _
  rw [hsz]
  refine q _ (Heap.get?_push_of_some _ z3) ((h1₂.extBut hs₃.extBut D.i12).at fun o e => Heap.get?_push_of_some _ e) (h2₃.at fun o e => Heap.get?_push_of_some _ e) ?_ ?_ fun c o c1 c2 c3 e => Heap.get?_push_of_some _ (hs₃.extBut _ _ c3 (hs₂.extBut _ _ c2 (hs₁.extBut _ _ c1 e)))
  · rw [← hsz]
    exact Heap.get?_push_size _ rfl
  · rw [Heap.size_push, hsz]
theorem z_pyNext_out {z TI TO i1 i2 l1 l2 T : Addr} {k1 k2 : Nat} {xs ys : Array Value} {x y : Value} {f : Bool} {oT : Obj} {Q : Option Value → Shared → Prop} (D : ZipApart z TI TO i1 i2 l1 l2) (hz : IsZ s.heap z TI TO (rawInt T) f) (hT : s.heap.get? T = some oT)
    (hTI : IsPair s.heap TI (.ref i1) (.ref i2)) (h1 : s.heap.IsListIter i1 l1 k1) (h2 : s.heap.IsListIter i2 l2 k2) (hl1 : s.heap.IsList l1 xs) (hl2 : s.heap.IsList l2 ys) (hx : xs[k1]? = some x) (hy : ys[k2]? = some y)
    (q : ∀ h', IsZ h' z TI TO (rawInt T) true → h'.IsListIter i1 l1 (k1 + 1) → h'.IsListIter i2 l2 (k2 + 1) → IsPair h' s.heap.objs.size x y → h'.objs.size = s.heap.objs.size + 1 → (∀ c o, c ≠ z → c ≠ i1 → c ≠ i2 → s.heap.get? c = some o → h'.get? c = some o) → Q (some (.ref s.heap.objs.size)) { s with heap := h' }) :
    wpAny (model P w) A (pyNext (.ref z)) Q E s := by
  have ty : s.TypeIs (.ref z) "zip" := ⟨_, hz, rfl⟩
  unfold pyNext
  apply wpAny_bind
  apply wpAny_attempt
  refine wpAny_callSpecial?_slot (name := Str.ofString "__next__") ty F.slot_zip_next ?_
  refine wpAny_call_entry F.slot_zip_next ty F.entry_zip_next ?_ (F.args_zip_next_1 _)
  exact z_next_out D hz hT hTI h1 h2 hl1 hl2 hx hy fun h' a1 a2 a3 a4 a5 a6 => wpAny_pure (q h' a1 a2 a3 a4 a5 a6)
theorem z_end_out {z TI TO i1 i2 l1 l2 T : Addr} {k1 : Nat} {xs : Array Value} {f : Bool} {oT : Obj} {Q : Option Value → Shared → Prop} (hh : A.handled = none) (D : ZipApart z TI TO i1 i2 l1 l2) (hz : IsZ s.heap z TI TO (rawInt T) f) (hT : s.heap.get? T = some oT)
    (hTI : IsPair s.heap TI (.ref i1) (.ref i2)) (h1 : s.heap.IsListIter i1 l1 k1) (hl1 : s.heap.IsList l1 xs) (hx : xs[k1]? = none)
    (q : ∀ h', (∀ c o, c ≠ z → c ≠ i1 → s.heap.get? c = some o → h'.get? c = some o) → Q none { s with heap := h' }) :
    wpAny (model P w) A (pyNext (.ref z)) Q E s := by
  have ty : s.TypeIs (.ref z) "zip" := ⟨_, hz, rfl⟩
  unfold pyNext
  apply wpAny_bind
  apply wpAny_attempt
  refine wpAny_callSpecial?_slot (name := Str.ofString "__next__") ty F.slot_zip_next ?_
  refine wpAny_call_entry F.slot_zip_next ty F.entry_zip_next ?_ (F.args_zip_next_1 _)
  show wpAny _ _ (field (.ref z) 2 >>= _) _ _ _
  apply wpAny_bind
  refine wpAny_field hz rfl (x := .bool false) rfl ?_
  show wpAny _ _ (field (.ref z) 3 >>= _) _ _ _
  apply wpAny_bind
  refine wpAny_field hz rfl (x := .ref TI) rfl ?_
  apply wpAny_bind
  refine wpAny_seqItems hTI rfl ?_
  show wpAny _ _ (Builtin.SmallTypes.ownedTupleIsFree (.ref z) >>= _) _ _ _
  apply wpAny_bind
  refine z_free hz hT fun h₁ hz₁ hs₁ => ?_
  simp only [Bool.false_eq_true, if_false]
  apply wpAny_bind
  simp only [← Array.forIn_toList, List.forIn_cons, List.forIn_nil]
  apply wpAny_bind
  apply wpAny_bind
  apply wpAny_holding
  show wpAny _ _ (Builtin.SmallTypes.nextOf (.ref i1) >>= _) _ _ _
  apply wpAny_bind
  refine wpAny_nextOf_list_end hh (h1.extBut hs₁.extBut D.i1z) (hl1.extBut hs₁.extBut D.l1z) hx fun h₂ e hs₂ he => ?_
  obtain ⟨o, ho, hc⟩ := he
  apply wpAny_bind
  refine wpAny_isInstance (T := "StopIteration") (b := true) ⟨o, ho, hc⟩ isSubtype_stop ?_
  exact wpAny_pure (q h₂ fun c o c1 c2 e => hs₂ c o c2 (hs₁.extBut c o c1 e))
/-- the pairs that were made -/
structure MadeZ (xs ys : Array Value) (lo : Addr) (h : Heap) (as : List Addr) : Prop where
  rise : as.Pairwise (· < ·)
  above : ∀ a ∈ as, lo < a
  pairs : ∀ (j : Nat) a, as[j]? = some a → ∃ x y, xs[j]? = some x ∧ ys[j]? = some y ∧ IsPair h a x y
/-- where the zip stands -/
def ZAt (h : Heap) (z TI TO i1 i2 : Addr) (l1 l2 : Addr) (i : Nat) (as : List Addr) : Prop := IsPair h TI (.ref i1) (.ref i2) ∧ (∃ a b, IsPair h TO a b) ∧ h.IsListIter i1 l1 i ∧ h.IsListIter i2 l2 i ∧
  ((i = 0 ∧ IsZ h z TI TO .none false) ∨ ∃ T f, T ∈ as ∧ IsZ h z TI TO (rawInt T) f)
theorem z_loop {S z TI TO i1 i2 l1 l2 : Addr} {xs ys : Array Value} (hh : A.handled = none) (D : ZipApart z TI TO i1 i2 l1 l2) (hxy : xs.size = ys.size) (hSz : S ≠ z) (hSI : S ≠ TI) (hSO : S ≠ TO) (hS1 : S ≠ i1) (hS2 : S ≠ i2) (hSa : S ≠ l1) (hSb : S ≠ l2)
    (lo : Addr) (hlo : z ≤ lo ∧ TI ≤ lo ∧ TO ≤ lo ∧ i1 ≤ lo ∧ i2 ≤ lo ∧ S ≤ lo) (hn : xs.size ≤ sizeLine) (res : Value) {h₁ : Heap} {R : Result → Shared → Prop}
    (hR : ∀ h' tk acc c as, (∀ b o, b ≠ S → b ≠ z → b ≠ TO → b ≠ i1 → b ≠ i2 → h₁.get? b = some o → h'.get? b = some o) → h'.get? S = some { cls := .type "list", dict := none, data := .seq acc c, slots := #[] } → as.length = xs.size → MadeZ xs ys lo h' as →
      acc.toList = as.map Value.ref → R (.ok (.ret res)) { s with heap := h', toks := tk }) :
    ∀ (k i : Nat) (h : Heap) (tk c : Nat) (acc : Array Value) (as : List Addr), xs.size - i = k → i ≤ xs.size → ZAt h z TI TO i1 i2 l1 l2 i as → h.IsList l1 xs → h.IsList l2 ys → (∀ b o, b ≠ S → b ≠ z → b ≠ TO → b ≠ i1 → b ≠ i2 → h₁.get? b = some o → h.get? b = some o) →
      h.get? S = some { cls := .type "list", dict := none, data := .seq acc c, slots := #[] } → acc.toList = as.map Value.ref → as.length = i → MadeZ xs ys lo h as → lo < h.objs.size →
      codeAny (model P w) A (.builtin "list.extend.loop" ⟨[.ref S, .ref z, res], []⟩) R { s with heap := h, toks := tk } := by
  have far : ∀ u : Addr, lo < u → u ≠ z ∧ u ≠ TO ∧ u ≠ i1 ∧ u ≠ i2 ∧ u ≠ S := fun u hu => ⟨Nat.ne_of_gt (Nat.lt_of_le_of_lt hlo.1 hu), Nat.ne_of_gt (Nat.lt_of_le_of_lt hlo.2.2.1 hu), Nat.ne_of_gt (Nat.lt_of_le_of_lt hlo.2.2.2.1 hu), Nat.ne_of_gt (Nat.lt_of_le_of_lt hlo.2.2.2.2.1 hu), Nat.ne_of_gt (Nat.lt_of_le_of_lt hlo.2.2.2.2.2 hu)⟩
  intro k
  induction k with
  | zero =>
    intro i h tk c acc as hk hi hz hl1 hl2 keep hS hacc hal hG hls
    obtain ⟨hTI, ⟨a, b, hTO⟩, g1, g2, st⟩ := hz
    have xe : xs[i]? = none := Array.getElem?_eq_none (by omega)
    have fin : ∀ h', (∀ c o, c ≠ z → c ≠ TO → c ≠ i1 → c ≠ i2 → h.get? c = some o → h'.get? c = some o) → R (.ok (.ret res)) { s with heap := h', toks := tk } := fun h' kp => by
      refine hR h' tk acc c as (fun b o n1 n2 n3 n4 n5 e => kp b o n2 n3 n4 n5 (keep b o n1 n2 n3 n4 n5 e)) (kp S _ hSz hSO hS1 hS2 hS) (by omega) ⟨hG.rise, hG.above, fun j a hj => ?_⟩ hacc
      obtain ⟨x, y, e1, e2, e3⟩ := hG.pairs j a hj
      obtain ⟨f1, f2, f3, f4, _⟩ := far a (hG.above a (List.mem_of_getElem? hj))
      exact ⟨x, y, e1, e2, kp a _ f1 f2 f3 f4 e3⟩
    refine codeAny_builtin F.entry_extend_loop ?_
    rw [Around.under_plainId F.plain_extend_loop _]
    show wpAny _ A.in1 (pyNext (.ref z) >>= _) _ _ _
    apply wpAny_bind
    rcases st with ⟨rfl, hz0⟩ | ⟨T, f, hT, hz1⟩
    · exact wpAny_pyNext_zip_end (s := { s with heap := h, toks := tk }) (A := A.in1) hh D hz0 hTI hTO g1 g2 hl1 hl2 (.inl xe) fun h' kp => wpAny_pure (fin h' kp)
    · obtain ⟨j, hj⟩ := List.mem_iff_getElem?.mp hT
      obtain ⟨x, y, _, _, e3⟩ := hG.pairs j T hj
      exact z_end_out (s := { s with heap := h, toks := tk }) (A := A.in1) hh D hz1 e3 hTI g1 hl1 xe fun h' kp => wpAny_pure (fin h' fun c o n1 _ n3 _ e => kp c o n1 n3 e)
  | succ k ih =>
    intro i h tk c acc as hk hi hz hl1 hl2 keep hS hacc hal hG hls
    obtain ⟨hTI, ⟨a, b, hTO⟩, g1, g2, st⟩ := hz
    have hlt : i < xs.size := by omega
    have hx := Array.getElem?_eq_getElem hlt
    have hy := Array.getElem?_eq_getElem (show i < ys.size by omega)
    have hsz : acc.size = i := by rw [← Array.length_toList, hacc, List.length_map, hal]
    have hSl : S < h.objs.size := Heap.lt_size hS
    refine codeAny_builtin F.entry_extend_loop ?_
    rw [Around.under_plainId F.plain_extend_loop _]
    show wpAny _ A.in1 (pyNext (.ref z) >>= _) _ _ _
    apply wpAny_bind
    -- one more pair
    have more : ∀ (h' : Heap) (f : Bool) (T : Addr), T ∈ as ++ [h.objs.size] → IsZ h' z TI TO (rawInt T) f → (∃ a b, IsPair h' TO a b) → h'.IsListIter i1 l1 (i + 1) → h'.IsListIter i2 l2 (i + 1) → IsPair h' h.objs.size xs[i] (ys[i]'(by omega)) → h'.objs.size = h.objs.size + 1 →
        (∀ c o, c ≠ z → c ≠ TO → c ≠ i1 → c ≠ i2 → h.get? c = some o → h'.get? c = some o) →
        wpAny (model P w) A.in1 (updateSeq S (·.push (Value.ref h.objs.size)) >>= fun _ => again (.builtin "list.extend.loop" ⟨[.ref S, .ref z, res], []⟩)) (fun fin s' => match fin with | .done f => R (.ok f) s' | .again c' => c'.quiet = true ∧ codeAny (model P w) A c' R s') (fun e s' => R (.error e) s') { s with heap := h', toks := tk } := by
      intro h' f T hT hz' hTO' g1' g2' hp hsz' kp
      have hS' := kp S _ hSz hSO hS1 hS2 hS
      have up : ∀ b o, b ≠ S → h'.get? b = some o → (h'.update S (Obj.mapSeq (·.push (Value.ref h.objs.size)))).get? b = some o := fun b o hb e => (Heap.get?_update_other _ _ (Ne.symm hb)).trans e
      apply wpAny_bind
      refine wpAny_updateSeq hS' rfl (wpAny_pure ⟨plainId_quiet F.plain_extend_loop _, ?_⟩) (by rw [hsz]; omega) (by show (acc.push (Value.ref h.objs.size)).size ≤ sizeLine + 1; rw [Array.size_push, hsz]; omega)
      refine ih (i + 1) _ tk _ (acc.push (Value.ref h.objs.size)) (as ++ [h.objs.size]) (by omega) hlt ?_ ?_ ?_ (fun b o n1 n2 n3 n4 n5 e => up b o n1 (kp b o n2 n3 n4 n5 (keep b o n1 n2 n3 n4 n5 e))) (Heap.get?_update_self _ hS' rfl) (by rw [Array.toList_push, hacc, List.map_append]; rfl) (by rw [List.length_append, hal]; rfl) ⟨?_, ?_, ?_⟩ ?_
      · obtain ⟨p, q, hpq⟩ := hTO'
        exact ⟨up _ _ hSI.symm (kp _ _ D.TIz D.TITO D.TIi1 D.TIi2 hTI), ⟨p, q, up _ _ hSO.symm hpq⟩, g1'.at fun o e => up _ o hS1.symm e, g2'.at fun o e => up _ o hS2.symm e, .inr ⟨T, f, hT, up _ _ hSz.symm hz'⟩⟩
      · exact hl1.at fun o e => up _ o hSa.symm (kp _ o D.l1z D.l1TO D.l1i1 D.l1i2 e)
      · exact hl2.at fun o e => up _ o hSb.symm (kp _ o D.l2z D.l2TO D.l2i1 D.l2i2 e)
      · refine List.pairwise_append.mpr ⟨hG.rise, List.pairwise_singleton _ _, fun u hu v hv => ?_⟩
        rw [List.mem_singleton.mp hv]
        obtain ⟨j, hj⟩ := List.mem_iff_getElem?.mp hu
        obtain ⟨_, _, _, _, e3⟩ := hG.pairs j u hj
        exact Heap.lt_size e3
      · intro u hu
        rcases List.mem_append.mp hu with hu | hu
        · exact hG.above u hu
        · rw [List.mem_singleton.mp hu]
          exact hls
      · intro j u hj
        by_cases hjl : j < as.length
        · rw [List.getElem?_append_left hjl] at hj
          obtain ⟨x, y, e1, e2, e3⟩ := hG.pairs j u hj
          obtain ⟨f1, f2, f3, f4, f5⟩ := far u (hG.above u (List.mem_of_getElem? hj))
          exact ⟨x, y, e1, e2, up u _ f5 (kp u _ f1 f2 f3 f4 e3)⟩
        · rw [List.getElem?_append_right (by omega)] at hj
          have hj2 := (List.getElem?_eq_some_iff.mp hj).1
          have ej : j = as.length := by
            simp only [List.length_cons, List.length_nil] at hj2
            omega
          subst ej
          rw [Nat.sub_self] at hj
          obtain rfl := Option.some.inj hj
          subst hal
          exact ⟨_, _, hx, hy, up _ _ (Nat.ne_of_gt hSl) hp⟩
      · have e := up _ _ (Nat.ne_of_gt hSl) hp
        exact Nat.lt_trans hls (Heap.lt_size e)
    rcases st with ⟨rfl, hz0⟩ | ⟨T, f, hT, hz1⟩
    · refine wpAny_pyNext_zip_item (s := { s with heap := h, toks := tk }) (A := A.in1) D hz0 hTI hTO g1 g2 hl1 hl2 hx hy fun h' b1 b2 b3 b4 b5 b6 b7 => ?_
      exact more h' false h.objs.size (List.mem_append_right _ List.mem_cons_self) b1 ⟨_, _, b2⟩ b3 b4 b5 b6 b7
    · obtain ⟨j, hj⟩ := List.mem_iff_getElem?.mp hT
      obtain ⟨x, y, _, _, e3⟩ := hG.pairs j T hj
      refine z_pyNext_out (s := { s with heap := h, toks := tk }) (A := A.in1) D hz1 e3 hTI g1 g2 hl1 hl2 hx hy fun h' b1 b2 b3 b4 b5 b6 => ?_
      exact more h' true T (List.mem_append_left _ hT) b1 ⟨_, _, b6 _ _ D.TOz D.TOi1 D.TOi2 hTO⟩ b2 b3 b4 b5 fun c o n1 _ n3 n4 e => b6 c o n1 n3 n4 e
theorem z_nolen : typeLookup (.type "zip") "__len__" = pure none := by
  rw [typeLookup_type, builtinLookup_eq_fast]
  kernel_rfl
theorem z_nohint : typeLookup (.type "zip") "__length_hint__" = pure none := by
  rw [typeLookup_type, builtinLookup_eq_fast]
  kernel_rfl
theorem z_hint {z : Addr} {Q : Bool → Shared → Prop} (hT : s.TypeIs (.ref z) "zip") (q : Q true s) : wpAny (model P w) A (Builtin.List.listLengthHint (.ref z)) Q E s := by
  unfold Builtin.List.listLengthHint
  apply wpAny_bind
  refine wpAny_specialOf hT z_nolen ?_
  refine wpAny_ite_split (fun h => absurd h (by decide)) (fun _ => ?_)
  refine wpAny_ite_split (fun h => absurd h (by decide)) (fun _ => ?_)
  apply wpAny_bind
  refine wpAny_specialOf hT z_nohint ?_
  exact wpAny_pure q
theorem z_extend {S z TI TO i1 i2 l1 l2 : Addr} {xs ys : Array Value} (hh : A.handled = none) (D : ZipApart z TI TO i1 i2 l1 l2) (hxy : xs.size = ys.size) (hSz : S ≠ z) (hSI : S ≠ TI) (hSO : S ≠ TO) (hS1 : S ≠ i1) (hS2 : S ≠ i2) (hSa : S ≠ l1) (hSb : S ≠ l2)
    (lo : Addr) (hlo : z ≤ lo ∧ TI ≤ lo ∧ TO ≤ lo ∧ i1 ≤ lo ∧ i2 ≤ lo ∧ S ≤ lo) (hls : lo < s.heap.objs.size) (hn : xs.size ≤ sizeLine) (res : Value) {R : Result → Shared → Prop} {c₀ : Nat}
    (hz : ZAt s.heap z TI TO i1 i2 l1 l2 0 []) (hz0 : IsZ s.heap z TI TO .none false) (hl1 : s.heap.IsList l1 xs) (hl2 : s.heap.IsList l2 ys) (hS : s.heap.get? S = some { cls := .type "list", data := .seq #[] c₀ })
    (hR : ∀ h' tk acc c as, (∀ b o, b ≠ S → b ≠ z → b ≠ TO → b ≠ i1 → b ≠ i2 → s.heap.get? b = some o → h'.get? b = some o) → h'.get? S = some { cls := .type "list", dict := none, data := .seq acc c, slots := #[] } → as.length = xs.size → MadeZ xs ys lo h' as →
      acc.toList = as.map Value.ref → R (.ok (.ret res)) { s with heap := h', toks := tk }) :
    wpAny (model P w) A.in1 (Builtin.List.listExtendWith (.ref S) (.ref z) res)
      (fun fin s' => match fin with | .done f => R (.ok f) s' | .again c' => c'.quiet = true ∧ codeAny (model P w) A c' R s') (fun e s' => R (.error e) s') s := by
  have ty : s.TypeIs (.ref z) "zip" := ⟨_, hz0, rfl⟩
  have go : ∀ (h : Heap) (c₁ tk : Nat), (∀ b o, b ≠ S → s.heap.get? b = some o → h.get? b = some o) → lo < h.objs.size → h.get? S = some { cls := .type "list", data := .seq #[] c₁ } →
      codeAny (model P w) A (.builtin "list.extend.loop" ⟨[.ref S, .ref z, res], []⟩) R { s with heap := h, toks := tk } := by
    intro h c₁ tk kp hl hS₁
    obtain ⟨hTI, ⟨a, b, hTO⟩, g1, g2, _⟩ := hz
    refine z_loop (s := s) (h₁ := s.heap) hh D hxy hSz hSI hSO hS1 hS2 hSa hSb lo hlo hn res hR xs.size 0 h tk c₁ #[] [] (Nat.sub_zero _) (Nat.zero_le _) ?_ (hl1.at fun o e => kp _ o hSa.symm e) (hl2.at fun o e => kp _ o hSb.symm e) (fun b o n1 _ _ _ _ e => kp b o n1 e) hS₁ rfl rfl ⟨List.Pairwise.nil, (fun _ z => nomatch z), (fun j a hj => by simp at hj)⟩ hl
    exact ⟨kp _ _ hSI.symm hTI, ⟨a, b, kp _ _ hSO.symm hTO⟩, g1.at fun o e => kp _ o hS1.symm e, g2.at fun o e => kp _ o hS2.symm e, .inl ⟨rfl, kp _ _ hSz.symm hz0⟩⟩
  unfold Builtin.List.listExtendWith
  apply wpAny_bind
  refine wpAny_typeOf (T := "zip") ty ?_
  have e1 : Builtin.List.listSameRef (.ref S) (.ref z) = false := by simp [Builtin.List.listSameRef, hSz]
  have e2 : (Value.type "zip" == Value.type "list") = false := by decide
  have e3 : (Value.type "zip" == Value.type "tuple") = false := by decide
  simp only [e1, e2, e3, Bool.or_false, Bool.false_eq_true, if_false]
  apply wpAny_bind
  refine wpAny_pyIter_slot ty F.slot_zip_iter ?_
  refine wpAny_call_entry F.slot_zip_iter ty F.entry_zip_iter ?_ (F.args_zip_iter_1 _)
  show wpAny _ _ (ret (.ref z)) _ _ s
  refine wpAny_pure ⟨_, rfl, "zip", _, ty, F.slot_zip_next.lookup, ?_⟩
  apply wpAny_bind
  apply wpAny_holding
  refine z_hint ty ?_
  refine wpAny_ite_split (fun _ => ?_) (fun _ => wpAny_pure ⟨plainId_quiet F.plain_extend_loop _, go _ c₀ _ (fun b o _ e => e) hls hS⟩)
  apply wpAny_bind
  apply wpAny_rule
  apply wpAny_bind
  show wpAny _ _ (updateSeq S (·.push .none) >>= fun _ => updateSeq S (·.pop)) _ _ _
  apply wpAny_bind
  refine wpAny_updateSeq hS rfl ?_
  have hS₂ := Heap.get?_update_self (Obj.mapSeq (·.push Value.none)) hS rfl
  refine wpAny_updateSeq (hz := by seq_fits) hS₂ rfl ?_
  have hS₃ := Heap.get?_update_self (Obj.mapSeq (·.pop)) hS₂ rfl
  refine wpAny_pure ⟨plainId_quiet F.plain_extend_loop _, go _ _ _ (fun b o hb e => ?_) ?_ hS₃⟩
  · exact (Heap.get?_update_other _ _ (Ne.symm hb)).trans ((Heap.get?_update_other _ _ (Ne.symm hb)).trans e)
  · rw [Heap.size_update, Heap.size_update]
    exact hls
theorem z_list {z TI TO i1 i2 l1 l2 : Addr} {xs ys : Array Value} (hh : A.handled = none) (D : ZipApart z TI TO i1 i2 l1 l2) (hxy : xs.size = ys.size) (hn : xs.size ≤ sizeLine) {Q : Value → Shared → Prop}
    (hz : ZAt s.heap z TI TO i1 i2 l1 l2 0 []) (hz0 : IsZ s.heap z TI TO .none false) (hl1 : s.heap.IsList l1 xs) (hl2 : s.heap.IsList l2 ys)
    (q : ∀ h' tk acc c as, (∀ b o, b ≠ z → b ≠ TO → b ≠ i1 → b ≠ i2 → s.heap.get? b = some o → h'.get? b = some o) → h'.get? s.heap.objs.size = some { cls := .type "list", dict := none, data := .seq acc c, slots := #[] } → as.length = xs.size → MadeZ xs ys s.heap.objs.size h' as →
      acc.toList = as.map Value.ref → Q (.ref s.heap.objs.size) { s with heap := h', toks := tk }) :
    wpAny (model P w) A (call (.type "list") [.ref z]) Q E s := by
  refine callType_codes (Q₁ := fun obj s₁ => obj = .ref s.heap.objs.size ∧ s₁ = { s with heap := s.heap.push { cls := .type "list", data := .seq #[] } }) F.called_list (F.typeCall_list_1 _) F.entry_list_init (code_list_new _ ⟨rfl, rfl⟩) ?_
  rintro obj s₁ ⟨rfl, rfl⟩
  have hS : (s.heap.push { cls := .type "list", data := .seq #[] }).get? s.heap.objs.size = some { cls := .type "list", data := .seq #[] } := Heap.get?_push_size _ rfl
  obtain ⟨hTI, ⟨a, b, hTO⟩, g1, g2, _⟩ := id hz
  have lt : ∀ {c : Addr} {o : Obj}, s.heap.get? c = some o → c < s.heap.objs.size := fun e => Heap.lt_size e
  have z1 : i1 < s.heap.objs.size := g1.elim fun o e => lt e.1
  have z2 : i2 < s.heap.objs.size := g2.elim fun o e => lt e.1
  have z3 : l1 < s.heap.objs.size := hl1.elim fun o e => lt e.1
  have z4 : l2 < s.heap.objs.size := hl2.elim fun o e => lt e.1
  refine ⟨⟨_, hS, rfl⟩, F.args_list_init_2 _ _, ?_⟩
  show wpAny _ _ (do let old ← Builtin.List.listItems (.ref s.heap.objs.size); Builtin.List.listUpdate (.ref s.heap.objs.size) (fun _ => #[]); letGo old.toList.reverse; Builtin.List.listExtendWith (.ref s.heap.objs.size) (.ref z) .none) _ _ _
  apply wpAny_bind
  unfold Builtin.List.listItems
  apply wpAny_bind
  refine wpAny_seqItems hS rfl (wpAny_pure ?_)
  show wpAny _ _ (updateSeq s.heap.objs.size (fun _ => #[]) >>= fun _ => letGo (#[] : Array Value).toList.reverse >>= fun _ => Builtin.List.listExtendWith (.ref s.heap.objs.size) (.ref z) .none) _ _ _
  apply wpAny_bind
  refine wpAny_updateSeq hS rfl ?_
  have hS₂ := Heap.get?_update_self (Obj.mapSeq (fun _ => (#[] : Array Value))) hS rfl
  have kp : ∀ b o, s.heap.get? b = some o → ((s.heap.push { cls := .type "list", data := .seq #[] }).update s.heap.objs.size (Obj.mapSeq (fun _ => (#[] : Array Value)))).get? b = some o := fun b o e => (Heap.get?_update_other _ _ (Nat.ne_of_gt (Heap.lt_size e))).trans (Heap.get?_push_of_some _ e)
  apply wpAny_bind
  apply wpAny_letGo
  refine z_extend (A := A.in1) (S := s.heap.objs.size) hh D hxy (Nat.ne_of_gt (lt hz0)) (Nat.ne_of_gt (lt hTI)) (Nat.ne_of_gt (lt hTO)) (Nat.ne_of_gt z1) (Nat.ne_of_gt z2) (Nat.ne_of_gt z3) (Nat.ne_of_gt z4) s.heap.objs.size ⟨Nat.le_of_lt (lt hz0), Nat.le_of_lt (lt hTI), Nat.le_of_lt (lt hTO), Nat.le_of_lt z1, Nat.le_of_lt z2, Nat.le_refl _⟩ ?_ hn .none ?_ (kp _ _ hz0) (hl1.at fun o e => kp _ o e) (hl2.at fun o e => kp _ o e) hS₂ ?_
  · show s.heap.objs.size < ((s.heap.push { cls := .type "list", data := .seq #[] }).update s.heap.objs.size (Obj.mapSeq (fun _ => (#[] : Array Value)))).objs.size
    rw [Heap.size_update, Heap.size_push]
    exact Nat.lt_succ_self _
  · exact ⟨kp _ _ hTI, ⟨a, b, kp _ _ hTO⟩, g1.at fun o e => kp _ o e, g2.at fun o e => kp _ o e, .inl ⟨rfl, kp _ _ hz0⟩⟩
  · intro h' tk acc c as k1 k2 k3 k4 k5
    exact ⟨rfl, q h' tk acc c as (fun b o n1 n2 n3 n4 e => k1 b o (Nat.ne_of_lt (Heap.lt_size e)) n1 n2 n3 n4 (kp b o e)) k2 k3 k4 k5⟩
end lz
theorem paired_of {α β : Type} {F : α → β → Prop} : ∀ {l : List α} {k : List β}, l.length = k.length → (∀ (j : Nat) x y, l[j]? = some x → k[j]? = some y → F x y) → Paired F l k
  | [], [], _, _ => .nil
  | [], _ :: _, h, _ => nomatch h
  | _ :: _, [], h, _ => nomatch h
  | x :: l, y :: k, h, f => .cons (f 0 x y rfl rfl) (paired_of (Nat.succ.inj h) fun j a b ha hb => f (j + 1) a b (by simpa using ha) (by simpa using hb))
section lzr
variable {X : Cx}
def tListZip (K : PySem.W.Frag) (ta : TA) : TE := fun σ H Q => ta σ H fun vs H1 => ∃ a b xs ys, vs = [.ref a, .ref b] ∧ SqL K H1 a xs ∧ SqL K H1 b ys ∧ xs.length = ys.length ∧
  ∀ H' p ts, Same H1 H' → H1 p = none → H' p = some (.lst (ts.map V.ref)) → Paired (fun (t : Addr) (e : V × V) => H' t = some (.tup [e.1, e.2])) ts (xs.zip ys) → Q (.ref p) H'
theorem pe_listZip {e e2 : Expr} {ta : TA} {p p2 pos pos2 : Pos} (hc : X.calm = true) (hg : Gl X "list") (hm : X.mg "list" = none) (hg2 : Gl X "zip") (hm2 : X.mg "zip" = none) (ha : PA X [e, e2] ta)
    (c1 : starEach [.Call (.Name "zip" p2) [e, e2] [] pos2] X.env = (false, eval (.Call (.Name "zip" p2) [e, e2] [] pos2) X.env) :: starEach [] X.env := by rfl)
    (c2 : starEach [e, e2] X.env = (false, eval e X.env) :: starEach [e2] X.env := by rfl) (c3 : (backTo pos2 (starEach [e2] X.env)).any (·.1) = false := by rfl) :
    PE X (.Call (.Name "list" p) [.Call (.Name "zip" p2) [e, e2] [] pos2] [] pos) (tListZip X.K ta) := by
  constructor
  intro pins s σ H Q I h
  refine wpAny_Call_Name_kw (ld_blt I hg hm (by decide +kernel : bootBuiltins "list" = some (.type "list")) ?_)
  refine PyProof.Rows.callWith_type1 ?_ c1 rfl
  rw [c1]
  show wpAny _ _ (spliced ((false, eval (.Call (.Name "zip" p2) [e, e2] [] pos2) X.env) :: backTo pos (starEach [] X.env))) _ _ s
  refine Calls.spliced_cons ?_
  refine Call_ (ld_blt I hg2 hm2 PyProof.Rows.boot_zip (PyProof.Rows.callWith_type1 (thn (ha.run pos2 pins s σ H _ I h) ?_) c2 c3))
  rintro us s1 ⟨vs, H1, I1, r1, a, b, xs, ys, rfl, hx, hy, hxy, q⟩
  match us, r1 with
  | [u1, u2], .cons ra (.cons rb .nil) =>
    cases ra
    cases rb
    obtain ⟨it1, rv1, p1, z1⟩ := I1.list hx
    obtain ⟨it2, rv2, p2', z2⟩ := I1.list hy
    have n1 := rv1.length
    have n2 := rv2.length
    refine call_zip_2 p1.isList p2'.isList fun h' hz hTI hTO g1 g2 hsz hk => ?_
    refine Calls.spliced_nil ?_
    have la : a < s1.heap.objs.size := p1.lt
    have lb : b < s1.heap.objs.size := p2'.lt
    refine z_list (s := { s1 with heap := h' }) (I1.ok.hd hc) (PySem.W.ktu_apart s1.heap.objs.size a b la lb) (by simp; omega) (by simp; omega) ⟨hTI, ⟨_, _, hTO⟩, g1, g2, .inl ⟨rfl, hz⟩⟩ hz (p1.isList.at fun o e => hk _ o e) (p2'.isList.at fun o e => hk _ o e) fun h'' tk acc c as kp hS hal hG hacc => ?_
    have old : ∀ b o, s1.heap.get? b = some o → h''.get? b = some o := fun b o e => by
      have lt := Heap.lt_size e
      exact kp b o (Nat.ne_of_lt (Nat.lt_of_lt_of_le lt (Nat.le_add_right _ _))) (Nat.ne_of_lt (Nat.lt_of_lt_of_le lt (Nat.le_add_right _ _))) (Nat.ne_of_lt lt) (Nat.ne_of_lt (Nat.lt_of_lt_of_le lt (Nat.le_add_right _ _))) (hk b o e)
    have hS5 : s1.heap.objs.size ≤ h'.objs.size := by
      rw [hsz]
      exact Nat.le_add_right _ _
    have J0 : Inv X pins σ H1 { s1 with heap := h'', toks := tk } := I1.kept (t' := tk) old
    have nS : H1 h'.objs.size = none := I1.hok.fresh hS5
    have hl : as.length = xs.length := by
      rw [hal]
      simp
      omega
    have ok1 : ObjOk X.prog X.w (upd H1 h'.objs.size (.lst (as.map V.ref))) h'' h'.objs.size (.lst (as.map V.ref)) := by
      refine ⟨by rw [List.length_map, hl]; exact z1, acc.toList, c, ?_, ?_⟩
      · rw [hacc]
        exact LiI.vals_refs as
      · rw [Array.toArray_toList]
        exact hS
    have J1 : Inv X pins σ (upd H1 h'.objs.size (.lst (as.map V.ref))) { s1 with heap := h'', toks := tk } := J0.take (h' := h'') (t' := tk) (fun b ob _ e => e) (I1.fpOk hS5 nS) ok1
    have nd : as.Nodup := hG.rise.imp fun {a b} (h : a < b) => Nat.ne_of_lt h
    obtain ⟨H2, J2, s2, tp⟩ := L2.DX.takeT (P := fun t vs => ∃ (j : Nat) (e : V × V), as[j]? = some t ∧ (xs.zip ys)[j]? = some e ∧ vs = [e.1, e.2]) I1 as _ J1 nd fun t ht => by
      obtain ⟨j, hj⟩ := List.mem_iff_getElem?.mp ht
      obtain ⟨x, y, e1, e2, e3⟩ := hG.pairs j t hj
      have ab := hG.above t ht
      have hjx : j < xs.length := by
        have := (List.getElem?_eq_some_iff.mp hj).1
        omega
      have ex : it1[j]? = some x := by simpa using e1
      have ey : it2[j]? = some y := by simpa using e2
      obtain ⟨x', hx', rx⟩ := rv1.get (List.getElem?_eq_getElem hjx)
      obtain ⟨y', hy', ry⟩ := rv2.get (List.getElem?_eq_getElem (show j < ys.length by omega))
      rw [hx'] at ex
      rw [hy'] at ey
      obtain rfl := Option.some.inj ex
      obtain rfl := Option.some.inj ey
      refine ⟨Nat.le_trans hS5 (Nat.le_of_lt ab), ?_, [xs[j], ys[j]'(by omega)], ⟨j, (xs[j], ys[j]'(by omega)), hj, ?_, rfl⟩, fun H3 => ⟨by show 2 ≤ sizeLine; decide, [x', y'], .cons rx (.cons ry .nil), ⟨_, e3, rfl, _, rfl⟩⟩⟩
      · rw [upd_ne (Nat.ne_of_gt ab)]
        exact I1.hok.fresh (Nat.le_trans hS5 (Nat.le_of_lt ab))
      · rw [List.getElem?_zip_eq_some]
        exact ⟨List.getElem?_eq_getElem hjx, List.getElem?_eq_getElem (by omega)⟩
    refine ⟨.ref h'.objs.size, H2, J2, rfl, q H2 h'.objs.size as (fun b o e => s2 b o (by rw [upd_ne (ne_of_none e nS)]; exact e)) nS (s2 _ _ upd_same) ?_⟩
    refine paired_of (by rw [List.length_zip]; omega) fun j t e ht he => ?_
    obtain ⟨vs, ⟨j', e', h1, h2, rfl⟩, h3⟩ := tp t (List.mem_of_getElem? ht)
    have : j = j' := by
      have i1 := (List.getElem?_eq_some_iff.mp ht).1
      exact (List.getElem?_inj i1 nd).mp (ht.trans h1.symm)
    subst this
    rw [he] at h2
    obtain rfl := Option.some.inj h2
    exact h3
end lzr
/-! ### first_carry -/
def spFc : Sp := fun vs H Q _ => ∃ (R : Addr) (m o : Int) (ds : List Deed), vs = [.ref R] ∧ RowAt H R m ds o ∧ ds.length ≤ 100 ∧ ∀ H' p, Same H H' → H p = none → H' p = some (.tup ((ds.map fcD).map V.int)) → Q (.ref p) H'
theorem ok_fc {f : Addr} {fd : FuncData} {k : Nat} (F : Fun K "first_carry" "first_carry" s_first_carry f fd) (mt : mg "tuple" = none) : FnOk P w K mg base CX0 (k + 1) f fd ["row"] spFc := by
  refine F.ok sc_first_carry (fun vs H Q E h => ?_) (fun cdv A outer s H vs Q E hr h => ?_)
  · obtain ⟨R, m, o, ds, rfl, _⟩ := h
    rfl
  · obtain ⟨R, m, o, ds, rfl, hrow, hl, q⟩ := h
    obtain ⟨D, rs, eR, eD, hd⟩ := id hrow
    refine ⟨_, pss_one (ps_ret (pe_callTy call_tuple_of (by rfl) mt (by decide +kernel) (pa_cons
      (pe_lc (own := [("deed", 1)]) (g := gName 1) (by rfl) sc_first_carry.nd (pi_tup (pe_ix ix_tup (pv 0) pe_int (fun _ _ => rfl))) (blkOk_by (own := [("deed", 1)]) (N := N_first_carry) (sc := defScope s_first_carry) (by decide +kernel))
        (fun _ _ _ _ _ => pg_name (i := 1) sc_first_carry.nd rfl (Or.inl rfl)) (fun _ _ _ _ _ => pts_nil)
        (fun _ _ _ _ _ => pe_ifExp (pt_cmpR (r := rIn K false) op_in_seq (pe_ix (r := rIxT K) ix_tup (pv 1) pe_int (fun _ _ => rfl)) (pe_tup (pa_cons pe_str (pa_cons pe_str pa_nil))) (by rfl)) pe_int pe_int)) pa_nil))), ?_⟩
    refine ⟨.ref R, rfl, R, _, 1, .ref D, rfl, rfl, SqT.of eR, rfl, D, rfl, ⟨_, SqT.of eD⟩, fun L hL => ?_⟩
    refine lc_tup (K := K) (a := D) (xs := rs.map V.ref) (fun i H4 => H4 L = some (.lst (((ds.take i).map fcD).map V.int)) ∧ Same H H4) ⟨upd_same, same_new hL⟩ (fun i H4 _ hp => SqT.of (hp.2 _ _ eD)) (fun i x H4 hx hp => ?_) (fun H4 hp => ?_)
    · obtain ⟨eL, sm⟩ := hp
      have hi : i < rs.length := by
        have := (List.getElem?_eq_some_iff.mp hx).1
        rwa [List.length_map] at this
      have hx' : x = .ref rs[i] := by
        rw [List.getElem?_map, List.getElem?_eq_getElem hi] at hx
        exact (Option.some.inj hx).symm
      subst hx'
      obtain ⟨d, hd1, hd2⟩ := awGet hd (List.getElem?_eq_getElem hi)
      refine ⟨rfl, .ref rs[i], rfl, rs[i], _, 0, .str d.1, rfl, rfl, SqT.of (sm _ _ hd2), dv0 d, by show 2 ≤ sizeLine; decide, fun T hT => ?_⟩
      have sT := same_new (o := .tup [.str "neg", .str "one"]) hT
      have eL2 := sT _ _ eL
      have old : ∀ o, Same H (upd (upd H4 T (.tup [.str "neg", .str "one"])) L o) := fun o b u e => by
        rw [upd_ne (ne_of_none e hL)]
        exact sT b u (sm b u e)
      have small : (((ds.take i).map fcD).map V.int).length < sizeLine := by
        rw [List.length_map, List.length_map, List.length_take]
        exact small1000 (by omega)
      have hin := inS d.1 ["neg", "one"]
      refine ⟨T, _, rfl, .inr (SqT.of upd_same), rfl, rfl, _, rfl, ite2 (fun e => ?_) (fun e => ?_)⟩
      · have hm : d.1 ∈ (["neg", "one"] : List Str) := of_decide_eq_true (hin.symm.trans e)
        have e1 : fcD d = 1 := if_pos hm
        refine ⟨_, eL2, small, ?_, old _⟩
        rw [upd_same, List.take_add_one, hd1]
        simp [e1]
      · have hm : ¬ d.1 ∈ (["neg", "one"] : List Str) := fun z => e (hin.trans (decide_eq_true z))
        have e1 : fcD d = 0 := if_neg hm
        refine ⟨_, eL2, small, ?_, old _⟩
        rw [upd_same, List.take_add_one, hd1]
        simp [e1]
    · obtain ⟨eL, sm⟩ := hp
      rw [List.length_map, awLen hd, List.take_length] at eL
      refine ⟨L, _, rfl, .inl ⟨.inl (.inl eL), fun p hp => ?_⟩⟩
      exact q _ p (sm.trans (same_new hp)) (sm.free hp) upd_same
/-! ### deed_bit, bits_of -/
def spDb (K : PySem.W.Frag) : Sp := fun vs H Q _ => ∃ (r L : Addr) (d : Deed) (told : List Int) (c : Int), vs = [.ref r, .int c, .ref L] ∧ H r = some (.tup (dV d)) ∧ SqL K H L (told.map V.int) ∧ DeedOk told.length d ∧ Q (.int (dbitAt d c told)) H
theorem ok_db {f : Addr} {fd : FuncData} {k : Nat} (F : Fun K "deed_bit" "deed_bit" s_deed_bit f fd) : FnOk P w K mg base CX0 (k + 1) f fd ["deed", "held", "told"] (spDb K) := by
  refine F.ok sc_deed_bit (fun vs H Q E h => ?_) (fun cdv A outer s H vs Q E hr h => ?_)
  · obtain ⟨r, L, d, told, c, rfl, _⟩ := h
    rfl
  · obtain ⟨r, L, d, told, c, rfl, er, eL, ok, q⟩ := h
    refine ⟨_, pss_cons (ps_set (i := 3) sc_deed_bit.nd rfl (.inl rfl) (pe_ix ix_tup (pv 0) pe_int (fun _ _ => rfl)))
      (pss_cons (ps_if (pt_cmpR op_eq (pv 3) pe_str (nomark _)) (pss_one (ps_ret pe_int)) pss_nil)
      (pss_cons (ps_if (pt_cmpR op_eq (pv 3) pe_str (nomark _)) (pss_one (ps_ret pe_int)) pss_nil)
      (pss_cons (ps_if (PW.pt (pw_or (pt_cmpR op_eq (pv 3) pe_str (nomark _)) (pw_or1 (pt_cmpR op_eq (pv 3) pe_str (nomark _))))) (pss_one (ps_ret (pv 1))) pss_nil)
      (pss_cons (ps_set (i := 4) sc_deed_bit.nd rfl (.inl rfl) (pe_ix ix_list (pv 2) (pe_ix ix_tup (pv 0) pe_int (fun _ _ => rfl)) (fun _ _ => rfl)))
      (pss_cons (ps_if (pt_cmpR op_eq (pv 3) pe_str (nomark _)) (pss_one (ps_ret (pe_op op_sub pe_int (pv 4)))) pss_nil)
      (pss_cons (ps_if (pt_cmpR op_eq (pv 3) pe_str (nomark _)) (pss_one (ps_ret (pe_op op_xor (pe_op op_sub pe_int (pv 4)) (pv 1)))) pss_nil)
      (pss_cons (ps_set (i := 5) sc_deed_bit.nd rfl (.inl rfl) (pe_ix ix_list (pv 2) (pe_ix ix_tup (pv 0) pe_int (fun _ _ => rfl)) (fun _ _ => rfl)))
      (pss_cons (ps_if (pt_cmpR op_eq (pv 3) pe_str (nomark _)) (pss_one (ps_ret (pe_op op_and (pv 4) (pv 5)))) pss_nil)
      (pss_cons (ps_if (pt_cmpR op_eq (pv 3) pe_str (nomark _)) (pss_one (ps_ret (pe_op op_or (pv 4) (pv 5)))) pss_nil)
      (pss_cons (ps_if (pt_cmpR op_eq (pv 3) pe_str (nomark _)) (pss_one (ps_ret (pe_op op_xor (pv 4) (pv 5)))) pss_nil)
      (pss_one (ps_ret (pe_op op_xor (pe_op op_xor (pv 4) (pv 5)) (pv 1)))))))))))))), ?_⟩
    unfold dbitAt dbit at q
    refine ⟨.ref r, rfl, r, _, 0, .str d.1, rfl, rfl, SqT.of er, dv0 d, ?_⟩
    refine ⟨.str d.1, rfl, rfl, _, rfl, ite2 (fun e => ?_) (fun n1 => ?_)⟩
    · rw [if_pos (strEq e)] at q
      exact q
    rw [if_neg (strNe n1)] at q
    refine ⟨.str d.1, rfl, rfl, _, rfl, ite2 (fun e => ?_) (fun n2 => ?_)⟩
    · rw [if_pos (strEq e)] at q
      exact q
    rw [if_neg (strNe n2)] at q
    refine ⟨.str d.1, rfl, rfl, _, rfl, ite2 (fun e => ?_) (fun n3 => ?_)⟩
    · rw [if_pos (strEq e)] at q
      exact ⟨.int c, rfl, q⟩
    rw [if_neg (strNe n3)] at q
    refine ⟨.str d.1, rfl, rfl, _, rfl, ite2 (fun e => ?_) (fun n4 => ?_)⟩
    · rw [if_pos (strEq e)] at q
      exact ⟨.int c, rfl, q⟩
    rw [if_neg (strNe n4)] at q
    obtain ⟨i, hi, ai, ei⟩ := arg1 ok (strNe n1) (strNe n3) (strNe n2)
    refine ⟨.ref L, rfl, .ref r, rfl, r, _, 1, .int i, rfl, rfl, SqT.of er, dvN (k := 0) hi, L, _, i, .int (argAt d told 0), rfl, rfl, eL, ei, ?_⟩
    refine ⟨.str d.1, rfl, rfl, _, rfl, ite2 (fun e => ?_) (fun n5 => ?_)⟩
    · rw [if_pos (strEq e)] at q
      exact ⟨.int _, rfl, 1, _, rfl, rfl, q⟩
    rw [if_neg (strNe n5)] at q
    refine ⟨.str d.1, rfl, rfl, _, rfl, ite2 (fun e => ?_) (fun n6 => ?_)⟩
    · rw [if_pos (strEq e)] at q
      exact ⟨.int _, rfl, 1, _, rfl, rfl, .int c, rfl, _, _, rfl, rfl, q⟩
    rw [if_neg (strNe n6)] at q
    obtain ⟨j, hj, aj, ej⟩ := arg2 ok (strNe n1) (strNe n3) (strNe n2) (strNe n5) (strNe n6) (strNe n4)
    refine ⟨.ref L, rfl, .ref r, rfl, r, _, 2, .int j, rfl, rfl, SqT.of er, dvN (k := 1) hj, L, _, j, .int (argAt d told 1), rfl, rfl, eL, ej, ?_⟩
    refine ⟨.str d.1, rfl, rfl, _, rfl, ite2 (fun e => ?_) (fun n7 => ?_)⟩
    · rw [if_pos (strEq e)] at q
      exact ⟨.int _, rfl, .int _, rfl, _, _, rfl, rfl, q⟩
    rw [if_neg (strNe n7)] at q
    refine ⟨.str d.1, rfl, rfl, _, rfl, ite2 (fun e => ?_) (fun n8 => ?_)⟩
    · rw [if_pos (strEq e)] at q
      exact ⟨.int _, rfl, .int _, rfl, _, _, rfl, rfl, q⟩
    rw [if_neg (strNe n8)] at q
    refine ⟨.str d.1, rfl, rfl, _, rfl, ite2 (fun e => ?_) (fun n9 => ?_)⟩
    · rw [if_pos (strEq e)] at q
      exact ⟨.int _, rfl, .int _, rfl, _, _, rfl, rfl, q⟩
    rw [if_neg (strNe n9)] at q
    exact ⟨.int _, rfl, .int _, rfl, _, _, rfl, rfl, .int c, rfl, _, _, rfl, rfl, q⟩
def spBo : Sp := fun vs H Q _ => ∃ (R C B : Addr) (m o : Int) (ds : List Deed) (cs bs : List Int), vs = [.ref R, .ref C, .ref B] ∧ RowAt H R m ds o ∧ DsOk m ds ∧ ds.length ≤ 100 ∧ H C = some (.tup (cs.map V.int)) ∧ cs.length = ds.length ∧ H B = some (.tup (bs.map V.int)) ∧ (bs.length : Int) = m ∧ bs.length ≤ 100 ∧
  ∀ H' p, Same H H' → H p = none → H' p = some (.tup ((bts ds cs bs).map V.int)) → Q (.ref p) H'
theorem ok_bo {f fB : Addr} {fd fdB : FuncData} {k : Nat} (F : Fun K "bits_of" "bits_of" s_bits_of f fd) (GB : FnOk P w K mg base CX0 (k + 1) fB fdB ["deed", "held", "told"] (spDb K)) (kB : PySem.W.keepIn K (.ref fB) = true) (bB : Binds K fdB ["deed", "held", "told"] []) (gB : mg "deed_bit" = some (.ref fB))
    (ml : mg "list" = none) (mt : mg "tuple" = none) (mz : mg "zip" = none) : FnOk P w K mg base CX0 (k + 2) f fd ["row", "carry", "bits"] spBo := by
  refine F.ok sc_bits_of (fun vs H Q E h => ?_) (fun cdv A outer s H vs Q E hr h => ?_)
  · obtain ⟨R, C, B, m, o, ds, cs, bs, rfl, _⟩ := h
    rfl
  · obtain ⟨R, C, B, m, o, ds, cs, bs, rfl, hrow, hok, hds, eC, hcl, eB, hm, hbl, q⟩ := h
    obtain ⟨D, rs, eR, eD, hd⟩ := id hrow
    refine ⟨_, pss_cons (ps_set (i := 3) sc_bits_of.nd rfl (.inl rfl) (pe_callTy call_list_of (by rfl) ml (by decide +kernel) (pa_cons (pv 2) pa_nil)))
      (pss_cons (ps_for PassesOwn.never rfl (RZ.pi_zipA (by rfl) mz (pa_cons (pe_ix ix_tup (pv 0) pe_int (fun _ _ => rfl)) (pa_cons (pv 1) pa_nil))) (pg_tup rfl (pgs_cons (pg_name (i := 4) sc_bits_of.nd rfl (.inl rfl)) (pgs_cons (pg_name (i := 5) sc_bits_of.nd rfl (.inl rfl)) pgs_nil)))
        (pss_one (ps_expr (pe_bm PySem.F.plainAttrs_list PySem.F.slot_list_append PySem.F.type_list_append mt_append (pv 3) (pa_cons (pe_call GB hr (by rfl) gB kB bB .nil pass0 (pa_cons (pv 4) (pa_cons (pv 5) (pa_cons (pv 3) pa_nil)))) pa_nil)))))
      (pss_one (ps_ret (pe_callTy call_tuple_of (by rfl) mt (by decide +kernel) (pa_cons (pv 3) pa_nil))))), ?_⟩
    refine ⟨.ref B, rfl, B, _, rfl, .inr (SqT.of eB), fun L hL => ?_⟩
    have sL := same_new (o := .lst (bs.map V.int)) hL
    have lrs : (rs.map V.ref).length = ds.length := by rw [List.length_map, awLen hd]
    have lcs : (cs.map V.int).length = ds.length := by rw [List.length_map, hcl]
    refine ⟨.ref R, rfl, R, _, 1, .ref D, rfl, rfl, SqT.of (sL _ _ eR), rfl, .ref C, rfl, D, C, _, _, rfl, .inr ⟨SqT.of (sL _ _ eD), SqT.of (sL _ _ eC), RZ.for_zipT (K := K) (xs := rs.map V.ref) (ys := cs.map V.int) (lrs.trans lcs.symm) (fun i σ H3 => ∃ y4 y5, σ = [some (.ref R), some (.ref C), some (.ref B), some (.ref L), y4, y5] ∧ H3 L = some (.lst ((bts (ds.take i) (cs.take i) bs).map V.int)) ∧ Same H H3) ⟨none, none, rfl, by rw [upd_same]; cases ds <;> rfl, sL⟩ (fun i σ H3 hp => ?_) (fun i x y T σ H3 hx hy hp hT => ?_) (fun σ H3 hp => ?_)⟩⟩
    · obtain ⟨_, _, _, _, sm⟩ := hp
      exact ⟨SqT.of (sm _ _ eD), SqT.of (sm _ _ eC)⟩
    · obtain ⟨y4, y5, rfl, e3, sm⟩ := hp
      have hi : i < rs.length := by
        have := (List.getElem?_eq_some_iff.mp hx).1
        rwa [List.length_map] at this
      have hx' : x = .ref rs[i] := by
        rw [List.getElem?_map, List.getElem?_eq_getElem hi] at hx
        exact (Option.some.inj hx).symm
      subst hx'
      obtain ⟨d, hd1, hd2⟩ := awGet hd (List.getElem?_eq_getElem hi)
      obtain ⟨c, hc, rfl⟩ : ∃ c, cs[i]? = some c ∧ y = .int c := by
        rw [List.getElem?_map] at hy
        cases e : cs[i]? with
        | none => rw [e] at hy; cases hy
        | some c => rw [e] at hy; exact ⟨c, rfl, (Option.some.inj hy).symm⟩
      have h2 : i < ds.length := by
        rw [← awLen hd]
        exact hi
      have hlen : (bts (ds.take i) (cs.take i) bs).length = bs.length + i := by
        rw [bts_len (by rw [List.length_take, List.length_take, hcl]), List.length_take, Nat.min_eq_left (Nat.le_of_lt h2)]
      have okd : DeedOk (bts (ds.take i) (cs.take i) bs).length d := by
        rw [hlen]
        have := hok.each i d hd1
        rw [← hm] at this
        exact this
      have sT := same_new (o := .tup [.ref rs[i], .int c]) hT
      have e4 := sT _ _ e3
      refine ⟨T, [.ref rs[i], .int c], rfl, .inl (.inl upd_same), rfl, .ref rs[i], [.int c], rfl, .int c, [], rfl, rfl, ?_⟩
      refine ⟨.ref L, rfl, .inl ⟨rfl, _, .inl (.inl e4)⟩, .ref rs[i], rfl, .int c, rfl, .ref L, rfl, rs[i], L, d, _, c, rfl, sT _ _ (sm _ _ hd2), .inl (.inl e4), okd, L, _, _, rfl, rfl, e4, ?_, some (.ref rs[i]), some (.int c), rfl, ?_, ?_⟩
      · rw [List.length_map, hlen]
        exact small1000 (by omega)
      · rw [upd_same, bts_next hd1 hc, List.map_append]
        rfl
      · intro b u e
        rw [upd_ne (ne_of_none e hL)]
        exact sT b u (sm b u e)
    · obtain ⟨y4, y5, rfl, e3, sm⟩ := hp
      rw [lrs, List.take_length, ← hcl, List.take_length] at e3
      refine ⟨.ref L, rfl, L, _, rfl, .inl ⟨.inl (.inl e3), fun p hp => ?_⟩⟩
      exact q _ p (sm.trans (same_new hp)) (sm.free hp) upd_same
/-! ### two_or_more, deed_carry -/
def spTm : Sp := fun vs H Q _ => ∃ a b c : Int, vs = [.int a, .int b, .int c] ∧ Q (.int ((a + b + c) / 2)) H
theorem ok_tm {f : Addr} {fd : FuncData} {k : Nat} (F : Fun K "two_or_more" "two_or_more" s_two_or_more f fd) : FnOk P w K mg base CX0 (k + 1) f fd ["one", "other", "third"] spTm := by
  refine F.ok sc_two_or_more (fun vs H Q E h => ?_) (fun cdv A outer s H vs Q E hr h => ?_)
  · obtain ⟨a, b, c, rfl, _⟩ := h
    rfl
  · obtain ⟨a, b, c, rfl, q⟩ := h
    refine ⟨_, pss_one (ps_ret (pe_op op_fdiv (pe_op op_add (pe_op op_add (pv 0) (pv 1)) (pv 2)) pe_int)), ?_⟩
    exact ⟨.int a, rfl, .int b, rfl, a, b, rfl, rfl, .int c, rfl, _, c, rfl, rfl, _, 2, rfl, rfl, ⟨by decide, by decide⟩, q⟩
def spDc : Sp := fun vs H Q _ => ∃ (r L : Addr) (d : Deed) (told : List Int) (c : Int), vs = [.ref r, .int c, .ref L] ∧ H r = some (.tup (dV d)) ∧ H L = some (.tup (told.map V.int)) ∧ DeedOk told.length d ∧ Q (.int (dcarAt d c told)) H
theorem ok_dc {f fT : Addr} {fd fdT : FuncData} {k : Nat} (F : Fun K "deed_carry" "deed_carry" s_deed_carry f fd) (GT : FnOk P w K mg base CX0 (k + 1) fT fdT ["one", "other", "third"] spTm) (kT : PySem.W.keepIn K (.ref fT) = true) (bT : Binds K fdT ["one", "other", "third"] []) (gT : mg "two_or_more" = some (.ref fT)) :
    FnOk P w K mg base CX0 (k + 2) f fd ["deed", "held", "told"] spDc := by
  refine F.ok sc_deed_carry (fun vs H Q E h => ?_) (fun cdv A outer s H vs Q E hr h => ?_)
  · obtain ⟨r, L, d, told, c, rfl, _⟩ := h
    rfl
  · obtain ⟨r, L, d, told, c, rfl, er, eL, ok, q⟩ := h
    refine ⟨_, pss_cons (ps_set (i := 3) sc_deed_carry.nd rfl (.inl rfl) (pe_ix ix_tup (pv 0) pe_int (fun _ _ => rfl)))
      (pss_cons (ps_if (pt_cmpR op_eq (pv 3) pe_str (nomark _)) (pss_one (ps_ret (pe_op op_and (pe_op op_sub pe_int (pe_ix ix_tup (pv 2) (pe_ix ix_tup (pv 0) pe_int (fun _ _ => rfl)) (fun _ _ => rfl))) (pv 1)))) pss_nil)
      (pss_cons (ps_if (pt_cmpR op_eq (pv 3) pe_str (nomark _)) (pss_one (ps_ret (pe_ix ix_tup (pv 2) (pe_ix ix_tup (pv 0) pe_int (fun _ _ => rfl)) (fun _ _ => rfl)))) pss_nil)
      (pss_cons (ps_if (pt_cmpR op_eq (pv 3) pe_str (nomark _)) (pss_one (ps_ret (pe_call GT hr (by rfl) gT kT bT .nil pass0 (pa_cons (pe_ix ix_tup (pv 2) (pe_ix ix_tup (pv 0) pe_int (fun _ _ => rfl)) (fun _ _ => rfl)) (pa_cons (pe_ix ix_tup (pv 2) (pe_ix ix_tup (pv 0) pe_int (fun _ _ => rfl)) (fun _ _ => rfl)) (pa_cons (pv 1) pa_nil)))))) pss_nil)
      (pss_cons (ps_if (pt_cmpR op_eq (pv 3) pe_str (nomark _)) (pss_one (ps_ret (pe_call GT hr (by rfl) gT kT bT .nil pass0 (pa_cons (pe_op op_sub pe_int (pe_ix ix_tup (pv 2) (pe_ix ix_tup (pv 0) pe_int (fun _ _ => rfl)) (fun _ _ => rfl))) (pa_cons (pe_ix ix_tup (pv 2) (pe_ix ix_tup (pv 0) pe_int (fun _ _ => rfl)) (fun _ _ => rfl)) (pa_cons (pv 1) pa_nil)))))) pss_nil)
      (pss_one (ps_ret pe_int)))))), ?_⟩
    unfold dcarAt dcar at q
    have lL : SqT K H L (told.map V.int) := SqT.of eL
    refine ⟨.ref r, rfl, r, _, 0, .str d.1, rfl, rfl, SqT.of er, dv0 d, ?_⟩
    refine ⟨.str d.1, rfl, rfl, _, rfl, ite2 (fun e => ?_) (fun n1 => ?_)⟩
    · rw [if_pos (strEq e)] at q
      have e2 := strEq e
      obtain ⟨i, hi, ai, ei⟩ := arg1 ok (by rw [e2]; decide +kernel) (by rw [e2]; decide +kernel) (by rw [e2]; decide +kernel)
      exact ⟨.ref L, rfl, .ref r, rfl, r, _, 1, .int i, rfl, rfl, SqT.of er, dvN (k := 0) hi, L, _, i, _, rfl, rfl, lL, ei, 1, _, rfl, rfl, .int c, rfl, _, _, rfl, rfl, q⟩
    rw [if_neg (strNe n1)] at q
    refine ⟨.str d.1, rfl, rfl, _, rfl, ite2 (fun e => ?_) (fun n2 => ?_)⟩
    · rw [if_pos (strEq e)] at q
      have e2 := strEq e
      obtain ⟨i, hi, ai, ei⟩ := arg1 ok (by rw [e2]; decide +kernel) (by rw [e2]; decide +kernel) (by rw [e2]; decide +kernel)
      exact ⟨.ref L, rfl, .ref r, rfl, r, _, 1, .int i, rfl, rfl, SqT.of er, dvN (k := 0) hi, L, _, i, _, rfl, rfl, lL, ei, q⟩
    rw [if_neg (strNe n2)] at q
    refine ⟨.str d.1, rfl, rfl, _, rfl, ite2 (fun e => ?_) (fun n3 => ?_)⟩
    · rw [if_pos (strEq e)] at q
      have e2 := strEq e
      obtain ⟨i, hi, ai, ei⟩ := arg1 ok (by rw [e2]; decide +kernel) (by rw [e2]; decide +kernel) (by rw [e2]; decide +kernel)
      obtain ⟨j, hj, aj, ej⟩ := arg2 ok (by rw [e2]; decide +kernel) (by rw [e2]; decide +kernel) (by rw [e2]; decide +kernel) (by rw [e2]; decide +kernel) (by rw [e2]; decide +kernel) (by rw [e2]; decide +kernel)
      exact ⟨.ref L, rfl, .ref r, rfl, r, _, 1, .int i, rfl, rfl, SqT.of er, dvN (k := 0) hi, L, _, i, _, rfl, rfl, lL, ei, .ref L, rfl, .ref r, rfl, r, _, 2, .int j, rfl, rfl, SqT.of er, dvN (k := 1) hj, L, _, j, _, rfl, rfl, lL, ej, .int c, rfl, _, _, c, rfl, q⟩
    rw [if_neg (strNe n3)] at q
    refine ⟨.str d.1, rfl, rfl, _, rfl, ite2 (fun e => ?_) (fun n4 => ?_)⟩
    · rw [if_pos (strEq e)] at q
      have e2 := strEq e
      obtain ⟨i, hi, ai, ei⟩ := arg1 ok (by rw [e2]; decide +kernel) (by rw [e2]; decide +kernel) (by rw [e2]; decide +kernel)
      obtain ⟨j, hj, aj, ej⟩ := arg2 ok (by rw [e2]; decide +kernel) (by rw [e2]; decide +kernel) (by rw [e2]; decide +kernel) (by rw [e2]; decide +kernel) (by rw [e2]; decide +kernel) (by rw [e2]; decide +kernel)
      exact ⟨.ref L, rfl, .ref r, rfl, r, _, 1, .int i, rfl, rfl, SqT.of er, dvN (k := 0) hi, L, _, i, _, rfl, rfl, lL, ei, 1, _, rfl, rfl, .ref L, rfl, .ref r, rfl, r, _, 2, .int j, rfl, rfl, SqT.of er, dvN (k := 1) hj, L, _, j, _, rfl, rfl, lL, ej, .int c, rfl, _, _, c, rfl, q⟩
    rw [if_neg (strNe n4)] at q
    exact q
theorem okd_more {m : Int} {i n : Nat} {d : Deed} (h : DeedOk (m + i) d) (hn : m + i ≤ n) : DeedOk n d := ⟨h.word, fun z hz => ⟨(h.ahead z hz).1, by have := (h.ahead z hz).2; omega⟩⟩
/-! ### bits tell values -/
def bitA (t : Nat) (x : Int) : Int := x / 2 ^ t % 2
theorem bitA_bit (t : Nat) (x : Int) : Bit (bitA t x) := by
  have h0 := Int.emod_nonneg (x / 2 ^ t) (show (2 : Int) ≠ 0 by decide)
  have h1 := Int.emod_lt_of_pos (x / 2 ^ t) (show (0 : Int) < 2 by decide)
  unfold bitA Bit
  omega
/-- the bit at p -/
theorem bit_at {V p u k r : Int} (hp : 0 < p) (h : V = p * (2 * u + k) + r) (r0 : 0 ≤ r) (r1 : r < p) : V / p % 2 = k % 2 := by
  have e : V / p = 2 * u + k := by
    rw [h, Int.add_comm, Int.add_mul_ediv_left _ _ (by omega), Int.ediv_eq_zero_of_lt r0 r1, Int.zero_add]
  rw [e]
  omega
theorem bit_val {k : Int} (h : Bit k) : k % 2 = k := by rcases h with rfl | rfl <;> decide
theorem low_next (A : Int) {p : Int} (hp : 0 < p) : A % (2 * p) = p * (A / p % 2) + A % p := by
  have e := Int.mul_ediv_add_emod A p
  have e2 := Int.mul_ediv_add_emod (A / p) 2
  have r0 := Int.emod_nonneg A (show p ≠ 0 by omega)
  have r1 := Int.emod_lt_of_pos A hp
  have hb := bitA_bit 0 (A / p)
  have b : A / p % 2 = 0 ∨ A / p % 2 = 1 := by omega
  have e3 : A = 2 * p * (A / p / 2) + (p * (A / p % 2) + A % p) := by
    have z : p * (A / p) = p * (2 * (A / p / 2) + A / p % 2) := by rw [e2]
    rw [Int.mul_add, ← Int.mul_assoc, Int.mul_comm p 2] at z
    omega
  have s0 : 0 ≤ p * (A / p % 2) + A % p := by rcases b with b | b <;> rw [b] <;> omega
  have s1 : p * (A / p % 2) + A % p < 2 * p := by rcases b with b | b <;> rw [b] <;> omega
  generalize p * (A / p % 2) + A % p = s at e3 s0 s1
  rw [e3, Int.mul_add_emod_self_left, Int.emod_eq_of_lt s0 s1]
/-- what is carried into the bit at p -/
def CI (x : Str) (A B p c : Int) : Prop :=
  if x = "add" then ∃ r, A % p + B % p = p * c + r ∧ 0 ≤ r ∧ r < p
  else if x = "sub" then ∃ r, A % p - B % p = r - p * c ∧ 0 ≤ r ∧ r < p
  else if x = "neg" then ∃ r, -(A % p) = r - p * (1 - c) ∧ 0 ≤ r ∧ r < p
  else if x = "twice" then ∃ r, A % p + A % p = p * c + r ∧ 0 ≤ r ∧ r < p
  else if x = "one" then c = if p = 1 then 1 else 0
  else c = 0
theorem ci_first (d : Deed) (A B : Int) : CI d.1 A B 1 (fcD d) := by
  unfold CI fcD
  rw [Int.emod_one, Int.emod_one]
  by_cases h1 : d.1 = "add"
  · rw [if_pos h1, h1]
    exact ⟨0, by decide, by decide, by decide⟩
  rw [if_neg h1]
  by_cases h2 : d.1 = "sub"
  · rw [if_pos h2, h2]
    exact ⟨0, by decide, by decide, by decide⟩
  rw [if_neg h2]
  by_cases h3 : d.1 = "neg"
  · rw [if_pos h3, h3]
    exact ⟨0, by decide, by decide, by decide⟩
  rw [if_neg h3]
  by_cases h4 : d.1 = "twice"
  · rw [if_pos h4, h4]
    exact ⟨0, by decide, by decide, by decide⟩
  rw [if_neg h4]
  by_cases h5 : d.1 = "one"
  · rw [if_pos h5, h5]
    decide
  rw [if_neg h5, if_neg (by simp [h3, h5])]
theorem ci_next {x : Str} {A B p c : Int} (hp : 0 < p) (hc : Bit c) (h : CI x A B p c) : CI x A B (2 * p) (dcar x (A / p % 2) (B / p % 2) c) := by
  have ba : Bit (A / p % 2) := by unfold Bit; omega
  have bb : Bit (B / p % 2) := by unfold Bit; omega
  have la := low_next A hp
  have lb := low_next B hp
  have a0 := Int.emod_nonneg A (show p ≠ 0 by omega)
  have a1 := Int.emod_lt_of_pos A hp
  generalize A / p % 2 = α at la ba
  generalize B / p % 2 = β at lb bb
  unfold CI at h ⊢
  rw [la, lb]
  generalize A % p = a at h a0 a1
  generalize B % p = b at h
  by_cases h1 : x = "add"
  · subst h1
    rw [if_pos rfl] at h ⊢
    obtain ⟨r, e, r0, r1⟩ := h
    rcases ba with rfl | rfl <;> rcases bb with rfl | rfl <;> rcases hc with rfl | rfl
    · exact ⟨r, by show _ = 2 * p * 0 + r; omega, r0, by omega⟩
    · exact ⟨p + r, by show _ = 2 * p * 0 + (p + r); omega, by omega, by omega⟩
    · exact ⟨p + r, by show _ = 2 * p * 0 + (p + r); omega, by omega, by omega⟩
    · exact ⟨r, by show _ = 2 * p * 1 + r; omega, r0, by omega⟩
    · exact ⟨p + r, by show _ = 2 * p * 0 + (p + r); omega, by omega, by omega⟩
    · exact ⟨r, by show _ = 2 * p * 1 + r; omega, r0, by omega⟩
    · exact ⟨r, by show _ = 2 * p * 1 + r; omega, r0, by omega⟩
    · exact ⟨p + r, by show _ = 2 * p * 1 + (p + r); omega, by omega, by omega⟩
  rw [if_neg h1] at h ⊢
  by_cases h2 : x = "sub"
  · subst h2
    rw [if_pos rfl] at h ⊢
    obtain ⟨r, e, r0, r1⟩ := h
    rcases ba with rfl | rfl <;> rcases bb with rfl | rfl <;> rcases hc with rfl | rfl
    · exact ⟨r, by show _ = r - 2 * p * 0; omega, r0, by omega⟩
    · exact ⟨p + r, by show _ = (p + r) - 2 * p * 1; omega, by omega, by omega⟩
    · exact ⟨p + r, by show _ = (p + r) - 2 * p * 1; omega, by omega, by omega⟩
    · exact ⟨r, by show _ = r - 2 * p * 1; omega, r0, by omega⟩
    · exact ⟨p + r, by show _ = (p + r) - 2 * p * 0; omega, by omega, by omega⟩
    · exact ⟨r, by show _ = r - 2 * p * 0; omega, r0, by omega⟩
    · exact ⟨r, by show _ = r - 2 * p * 0; omega, r0, by omega⟩
    · exact ⟨p + r, by show _ = (p + r) - 2 * p * 1; omega, by omega, by omega⟩
  rw [if_neg h2] at h ⊢
  by_cases h3 : x = "neg"
  · subst h3
    rw [if_pos rfl] at h ⊢
    obtain ⟨r, e, r0, r1⟩ := h
    rcases ba with rfl | rfl <;> rcases hc with rfl | rfl
    · exact ⟨p + r, by show _ = (p + r) - 2 * p * (1 - 0); omega, by omega, by omega⟩
    · exact ⟨r, by show _ = r - 2 * p * (1 - 1); omega, r0, by omega⟩
    · exact ⟨r, by show _ = r - 2 * p * (1 - 0); omega, r0, by omega⟩
    · exact ⟨p + r, by show _ = (p + r) - 2 * p * (1 - 0); omega, by omega, by omega⟩
  rw [if_neg h3] at h ⊢
  by_cases h4 : x = "twice"
  · subst h4
    rw [if_pos rfl] at h ⊢
    obtain ⟨r, e, r0, r1⟩ := h
    rcases ba with rfl | rfl
    · exact ⟨a + a, by show _ = 2 * p * 0 + (a + a); omega, by omega, by omega⟩
    · exact ⟨a + a, by show _ = 2 * p * 1 + (a + a); omega, by omega, by omega⟩
  rw [if_neg h4] at h ⊢
  have hz : dcar x α β c = 0 := by
    unfold dcar
    rw [if_neg h3, if_neg h4, if_neg h1, if_neg h2]
  by_cases h5 : x = "one"
  · rw [if_pos h5, hz, if_neg (by omega)]
  · rw [if_neg h5, hz]
theorem nat_bits {a b t : Nat} : ((a &&& b) / 2 ^ t % 2 = (a / 2 ^ t % 2) &&& (b / 2 ^ t % 2)) ∧ ((a ||| b) / 2 ^ t % 2 = (a / 2 ^ t % 2) ||| (b / 2 ^ t % 2)) ∧ ((a ^^^ b) / 2 ^ t % 2 = (a / 2 ^ t % 2) ^^^ (b / 2 ^ t % 2)) := by
  refine ⟨?_, ?_, ?_⟩
  · rw [← Nat.shiftRight_eq_div_pow, ← Nat.shiftRight_eq_div_pow, ← Nat.shiftRight_eq_div_pow, Nat.shiftRight_and_distrib]
    exact Nat.and_mod_two_pow (n := 1)
  · rw [← Nat.shiftRight_eq_div_pow, ← Nat.shiftRight_eq_div_pow, ← Nat.shiftRight_eq_div_pow, Nat.shiftRight_or_distrib]
    exact Nat.or_mod_two_pow (n := 1)
  · rw [← Nat.shiftRight_eq_div_pow, ← Nat.shiftRight_eq_div_pow, ← Nat.shiftRight_eq_div_pow, Nat.shiftRight_xor_distrib]
    exact Nat.xor_mod_two_pow (n := 1)
theorem cast_bit (a t : Nat) : bitA t (a : Int) = ((a / 2 ^ t % 2 : Nat) : Int) := by
  unfold bitA
  rw [pw_cast]
  omega
theorem bit_land {A B : Int} (t : Nat) (ha : 0 ≤ A) (hb : 0 ≤ B) : bitA t (Builtin.bitAnd A B) = Builtin.bitAnd (bitA t A) (bitA t B) := by
  obtain ⟨a, rfl⟩ := Int.eq_ofNat_of_zero_le ha
  obtain ⟨b, rfl⟩ := Int.eq_ofNat_of_zero_le hb
  rw [cast_bit, cast_bit, bitAnd_pp (Int.natCast_nonneg _) (Int.natCast_nonneg _), bitAnd_pp (Int.natCast_nonneg _) (Int.natCast_nonneg _)]
  simp only [Int.toNat_natCast]
  rw [cast_bit, nat_bits.1]
theorem bit_lor {A B : Int} (t : Nat) (ha : 0 ≤ A) (hb : 0 ≤ B) : bitA t (Builtin.bitOr A B) = Builtin.bitOr (bitA t A) (bitA t B) := by
  obtain ⟨a, rfl⟩ := Int.eq_ofNat_of_zero_le ha
  obtain ⟨b, rfl⟩ := Int.eq_ofNat_of_zero_le hb
  rw [cast_bit, cast_bit, bitOr_nn (Int.natCast_nonneg _) (Int.natCast_nonneg _), bitOr_nn (Int.natCast_nonneg _) (Int.natCast_nonneg _)]
  simp only [Int.toNat_natCast]
  rw [cast_bit, nat_bits.2.1]
theorem bit_lxor {A B : Int} (t : Nat) (ha : 0 ≤ A) (hb : 0 ≤ B) : bitA t (Builtin.bitXor A B) = Builtin.bitXor (bitA t A) (bitA t B) := by
  obtain ⟨a, rfl⟩ := Int.eq_ofNat_of_zero_le ha
  obtain ⟨b, rfl⟩ := Int.eq_ofNat_of_zero_le hb
  rw [cast_bit, cast_bit, Bits.bitXor_pp (Int.natCast_nonneg _) (Int.natCast_nonneg _), Bits.bitXor_pp (Int.natCast_nonneg _) (Int.natCast_nonneg _)]
  simp only [Int.toNat_natCast]
  rw [cast_bit, nat_bits.2.2]
theorem dbit_tells {x : Str} {A B c : Int} {t n : Nat} (hx : x ∈ fwL.map (·.1)) (ht : t < n) (ha : 0 ≤ A) (hb : 0 ≤ B) (hc : Bit c) (h : CI x A B (2 ^ t) c) : dbit x (bitA t A) (bitA t B) c = bitA t (dvalue x A B (2 ^ n)) := by
  have hp := pw_pos t
  have eA := Int.mul_ediv_add_emod A (2 ^ t)
  have eB := Int.mul_ediv_add_emod B (2 ^ t)
  have qa := Int.mul_ediv_add_emod (A / 2 ^ t) 2
  have qb := Int.mul_ediv_add_emod (B / 2 ^ t) 2
  have a0 := Int.emod_nonneg A (show (2 : Int) ^ t ≠ 0 by omega)
  have a1 := Int.emod_lt_of_pos A hp
  have b0 := Int.emod_nonneg B (show (2 : Int) ^ t ≠ 0 by omega)
  have b1 := Int.emod_lt_of_pos B hp
  have ba := bitA_bit t A
  have bb := bitA_bit t B
  obtain ⟨N', hN⟩ : ∃ N' : Int, (2 : Int) ^ n = 2 ^ t * (2 * N') := by
    refine ⟨2 ^ (n - t - 1), ?_⟩
    rw [show n = t + 1 + (n - t - 1) by omega, Int.pow_add, Int.pow_succ, Int.mul_assoc]
    congr 3
    omega
  have land := bit_land t ha hb
  have lor := bit_lor t ha hb
  have lxor := bit_lxor t ha hb
  have tt : bitA t (A + A) = (A + A) / 2 ^ t % 2 := rfl
  rw [hN]
  unfold CI at h
  have p1 : (2 : Int) ^ t = 1 ∨ 2 ≤ (2 : Int) ^ t := by omega
  unfold bitA at ba bb ⊢
  unfold bitA at land lor lxor
  clear tt hN
  generalize (2 : Int) ^ t = p at *
  generalize hα : A / p % 2 = α at *
  generalize hβ : B / p % 2 = β at *
  generalize A % p = a at *
  generalize B % p = b at *
  generalize A / p / 2 = A' at *
  generalize B / p / 2 = B' at *
  have dA : A = p * (2 * A' + α) + a := by rw [qa]; omega
  have dB : B = p * (2 * B' + β) + b := by rw [qb]; omega
  have mA := Int.mul_add p (2 * A') α
  have mB := Int.mul_add p (2 * B') β
  simp only [fwL, List.map_cons, List.map_nil, List.mem_cons, List.not_mem_nil, or_false] at hx
  rcases hx with rfl | rfl | rfl | rfl | rfl | rfl | rfl | rfl | rfl | rfl | rfl
  · show (0 : Int) = 0 / p % 2
    rw [Int.zero_ediv]
    rfl
  · show c = 1 / p % 2
    have hc1 : c = if p = 1 then 1 else 0 := h
    rcases p1 with p1 | p1
    · rw [hc1, if_pos p1, p1]
      decide
    · rw [hc1, if_neg (by omega), Int.ediv_eq_zero_of_lt (by omega) (by omega)]
      rfl
  · show (1 : Int) = (p * (2 * N') - 1) / p % 2
    rw [bit_at (u := N' - 1) (k := 1) (r := p - 1) hp (by rw [Int.mul_add, Int.mul_sub, Int.mul_sub]; omega) (by omega) (by omega)]
    decide
  · show 1 - α = (p * (2 * N') - 1 - A) / p % 2
    have e : p * (2 * (N' - 1 - A') + (1 - α)) = p * (2 * N') - p * (2 * A') - p * α - p := by
      rw [Int.mul_add, Int.mul_sub 2, Int.mul_sub 2, Int.mul_sub p, Int.mul_sub p, Int.mul_sub p]
      omega
    rw [bit_at (u := N' - 1 - A') (k := 1 - α) (r := p - 1 - a) hp (by rw [e]; omega) (by omega) (by omega)]
    rcases ba with rfl | rfl <;> decide
  · show Builtin.bitXor (1 - α) c = (-A) / p % 2
    obtain ⟨r, er, r0, r1⟩ : ∃ r, -a = r - p * (1 - c) ∧ 0 ≤ r ∧ r < p := h
    have e : p * (2 * (-A') + (-α - 1 + c)) = -(p * (2 * A')) - p * α - p * (1 - c) := by
      rw [Int.mul_add, Int.mul_neg, Int.mul_neg, Int.mul_sub, Int.mul_add, Int.mul_sub, Int.mul_neg]
      omega
    rw [bit_at (u := -A') (k := -α - 1 + c) (r := r) hp (by rw [e]; omega) r0 r1]
    rcases ba with rfl | rfl <;> rcases hc with rfl | rfl <;> decide
  · show c = (A + A) / p % 2
    obtain ⟨r, er, r0, r1⟩ : ∃ r, a + a = p * c + r ∧ 0 ≤ r ∧ r < p := h
    have e : p * (2 * (2 * A' + α) + c) = 2 * (p * (2 * A')) + 2 * (p * α) + p * c := by
      rw [Int.mul_add, Int.mul_left_comm, Int.mul_add p]
      omega
    rw [bit_at (u := 2 * A' + α) (k := c) (r := r) hp (by rw [e]; omega) r0 r1, bit_val hc]
  · show Builtin.bitAnd α β = Builtin.bitAnd A B / p % 2
    rw [land]
  · show Builtin.bitOr α β = Builtin.bitOr A B / p % 2
    rw [lor]
  · show Builtin.bitXor α β = Builtin.bitXor A B / p % 2
    rw [lxor]
  · show Builtin.bitXor (Builtin.bitXor α β) c = (A + B) / p % 2
    obtain ⟨r, er, r0, r1⟩ : ∃ r, a + b = p * c + r ∧ 0 ≤ r ∧ r < p := h
    have e : p * (2 * (A' + B') + (α + β + c)) = p * (2 * A') + p * (2 * B') + p * α + p * β + p * c := by
      rw [Int.mul_add 2, Int.mul_add, Int.mul_add p, Int.mul_add p, Int.mul_add p]
      omega
    rw [bit_at (u := A' + B') (k := α + β + c) (r := r) hp (by rw [e]; omega) r0 r1]
    rcases ba with rfl | rfl <;> rcases bb with rfl | rfl <;> rcases hc with rfl | rfl <;> decide
  · show Builtin.bitXor (Builtin.bitXor α β) c = (A - B) / p % 2
    obtain ⟨r, er, r0, r1⟩ : ∃ r, a - b = r - p * c ∧ 0 ≤ r ∧ r < p := h
    have e : p * (2 * (A' - B') + (α - β - c)) = p * (2 * A') - p * (2 * B') + p * α - p * β - p * c := by
      rw [Int.mul_sub 2, Int.mul_add, Int.mul_sub p, Int.mul_sub p, Int.mul_sub p]
      omega
    rw [bit_at (u := A' - B') (k := α - β - c) (r := r) hp (by rw [e]; omega) r0 r1]
    rcases ba with rfl | rfl <;> rcases bb with rfl | rfl <;> rcases hc with rfl | rfl <;> decide
/-! ### how many deeds carry -/
def carN : List Deed → Nat
  | [] => 0
  | d :: ds => carN ds + if d.1 ∈ twC then 1 else 0
/-! ### rows' bits and carries -/
theorem bit_mod {V : Int} {t n : Nat} (h : t < n) : bitA t (V % 2 ^ n) = bitA t V := by
  obtain ⟨N', hN⟩ : ∃ N' : Int, (2 : Int) ^ n = 2 ^ t * (2 * N') := by
    refine ⟨2 ^ (n - t - 1), ?_⟩
    rw [show n = t + 1 + (n - t - 1) by omega, Int.pow_add, Int.pow_succ, Int.mul_assoc]
    congr 3
    omega
  have hp := pw_pos t
  have e := Int.mul_ediv_add_emod V (2 ^ n)
  have e1 := Int.mul_ediv_add_emod (V % 2 ^ n) (2 ^ t)
  have r0 := Int.emod_nonneg (V % 2 ^ n) (show (2 : Int) ^ t ≠ 0 by omega)
  have r1 := Int.emod_lt_of_pos (V % 2 ^ n) hp
  unfold bitA
  have z : V / 2 ^ t % 2 = (V % 2 ^ n / 2 ^ t) % 2 := by
    refine bit_at (u := N' * (V / 2 ^ n)) (k := V % 2 ^ n / 2 ^ t) (r := V % 2 ^ n % 2 ^ t) hp ?_ r0 r1
    have e2 : (2 : Int) ^ t * (2 * (N' * (V / 2 ^ n))) = 2 ^ n * (V / 2 ^ n) := by rw [hN, Int.mul_assoc, Int.mul_assoc]
    rw [Int.mul_add, e2]
    omega
  exact z.symm
theorem vals_pre {N : Int} : ∀ (ds : List Deed) (t : List Int), (vals N ds t).take t.length = t
  | [], t => List.take_length
  | d :: ds, t => by
    have h := vals_pre ds (t ++ [dval N d t]) (N := N)
    show (vals N ds (t ++ [dval N d t])).take t.length = t
    have h2 : ((vals N ds (t ++ [dval N d t])).take (t ++ [dval N d t]).length).take t.length = t := by
      rw [h]
      exact List.take_left
    rw [List.take_take, List.length_append, Nat.min_eq_left (by omega)] at h2
    exact h2
theorem vals_at {N : Int} {ds : List Deed} {xs : List Int} (i : Nat) (hi : i ≤ ds.length) : vals N (ds.take i) xs = (vals N ds xs).take (xs.length + i) := by
  have e : vals N ds xs = vals N (ds.drop i) (vals N (ds.take i) xs) := by rw [← vals_append, List.take_append_drop]
  have l : (vals N (ds.take i) xs).length = xs.length + i := by rw [vals_len, List.length_take, Nat.min_eq_left hi]
  rw [e, ← l, vals_pre]
theorem ix_lt {d : Deed} {n : Nat} (h : DeedOk n d) (hn : 1 ≤ n) (k : Nat) : (d.2.getD k 0).toNat < n := by
  rw [List.getD_eq_getElem?_getD]
  cases e : d.2[k]? with
  | none => exact hn
  | some i =>
    obtain ⟨h0, h1⟩ := h.ahead i (List.mem_of_getElem? e)
    show i.toNat < n
    omega
theorem arg_map {d : Deed} {told : List Int} (f : Int → Int) (h : DeedOk told.length d) (hn : 1 ≤ told.length) (k : Nat) : argAt d (told.map f) k = f (argAt d told k) := by
  have hi := ix_lt h hn k
  unfold argAt
  generalize (d.2.getD k 0).toNat = j at hi
  rw [List.getD_eq_getElem?_getD, List.getD_eq_getElem?_getD, List.getElem?_map, List.getElem?_eq_getElem hi]
  rfl
theorem arg_take {d : Deed} {v : List Int} {n : Nat} (h : DeedOk n d) (hn : 1 ≤ n) (hv : n ≤ v.length) (k : Nat) : argAt d (v.take n) k = argAt d v k := by
  have hi := ix_lt h hn k
  unfold argAt
  generalize (d.2.getD k 0).toNat = j at hi
  rw [List.getD_eq_getElem?_getD, List.getD_eq_getElem?_getD, List.getElem?_take, if_pos hi]
/-- the carries into bit t -/
structure CIs (v : List Int) (t : Nat) (ds : List Deed) (cs : List Int) : Prop where
  len : cs.length = ds.length
  each : ∀ (k : Nat) d c, ds[k]? = some d → cs[k]? = some c → CI d.1 (argAt d v 0) (argAt d v 1) (2 ^ t) c ∧ Bit c
theorem cis_first (v : List Int) (ds : List Deed) : CIs v 0 ds (ds.map fcD) where
  len := List.length_map ..
  each := fun k d c hd hc => by
    rw [List.getElem?_map, hd] at hc
    obtain rfl := Option.some.inj hc
    refine ⟨ci_first d _ _, ?_⟩
    unfold fcD
    split
    · exact bit1
    · exact bit0
theorem cis_bits {m n t : Nat} {ds : List Deed} {xs cs : List Int} (ok : DsOk m ds) (hm : xs.length = m) (m1 : 1 ≤ m) (hx : ∀ x ∈ xs, 0 ≤ x ∧ x < 2 ^ n) (ht : t < n) (h : CIs (vals (2 ^ n) ds xs) t ds cs) : bts ds cs (xs.map (bitA t)) = (vals (2 ^ n) ds xs).map (bitA t) := by
  have vr := vals_range (pw_pos n) ds xs hx
  have vl := vals_len (size := 2 ^ n) ds xs
  have key : ∀ i, i ≤ ds.length → bts (ds.take i) (cs.take i) (xs.map (bitA t)) = ((vals (2 ^ n) ds xs).take (xs.length + i)).map (bitA t) := by
    intro i
    induction i with
    | zero =>
      intro _
      rw [Nat.add_zero, vals_pre]
      cases ds <;> rfl
    | succ i ih =>
      intro hi
      have hd : ds[i]? = some ds[i] := List.getElem?_eq_getElem (by omega)
      have hc : cs[i]? = some (cs[i]'(by rw [h.len]; omega)) := List.getElem?_eq_getElem _
      obtain ⟨h1, h2⟩ := h.each i _ _ hd hc
      generalize ds[i] = d at hd h1
      generalize cs[i]'(by rw [h.len]; omega) = c at hc h1 h2
      have okd : DeedOk ((xs.length + i : Nat) : Int) d := by
        have := ok.each i d hd
        rw [hm]
        have e : ((m + i : Nat) : Int) = (m : Int) + (i : Int) := by omega
        rw [e]
        exact this
      have pl : ((vals (2 ^ n) ds xs).take (xs.length + i)).length = xs.length + i := by
        rw [List.length_take, vl]
        omega
      rw [bts_next hd hc, ih (by omega), ← vals_at (i + 1) hi, vals_next hd, vals_at i (by omega), List.map_append]
      congr 1
      show [dbitAt d c _] = [bitA t (dval (2 ^ n) d _)]
      unfold dbitAt dval
      rw [arg_map _ (by rw [pl]; exact okd) (by omega), arg_map _ (by rw [pl]; exact okd) (by omega), arg_take okd (by omega) (by omega), arg_take okd (by omega) (by omega), bit_mod ht]
      rw [dbit_tells (List.mem_map.mpr ⟨_, okd.word, rfl⟩) ht (arg_nn (fun x hx => (vr x hx).1) d 0) (arg_nn (fun x hx => (vr x hx).1) d 1) h2 h1]
  have e := key ds.length (Nat.le_refl _)
  rw [List.take_length, ← h.len, List.take_length, h.len, ← vl, List.take_length] at e
  exact e
theorem cis_next {m n t : Nat} {ds : List Deed} {xs cs : List Int} (ok : DsOk m ds) (hm : xs.length = m) (m1 : 1 ≤ m) (h : CIs (vals (2 ^ n) ds xs) t ds cs) : CIs (vals (2 ^ n) ds xs) (t + 1) ds (nxt ds cs ((vals (2 ^ n) ds xs).map (bitA t))) where
  len := nxt_len h.len.symm
  each := fun k d c hd hc => by
    unfold nxt at hc
    rw [List.getElem?_zipWith, hd] at hc
    cases e : cs[k]? with
    | none => rw [e] at hc; simp at hc
    | some c0 =>
      rw [e] at hc
      obtain rfl : dcarAt d c0 ((vals (2 ^ n) ds xs).map (bitA t)) = c := by simpa using hc
      obtain ⟨h1, h2⟩ := h.each k d c0 hd e
      have kl := (List.getElem?_eq_some_iff.mp hd).1
      have okd : DeedOk (vals (2 ^ n) ds xs).length d := by
        rw [vals_len]
        refine ⟨(ok.each k d hd).word, fun i hi => ?_⟩
        have := (ok.each k d hd).ahead i hi
        omega
      have l1 : 1 ≤ (vals (2 ^ n) ds xs).length := by
        rw [vals_len]
        omega
      unfold dcarAt
      rw [arg_map _ okd l1, arg_map _ okd l1]
      refine ⟨?_, dcar_bit (bitA_bit _ _) (bitA_bit _ _) h2⟩
      rw [Int.pow_succ, Int.mul_comm]
      exact ci_next (pw_pos t) h2 h1
/-- the carry come to by the words' bits -/
def crry (ds : List Deed) (xs : List Int) : Nat → List Int
  | 0 => ds.map fcD
  | t + 1 => nxt ds (crry ds xs t) (bts ds (crry ds xs t) (xs.map (bitA t)))
theorem crry_ok {m n : Nat} {ds : List Deed} {xs : List Int} (ok : DsOk m ds) (hm : xs.length = m) (m1 : 1 ≤ m) (hx : ∀ x ∈ xs, 0 ≤ x ∧ x < 2 ^ n) : ∀ t, t ≤ n → CIs (vals (2 ^ n) ds xs) t ds (crry ds xs t)
  | 0, _ => cis_first _ ds
  | t + 1, h => by
    have ih := crry_ok ok hm m1 hx t (by omega)
    show CIs _ (t + 1) ds (nxt ds (crry ds xs t) (bts ds (crry ds xs t) (xs.map (bitA t))))
    rw [cis_bits ok hm m1 hx (by omega) ih]
    exact cis_next ok hm m1 ih
theorem crry_bits {m n t : Nat} {ds : List Deed} {xs : List Int} (ok : DsOk m ds) (hm : xs.length = m) (m1 : 1 ≤ m) (hx : ∀ x ∈ xs, 0 ≤ x ∧ x < 2 ^ n) (ht : t < n) : bts ds (crry ds xs t) (xs.map (bitA t)) = (vals (2 ^ n) ds xs).map (bitA t) :=
  cis_bits ok hm m1 hx ht (crry_ok ok hm m1 hx t (by omega))
/-! ### the carries that come -/
inductive Rch (m : Nat) (ds : List Deed) : List Int → Prop
  | first : Rch m ds (ds.map fcD)
  | next {c bs : List Int} : Rch m ds c → bs.length = m → (∀ x ∈ bs, Bit x) → Rch m ds (nxt ds c (bts ds c bs))
theorem crry_rch (ds : List Deed) (xs : List Int) : ∀ t, Rch xs.length ds (crry ds xs t)
  | 0 => .first
  | t + 1 => .next (crry_rch ds xs t) (List.length_map ..) fun x hx => by
    obtain ⟨y, _, rfl⟩ := List.mem_map.mp hx
    exact bitA_bit t y
/-- bits, none where nothing carries -/
def Shp : List Deed → List Int → Prop
  | [], [] => True
  | d :: ds, c :: cs => Bit c ∧ (d.1 ∉ twC → c = 0) ∧ Shp ds cs
  | _, _ => False
theorem Shp.len : ∀ {ds : List Deed} {cs : List Int}, Shp ds cs → cs.length = ds.length
  | [], [], _ => rfl
  | [], _ :: _, h => h.elim
  | _ :: _, [], h => h.elim
  | _ :: _, _ :: _, h => congrArg (· + 1) (Shp.len h.2.2)
theorem Shp.bits : ∀ {ds : List Deed} {cs : List Int}, Shp ds cs → ∀ c ∈ cs, Bit c
  | [], [], _ => (fun _ z => nomatch z)
  | [], _ :: _, h => h.elim
  | _ :: _, [], h => h.elim
  | _ :: _, _ :: _, h => fun c hc => by
    rcases List.mem_cons.mp hc with rfl | hc
    · exact h.1
    · exact Shp.bits h.2.2 c hc
theorem calm_first {d : Deed} (h : d.1 ∉ twC) : fcD d = 0 := by
  unfold fcD
  rw [if_neg]
  intro z
  simp only [List.mem_cons, List.not_mem_nil, or_false] at z
  simp only [twC, List.mem_cons, List.not_mem_nil, or_false, not_or] at h
  rcases z with z | z
  · exact h.2.2.2.1 z
  · exact h.2.2.2.2 z
theorem calm_car {x : Str} (h : x ∉ twC) (a b c : Int) : dcar x a b c = 0 := by
  simp only [twC, List.mem_cons, List.not_mem_nil, or_false, not_or] at h
  obtain ⟨h1, h2, h3, h4, h5⟩ := h
  unfold dcar
  rw [if_neg h4, if_neg h3, if_neg h1, if_neg h2]
theorem shp_first : ∀ ds : List Deed, Shp ds (ds.map fcD)
  | [] => trivial
  | d :: ds => ⟨(by unfold fcD; split; exact bit1; exact bit0), calm_first, shp_first ds⟩
theorem shp_nxt {told : List Int} (hb : ∀ x ∈ told, Bit x) : ∀ {ds : List Deed} {cs : List Int}, Shp ds cs → Shp ds (nxt ds cs told)
  | [], [], _ => trivial
  | [], _ :: _, h => h.elim
  | _ :: _, [], h => h.elim
  | d :: ds, c :: cs, h => ⟨dcar_bit (argAt_bit hb d 0) (argAt_bit hb d 1) h.1, fun z => calm_car z _ _ _, shp_nxt hb h.2.2⟩
theorem rch_shp {m : Nat} {ds : List Deed} : ∀ {c : List Int}, Rch m ds c → Shp ds c := by
  intro c h
  induction h with
  | first => exact shp_first ds
  | next h hl hb ih => exact shp_nxt (bts_bits hb ih.bits) ih
def univ : List Deed → List (List Int)
  | [] => [[]]
  | d :: ds => if d.1 ∈ twC then (univ ds).map (0 :: ·) ++ (univ ds).map (1 :: ·) else (univ ds).map (0 :: ·)
theorem univ_len : ∀ ds : List Deed, (univ ds).length = 2 ^ carN ds
  | [] => rfl
  | d :: ds => by
    have ih := univ_len ds
    unfold univ carN
    by_cases h : d.1 ∈ twC
    · rw [if_pos h, if_pos h, List.length_append, List.length_map, List.length_map, ih, Nat.pow_succ]
      omega
    · rw [if_neg h, if_neg h, List.length_map, ih]
      rfl
theorem shp_univ : ∀ {ds : List Deed} {cs : List Int}, Shp ds cs → cs ∈ univ ds
  | [], [], _ => List.mem_cons_self
  | [], _ :: _, h => h.elim
  | _ :: _, [], h => h.elim
  | d :: ds, c :: cs, h => by
    have ih := shp_univ h.2.2
    unfold univ
    by_cases hd : d.1 ∈ twC
    · rw [if_pos hd]
      rcases h.1 with rfl | rfl
      · exact List.mem_append_left _ (List.mem_map.mpr ⟨cs, ih, rfl⟩)
      · exact List.mem_append_right _ (List.mem_map.mpr ⟨cs, ih, rfl⟩)
    · rw [if_neg hd, h.2.1 hd]
      exact List.mem_map.mpr ⟨cs, ih, rfl⟩
theorem pigeon {α : Type} [DecidableEq α] : ∀ (l D : List α), l.Nodup → (∀ x ∈ l, x ∈ D) → l.length ≤ D.length
  | [], _, _, _ => Nat.zero_le _
  | x :: l, D, nd, h => by
    rw [List.nodup_cons] at nd
    have hx := h x List.mem_cons_self
    have ih := pigeon l (D.erase x) nd.2 fun y hy => (List.mem_erase_of_ne (fun e : y = x => nd.1 (by rw [← e]; exact hy))).mpr (h y (List.mem_cons_of_mem _ hy))
    rw [List.length_erase_of_mem hx] at ih
    have := List.length_pos_of_mem hx
    rw [List.length_cons]
    omega
/-! ### all bits -/
theorem walk_gen {J : It} {n : Nat} {G : Hp → Prop} {Y : Nat → Hp → V → Hp → Prop} (w : Walk J n G Y) {g : TG} {σ0 : L2.St} {B : (Hp → Prop) → L2.St → Hp → Prop} {H0 : Hp} {Qd : Hp → Prop} (Pv : Nat → Hp → Prop) (h0 : Pv 0 H0)
    (hG : ∀ i H, i ≤ n → Pv i H → G H) (hs : ∀ i x H H', i < n → Pv i H → Y i H x H' → g x σ0 H' fun σ2 H2 => B (Pv (i + 1)) σ2 H2) (hd : ∀ H, Pv n H → Qd H) :
    ∃ W : Nat → Nat → Hp → Prop, (∃ m, W 0 m H0) ∧ ∀ i m H, W i m H → (J.stop i H ∧ Qd H) ∨ (J.go i H ∧ ∃ Nx : Hp → Prop, (∀ H', Nx H' → ∃ m', m' < m ∧ W (i + 1) m' H') ∧ ∀ x H', J.yld i H x H' → g x σ0 H' fun σ2 H2 => B Nx σ2 H2) := by
  refine ⟨fun i m H => m = n - i ∧ i ≤ n ∧ Pv i H, ⟨n, by simp, Nat.zero_le _, h0⟩, ?_⟩
  rintro i m H ⟨rfl, hi, q⟩
  by_cases lt : i < n
  · exact .inr ⟨w.goes i H lt (hG i H hi q), Pv (i + 1), fun H' z => ⟨n - (i + 1), by omega, rfl, lt, z⟩, fun x H' y => hs i x H H' lt q (w.yields i H x H' lt (hG i H hi q) y)⟩
  · obtain rfl : i = n := by omega
    exact .inl ⟨w.stops H (hG i H hi q), hd H q⟩
def ext2 (l : List (List Int)) : List (List Int) := l.flatMap fun b => [b ++ [0], b ++ [1]]
def allB : Nat → List (List Int)
  | 0 => [[]]
  | m + 1 => ext2 (allB m)
theorem ext2_len (l : List (List Int)) : (ext2 l).length = 2 * l.length := by
  unfold ext2
  induction l with
  | nil => rfl
  | cons b l ih => rw [List.flatMap_cons, List.length_append, ih, List.length_cons]; simp; omega
theorem allB_len : ∀ m, (allB m).length = 2 ^ m
  | 0 => rfl
  | m + 1 => by
    show (ext2 (allB m)).length = _
    rw [ext2_len, allB_len m, Nat.pow_succ]
    omega
theorem allB_ok : ∀ m, ∀ bs ∈ allB m, bs.length = m ∧ ∀ x ∈ bs, Bit x
  | 0, bs, h => by
    rw [List.mem_singleton.mp h]
    exact ⟨rfl, (fun _ z => nomatch z)⟩
  | m + 1, bs, h => by
    obtain ⟨b, hb, h2⟩ := List.mem_flatMap.mp h
    obtain ⟨h3, h4⟩ := allB_ok m b hb
    simp only [List.mem_cons, List.not_mem_nil, or_false] at h2
    rcases h2 with rfl | rfl
    · refine ⟨by rw [List.length_append, h3]; rfl, fun x hx => ?_⟩
      rcases List.mem_append.mp hx with hx | hx
      · exact h4 x hx
      · rw [List.mem_singleton.mp hx]
        exact bit0
    · refine ⟨by rw [List.length_append, h3]; rfl, fun x hx => ?_⟩
      rcases List.mem_append.mp hx with hx | hx
      · exact h4 x hx
      · rw [List.mem_singleton.mp hx]
        exact bit1
theorem allB_all : ∀ m, ∀ bs : List Int, bs.length = m → (∀ x ∈ bs, Bit x) → bs ∈ allB m
  | 0, bs, h, _ => by
    rw [List.eq_nil_of_length_eq_zero h]
    exact List.mem_cons_self
  | m + 1, bs, h, hb => by
    have hne : bs ≠ [] := fun e => by rw [e] at h; simp at h
    have e := List.dropLast_concat_getLast hne
    have h1 : bs.dropLast ∈ allB m := allB_all m _ (by rw [List.length_dropLast, h]; rfl) fun x hx => hb x ((List.dropLast_sublist bs).subset hx)
    refine List.mem_flatMap.mpr ⟨_, h1, ?_⟩
    rcases hb _ (List.getLast_mem hne) with z | z
    · rw [z] at e
      exact List.mem_cons.mpr (.inl e.symm)
    · rw [z] at e
      exact List.mem_cons.mpr (.inr (List.mem_singleton.mpr e.symm))
/-- tuples of ints -/
abbrev TAt (H : Hp) : List Addr → List (List Int) → Prop := Paired fun f bs => H f = some (.tup (bs.map V.int))
theorem tat_stay {H H' : Hp} (t : TupsStay H H') {fs : List Addr} {l : List (List Int)} (h : TAt H fs l) : TAt H' fs l := awMap (fun f b e => t f _ e) h
def spAll : Sp := fun vs H Q _ => ∃ m : Nat, vs = [.int (m : Int)] ∧ m ≤ 3 ∧ ∀ H' p fs, Same H H' → H p = none → H' p = some (.lst (fs.map V.ref)) → TAt H' fs (allB m) → Q (.ref p) H'
theorem ok_all {f : Addr} {fd : FuncData} {k : Nat} (F : Fun K "all_bits" "all_bits" s_all_bits f fd) (mr : mg "range" = none) : FnOk P w K mg base CX0 (k + 1) f fd ["many"] spAll := by
  refine F.ok sc_all_bits (fun vs H Q E h => ?_) (fun cdv A outer s H vs Q E hr h => ?_)
  · obtain ⟨m, rfl, _⟩ := h
    rfl
  · obtain ⟨m, rfl, m3, q⟩ := h
    refine ⟨_, pss_cons (ps_set (i := 1) sc_all_bits.nd rfl (.inl rfl) (pe_lst (pa_cons (pe_tup pa_nil) pa_nil)))
      (pss_cons (ps_for PassesOwn.never rfl (pi_range1 (by rfl) mr (pa_cons (pv 0) pa_nil)) (pg_name (i := 2) sc_all_bits.nd rfl (.inl rfl))
        (pss_one (ps_setLc2 (i := 1) (own := [("bits", 3), ("bit", 4)]) (vs1 := [4]) (g := gName 3) (g1 := gName 4) (wi1 := iTup K (tTup (tCons (tC (.int 0)) (tCons (tC (.int 1)) tNil)))) (by rfl) sc_all_bits.nd rfl rfl (sw_true rfl rfl rfl (by decide +kernel)) (pi_list (pv 1)) (blkOk_by (own := [("bits", 3), ("bit", 4)]) (N := N_all_bits) (sc := defScope s_all_bits) (by decide +kernel)) (by decide)
          (fun _ _ _ _ _ => pg_name (i := 3) sc_all_bits.nd rfl (Or.inl rfl)) (fun _ _ _ _ _ => pts_nil) (fun _ _ _ _ _ => pi_tup (pe_tup (pa_cons pe_int (pa_cons pe_int pa_nil))))
          (fun _ _ _ _ _ => pg_name (i := 4) sc_all_bits.nd rfl (Or.inl rfl)) (fun _ _ _ _ _ => pts_nil) (fun _ _ _ _ _ => pe_op op_catZ (pv 3) (pe_tup (pa_cons (pv 4) pa_nil))))))
      (pss_one (ps_ret (pv 1)))), ?_⟩
    refine ⟨by show 0 ≤ sizeLine; decide, fun T hT => ⟨by show 1 ≤ sizeLine; decide, fun L hL => ?_⟩⟩
    have s1 := same_new (o := .tup []) hT
    have s2 := same_new (o := .lst [.ref T]) hL
    refine ⟨.int m, rfl, m, rfl, by omega, by omega, for_range (lo := 0) (n := m) (fun i σ H3 => ∃ y2 F1 fs, σ = [some (.int (m : Int)), some (.ref F1), y2, none, none] ∧ H F1 = none ∧ H3 F1 = some (.lst (fs.map V.ref)) ∧ TAt H3 fs (allB i) ∧ Same H H3) ⟨none, L, [T], rfl, s1.free hL, upd_same, .cons (s2 _ _ upd_same) .nil, s1.trans s2⟩ (fun i σ H3 hi hp => ?_) (fun σ H3 hp => ?_)⟩
    · obtain ⟨y2, F1, fs, rfl, nF, eF, hf, sm⟩ := hp
      have fl : fs.length ≤ 8 := by
        rw [awLen hf, allB_len]
        exact Nat.le_trans (Nat.pow_le_pow_right (by decide) (show i ≤ 3 by omega)) (by decide)
      refine ⟨.ref F1, rfl, F1, rfl, ⟨_, .inl (.inl eF)⟩, fun M hM => ?_⟩
      refine walk_gen (walk_list (K := K) (a := F1) (xs := fs.map V.ref)) (fun j H4 => ∃ gs, H4 M = some (.lst (gs.map V.ref)) ∧ TAt H4 gs (ext2 ((allB i).take j)) ∧ Same H3 H4) ⟨[], upd_same, .nil, same_new hM⟩ (fun j H4 _ hp => ?_) (fun j x H4 H5 hj hp hy => ?_) (fun H4 hp => ?_)
      · obtain ⟨_, _, _, s4⟩ := hp
        exact .inl (.inl (s4 _ _ eF))
      · obtain ⟨gs, eM, hg, s4⟩ := hp
        obtain ⟨rfl, hx⟩ := hy
        have hj2 : j < fs.length := by rwa [List.length_map] at hj
        have hx' : x = .ref fs[j] := by
          rw [List.getElem?_map, List.getElem?_eq_getElem hj2] at hx
          exact (Option.some.inj hx).symm
        subst hx'
        obtain ⟨b, hb1, hb2⟩ := awGet hf (List.getElem?_eq_getElem hj2)
        have bl : b.length = i := (allB_ok i b (List.mem_of_getElem? hb1)).1
        refine ⟨rfl, by show 2 ≤ sizeLine; decide, fun U hU => ?_⟩
        have sU := same_new (o := .tup [.int 0, .int 1]) hU
        refine ⟨U, rfl, ⟨_, SqT.of upd_same⟩, ?_⟩
        refine walk_gen (walk_tup (K := K) (a := U) (xs := [.int 0, .int 1])) (fun t H6 => ∃ gs, H6 M = some (.lst (gs.map V.ref)) ∧ TAt H6 gs (ext2 ((allB i).take j) ++ [b ++ [0], b ++ [1]].take t) ∧ TupsStay (upd H5 U (.tup [.int 0, .int 1])) H6 ∧ Same H3 H6) ⟨gs, sU _ _ eM, (by rw [List.take_zero, List.append_nil]; exact tat_stay (Same.tups sU) hg), (fun _ _ e => e), s4.trans sU⟩ (fun t H6 _ hp => ?_) (fun t x H6 H7 ht hp hy => ?_) (fun H6 hp => ?_)
        · obtain ⟨_, _, _, t6, _⟩ := hp
          exact SqT.of (t6 _ _ upd_same)
        · obtain ⟨gs, eM6, hg6, t6, s6⟩ := hp
          obtain ⟨rfl, hx⟩ := hy
          obtain ⟨z, rfl, hz⟩ : ∃ z : Int, x = .int z ∧ [b ++ [0], b ++ [1]].take (t + 1) = [b ++ [0], b ++ [1]].take t ++ [b ++ [z]] := by
            have ht2 : t = 0 ∨ t = 1 := by
              have : t < 2 := ht
              omega
            rcases ht2 with rfl | rfl
            · exact ⟨0, (Option.some.inj hx).symm, rfl⟩
            · exact ⟨1, (Option.some.inj hx).symm, rfl⟩
          have eb := s6 _ _ (hb2)
          refine ⟨rfl, .ref fs[j], rfl, .int z, rfl, by show 1 ≤ sizeLine; decide, fun U2 hU2 => ?_⟩
          have sU2 := same_new (o := .tup [.int z]) hU2
          refine ⟨fs[j], U2, _, _, rfl, rfl, sU2 _ _ eb, upd_same, by rw [List.length_map]; exact Nat.le_of_lt (small1000 (by show b.length + 1 ≤ 1000; omega)), fun p H8 s8 ep => ?_⟩
          have s78 := sU2.trans s8
          have eM8 := s78 _ _ eM6
          have gl := awLen hg6
          have gl2 : gs.length ≤ 18 := by
            rw [gl, List.length_append, ext2_len, List.length_take]
            have e1 : (allB i).length = fs.length := (awLen hf).symm
            have e2 : ([b ++ [0], b ++ [1]].take t).length ≤ 2 := by
              rw [List.length_take]
              exact Nat.min_le_right _ _
            omega
          have tp := tups_put (o := .lst (gs.map V.ref ++ [V.ref p])) eM8
          refine ⟨_, eM8, by rw [List.length_map]; exact small1000 (by omega), gs ++ [p], ?_, ?_, ?_, ?_⟩
          · rw [upd_same, List.map_append]
            rfl
          · rw [hz, ← List.append_assoc]
            refine tat_stay tp (awSnoc (F := fun f (bs : List Int) => H8 f = some (.tup (bs.map V.int))) ?_ (tat_stay (Same.tups s78) hg6))
            rw [ep, List.map_append]
            rfl
          · exact (t6.trans (Same.tups s78)).trans tp
          · intro c u e
            rw [upd_ne (ne_of_none e hM)]
            exact s78 c u (s6 c u e)
        · obtain ⟨gs, eM6, hg6, t6, s6⟩ := hp
          refine ⟨gs, eM6, ?_, s6⟩
          have e1 : ext2 ((allB i).take (j + 1)) = ext2 ((allB i).take j) ++ [b ++ [0], b ++ [1]] := by
            rw [List.take_add_one, hb1]
            unfold ext2
            rw [List.flatMap_append]
            rfl
          rw [e1]
          exact hg6
      · obtain ⟨gs, eM, hg, s4⟩ := hp
        refine ⟨some (.int (0 + i)), M, gs, rfl, sm.free hM, eM, ?_, sm.trans s4⟩
        rw [List.length_map, awLen hf, List.take_length] at hg
        exact hg
    · obtain ⟨y2, F1, fs, rfl, nF, eF, hf, sm⟩ := hp
      exact ⟨.ref F1, rfl, q _ F1 fs sm nF eF hf⟩
/-! ### carry_behind, steps, kept_steps -/
def spCb : Sp := fun vs H Q _ => ∃ (R C T : Addr) (m o : Int) (ds : List Deed) (cs told : List Int), vs = [.ref R, .ref C, .ref T] ∧ RowAt H R m ds o ∧ DsOk m ds ∧ ds.length ≤ 100 ∧ H C = some (.tup (cs.map V.int)) ∧ cs.length = ds.length ∧ H T = some (.tup (told.map V.int)) ∧ (told.length : Int) = m + ds.length ∧
  ∀ H' p, Same H H' → H p = none → H' p = some (.tup ((nxt ds cs told).map V.int)) → Q (.ref p) H'
theorem ok_cb {f fC : Addr} {fd fdC : FuncData} {k : Nat} (F : Fun K "carry_behind" "carry_behind" s_carry_behind f fd)
    (GC : FnOk P w K mg base CX0 (k + 2) fC fdC ["deed", "held", "told"] spDc) (kC : PySem.W.keepIn K (.ref fC) = true) (bC : Binds K fdC ["deed", "held", "told"] []) (gC : mg "deed_carry" = some (.ref fC)) (mt : mg "tuple" = none) (mz : mg "zip" = none) : FnOk P w K mg base CX0 (k + 3) f fd ["row", "carry", "told"] spCb := by
  refine F.ok sc_carry_behind (fun vs H Q E h => ?_) (fun cdv A outer s H vs Q E hr h => ?_)
  · obtain ⟨R, C, T, m, o, ds, cs, told, rfl, _⟩ := h
    rfl
  · obtain ⟨R, C, T, m, o, ds, cs, told, rfl, hrow, hok, hds, eC, hcl, eT, htl, q⟩ := h
    obtain ⟨D, rs, eR, eD, hd⟩ := id hrow
    refine ⟨_, pss_one (ps_ret (pe_callTy call_tuple_of (by rfl) mt (by decide +kernel) (pa_cons
        (pe_lc (own := [("deed", 3), ("held", 4)]) (g := gTup K 2 (gCons (gName 3) (gCons (gName 4) gNil))) (by rfl) sc_carry_behind.nd (RZ.pi_zipA (by rfl) mz (pa_cons (pe_ix ix_tup (pv 0) pe_int (fun _ _ => rfl)) (pa_cons (pv 1) pa_nil))) (blkOk_by (own := [("deed", 3), ("held", 4)]) (N := N_carry_behind) (sc := defScope s_carry_behind) (by decide +kernel))
          (fun _ _ _ _ _ => pg_tup rfl (pgs_cons (pg_name (i := 3) sc_carry_behind.nd rfl (.inl rfl)) (pgs_cons (pg_name (i := 4) sc_carry_behind.nd rfl (.inl rfl)) pgs_nil))) (fun _ _ _ _ _ => pts_nil)
          (fun _ _ _ _ _ => pe_call GC hr (by rfl) gC kC bC .nil pass0 (pa_cons (pv 3) (pa_cons (pv 4) (pa_cons (pv 2) pa_nil))))) pa_nil))), ?_⟩
    have lrs : (rs.map V.ref).length = ds.length := by rw [List.length_map, awLen hd]
    have lcs : (cs.map V.int).length = ds.length := by rw [List.length_map, hcl]
    refine ⟨.ref R, rfl, R, _, 1, .ref D, rfl, rfl, SqT.of eR, rfl, .ref C, rfl, D, C, _, _, rfl, .inr ⟨SqT.of eD, SqT.of eC, fun L hL => ?_⟩⟩
    refine lc_it (walk_zipT (K := K) (a := D) (b := C) (xs := rs.map V.ref) (ys := cs.map V.int) (lrs.trans lcs.symm)) (fun i H4 => H4 L = some (.lst (((nxt ds cs told).take i).map V.int)) ∧ Same H H4) ⟨upd_same, same_new hL⟩ (fun i H4 _ hp => ⟨SqT.of (hp.2 _ _ eD), SqT.of (hp.2 _ _ eC)⟩) (fun i x H4 H5 hi hp hy => ?_) (fun H4 hp => ?_)
    · obtain ⟨eL, sm⟩ := hp
      obtain ⟨U, x1, x2, rfl, hU, rfl, g1, g2⟩ := hy
      have hi2 : i < rs.length := by rwa [List.length_map] at hi
      have hx' : x1 = .ref rs[i] := by
        have g1' : (rs.map V.ref)[i]? = some x1 := g1
        rw [List.getElem?_map, List.getElem?_eq_getElem hi2] at g1'
        exact (Option.some.inj g1').symm
      subst hx'
      obtain ⟨d, hd1, hd2⟩ := awGet hd (List.getElem?_eq_getElem hi2)
      obtain ⟨c, hc, rfl⟩ : ∃ c, cs[i]? = some c ∧ x2 = .int c := by
        have g2' : (cs.map V.int)[i]? = some x2 := g2
        rw [List.getElem?_map] at g2'
        cases e : cs[i]? with
        | none => rw [e] at g2'; cases g2'
        | some c => rw [e] at g2'; exact ⟨c, rfl, (Option.some.inj g2').symm⟩
      have h2 : i < ds.length := by
        rw [← awLen hd]
        exact hi2
      have okd : DeedOk told.length d := okd_more (hok.each i d hd1) (by omega)
      have sU := same_new (o := .tup [.ref rs[i], .int c]) hU
      refine ⟨U, [.ref rs[i], .int c], rfl, .inl (.inl upd_same), rfl, .ref rs[i], [.int c], rfl, .int c, [], rfl, rfl, rfl, ?_⟩
      refine ⟨.ref rs[i], rfl, .int c, rfl, .ref T, rfl, rs[i], T, d, _, c, rfl, sU _ _ (sm _ _ hd2), sU _ _ (sm _ _ eT), okd, _, sU _ _ eL, ?_, ?_, ?_⟩
      · rw [List.length_map, List.length_take, nxt_len hcl.symm]
        exact small1000 (by omega)
      · rw [upd_same, nxt_next hd1 hc, List.map_append]
        rfl
      · intro b u e
        rw [upd_ne (ne_of_none e hL)]
        exact sU b u (sm b u e)
    · obtain ⟨eL, sm⟩ := hp
      rw [lrs, ← nxt_len (t := told) hcl.symm, List.take_length] at eL
      refine ⟨L, _, rfl, .inl ⟨.inl (.inl eL), fun p hp => ?_⟩⟩
      exact q _ p (sm.trans (same_new hp)) (sm.free hp) upd_same
/-- the steps of a carry: for all bits the bit of out and the next carry -/
def stp (m : Nat) (ds : List Deed) (o : Int) (cs : List Int) : List (Int × List Int) := (allB m).map fun bs => ((bts ds cs bs).getD o.toNat 0, nxt ds cs (bts ds cs bs))
theorem stp_len (m : Nat) (ds : List Deed) (o : Int) (cs : List Int) : (stp m ds o cs).length = 2 ^ m := by
  unfold stp
  rw [List.length_map, allB_len]
abbrev StAt (H : Hp) : List Addr → List (Int × List Int) → Prop := Paired fun q e => ∃ c, H q = some (.tup [.int e.1, .ref c]) ∧ H c = some (.tup (e.2.map V.int))
theorem stat_stay {H H' : Hp} (t : TupsStay H H') {ps : List Addr} {l : List (Int × List Int)} (h : StAt H ps l) : StAt H' ps l := awMap (fun q e z => z.elim fun c y => ⟨c, t _ _ y.1, t _ _ y.2⟩) h
def spSt : Sp := fun vs H Q _ => ∃ (R C : Addr) (m : Nat) (o : Int) (ds : List Deed) (cs : List Int), vs = [.ref R, .ref C] ∧ RowAt H R m ds o ∧ RowOk m ds o ∧ H C = some (.tup (cs.map V.int)) ∧ cs.length = ds.length ∧
  ∀ H' p ps, Same H H' → H p = none → H' p = some (.lst (ps.map V.ref)) → StAt H' ps (stp m ds o cs) → Q (.ref p) H'
theorem ok_st {f fA fB fC : Addr} {fd fdA fdB fdC : FuncData} {k : Nat} (F : Fun K "steps" "steps" s_steps f fd)
    (GA : FnOk P w K mg base CX0 (k + 1) fA fdA ["many"] spAll) (kA : PySem.W.keepIn K (.ref fA) = true) (bA : Binds K fdA ["many"] []) (gA : mg "all_bits" = some (.ref fA))
    (GB : FnOk P w K mg base CX0 (k + 2) fB fdB ["row", "carry", "bits"] spBo) (kB : PySem.W.keepIn K (.ref fB) = true) (bB : Binds K fdB ["row", "carry", "bits"] []) (gB : mg "bits_of" = some (.ref fB))
    (GC : FnOk P w K mg base CX0 (k + 3) fC fdC ["row", "carry", "told"] spCb) (kC : PySem.W.keepIn K (.ref fC) = true) (bC : Binds K fdC ["row", "carry", "told"] []) (gC : mg "carry_behind" = some (.ref fC)) : FnOk P w K mg base CX0 (k + 4) f fd ["row", "carry"] spSt := by
  refine F.ok sc_steps (fun vs H Q E h => ?_) (fun cdv A outer s H vs Q E hr h => ?_)
  · obtain ⟨R, C, m, o, ds, cs, rfl, _⟩ := h
    rfl
  · obtain ⟨R, C, m, o, ds, cs, rfl, hrow, hok, eC, hcl, q⟩ := h
    obtain ⟨D, rs, eR, eD, hd⟩ := id hrow
    have r1 := hr.mono (show k + 1 ≤ k + 3 by omega)
    have r2 := hr.mono (show k + 2 ≤ k + 3 by omega)
    refine ⟨_, pss_cons (ps_set (i := 2) sc_steps.nd rfl (.inl rfl) (pe_lst pa_nil))
      (pss_cons (ps_for PassesOwn.never rfl (pi_list (pe_call GA r1 (by rfl) gA kA bA .nil pass0 (pa_cons (pe_ix ix_tup (pv 0) pe_int (fun _ _ => rfl)) pa_nil))) (pg_name (i := 3) sc_steps.nd rfl (.inl rfl))
        (pss_cons (ps_set (i := 4) sc_steps.nd rfl (.inl rfl) (pe_call GB r2 (by rfl) gB kB bB .nil pass0 (pa_cons (pv 0) (pa_cons (pv 1) (pa_cons (pv 3) pa_nil)))))
        (pss_one (ps_expr (pe_bm PySem.F.plainAttrs_list PySem.F.slot_list_append PySem.F.type_list_append mt_append (pv 2) (pa_cons (pe_tup (pa_cons (pe_ix ix_tup (pv 4) (pe_ix ix_tup (pv 0) pe_int (fun _ _ => rfl)) (fun _ _ => rfl)) (pa_cons (pe_call GC hr (by rfl) gC kC bC .nil pass0 (pa_cons (pv 0) (pa_cons (pv 1) (pa_cons (pv 4) pa_nil)))) pa_nil))) pa_nil))))))
      (pss_one (ps_ret (pv 2)))), ?_⟩
    have m1 := hok.m1
    have m3 := hok.m3
    have l8 := hok.len
    refine ⟨Nat.zero_le _, fun L hL => ?_⟩
    have sL := same_new (o := .lst []) hL
    refine ⟨.ref R, rfl, R, _, 0, .int m, rfl, rfl, SqT.of (sL _ _ eR), rfl, m, rfl, by omega, fun H1 B fs s1 nB eB hf => ?_⟩
    have nLB : B ≠ L := fun z => by rw [z, upd_same] at nB; cases nB
    have fl : fs.length = 2 ^ m := by rw [awLen hf, allB_len]
    have f8 : fs.length ≤ 8 := by
      rw [fl]
      exact Nat.le_trans (Nat.pow_le_pow_right (by decide) (show m ≤ 3 by omega)) (by decide)
    have old : ∀ H5 o, Same H H5 → Same H (upd H5 L o) := fun H5 o s5 b u e => by
      rw [upd_ne (ne_of_none e hL)]
      exact s5 b u e
    refine ⟨B, rfl, ⟨_, .inl (.inl eB)⟩, for_list (K := K) (a := B) (xs := fs.map V.ref) (fun i σ H3 => ∃ y3 y4 ps, σ = [some (.ref R), some (.ref C), some (.ref L), y3, y4] ∧ H3 L = some (.lst (ps.map V.ref)) ∧ StAt H3 ps ((stp m ds o cs).take i) ∧ H3 B = some (.lst (fs.map V.ref)) ∧ TAt H3 fs (allB m) ∧ Same H H3)
      ⟨none, none, [], rfl, s1 _ _ upd_same, .nil, eB, hf, sL.trans s1⟩ (fun i σ H3 _ hp => ?_) (fun i x σ H3 hx hp => ?_) (fun σ H3 hp => ?_)⟩
    · obtain ⟨_, _, _, _, _, _, e, _⟩ := hp
      exact .inl (.inl e)
    · obtain ⟨y3, y4, ps, rfl, eL, hs, eB3, hf3, s3⟩ := hp
      have hi : i < fs.length := by
        have := (List.getElem?_eq_some_iff.mp hx).1
        rwa [List.length_map] at this
      have hx' : x = .ref fs[i] := by
        rw [List.getElem?_map, List.getElem?_eq_getElem hi] at hx
        exact (Option.some.inj hx).symm
      subst hx'
      obtain ⟨bs, hb1, hb2⟩ := awGet hf3 (List.getElem?_eq_getElem hi)
      obtain ⟨bl, bb⟩ := allB_ok m bs (List.mem_of_getElem? hb1)
      refine ⟨.ref R, rfl, .ref C, rfl, .ref fs[i], rfl, R, C, fs[i], m, o, ds, cs, bs, rfl, (Same.tups s3).row hrow, hok.deeds, by omega, s3 _ _ eC, hcl, hb2, by rw [bl], by omega, fun H4 T s4 nT eT => ?_⟩
      have tl : (bts ds cs bs).length = m + ds.length := by rw [bts_len hcl.symm, bl]
      have o0 := hok.o0
      have o1 := hok.o1
      refine ⟨.ref L, rfl, .inl ⟨rfl, _, .inl (.inl (s4 _ _ eL))⟩, .ref T, rfl, .ref R, rfl, R, _, 2, .int o, rfl, rfl, SqT.of (s4 _ _ (s3 _ _ eR)), rfl, T, _, o, _, rfl, rfl, SqT.of eT, atI_ints o0 (by omega), ?_⟩
      refine ⟨.ref R, rfl, .ref C, rfl, .ref T, rfl, R, C, T, m, o, ds, cs, _, rfl, (Same.tups (s3.trans s4)).row hrow, hok.deeds, by omega, s4 _ _ (s3 _ _ eC), hcl, eT, by rw [tl]; omega, fun H5 N s5 nN eN => ?_⟩
      refine ⟨by show 2 ≤ sizeLine; decide, fun p hp => ?_⟩
      have sp := same_new (o := .tup [.int ((bts ds cs bs).getD o.toNat 0), .ref N]) hp
      have s46 := (s4.trans s5).trans sp
      have eL6 := s46 _ _ eL
      have e1 : (stp m ds o cs)[i]? = some ((bts ds cs bs).getD o.toNat 0, nxt ds cs (bts ds cs bs)) := by
        unfold stp
        rw [List.getElem?_map, hb1]
        rfl
      have pl := awLen hs
      rw [List.length_take] at pl
      have tp := tups_put (o := .lst (ps.map V.ref ++ [V.ref p])) eL6
      refine ⟨L, _, _, rfl, rfl, eL6, ?_, some (.ref fs[i]), some (.ref T), ps ++ [p], rfl, ?_, ?_, ?_, ?_, ?_⟩
      · rw [List.length_map]
        exact small1000 (by omega)
      · rw [upd_same, List.map_append]
        rfl
      · rw [List.take_add_one, e1]
        exact stat_stay tp (awSnoc (F := fun (q : Addr) (e : Int × List Int) => ∃ c, (upd H5 p (.tup [.int ((bts ds cs bs).getD o.toNat 0), .ref N])) q = some (.tup [.int e.1, .ref c]) ∧ (upd H5 p (.tup [.int ((bts ds cs bs).getD o.toNat 0), .ref N])) c = some (.tup (e.2.map V.int))) ⟨N, upd_same, sp _ _ eN⟩ (stat_stay (Same.tups s46) hs))
      · rw [upd_ne nLB]
        exact s46 _ _ eB3
      · exact tat_stay tp (tat_stay (Same.tups s46) hf3)
      · exact old _ _ (s3.trans s46)
    · obtain ⟨y3, y4, ps, rfl, eL, hs, eB3, hf3, s3⟩ := hp
      rw [List.length_map, fl, ← stp_len m ds o cs, List.take_length] at hs
      exact ⟨.ref L, rfl, q _ L ps s3 hL eL hs⟩
/-! ### dicts by lists of ints -/
abbrev kI (c : List Int) : List Key := c.map Sum.inl
theorem kI_V (c : List Int) : (kI c).map kV = c.map V.int := by
  rw [List.map_map]
  rfl
theorem ints_inj : ∀ {a b : List Int}, a.map V.int = b.map V.int → a = b
  | [], [], _ => rfl
  | [], _ :: _, h => nomatch h
  | _ :: _, [], h => nomatch h
  | x :: a, y :: b, h => by
    rw [List.map_cons, List.map_cons, List.cons.injEq] at h
    rw [V.int.inj h.1, ints_inj h.2]
theorem kI_inj {a b : List Int} (h : kI a = kI b) : a = b := by
  have e := congrArg (List.map kV) h
  rw [kI_V, kI_V] at e
  exact ints_inj e
section tab
variable {α : Type}
def emb (f : α → V) (es : List (List Int × α)) : List (List Key × V) := es.map fun e => (kI e.1, f e.2)
def getA (es : List (List Int × α)) (c : List Int) : Option α := (es.find? fun e => decide (e.1 = c)).map (·.2)
def putA (es : List (List Int × α)) (c : List Int) (v : α) : List (List Int × α) := if c ∈ es.map (·.1) then es.map (fun e => if e.1 = c then (e.1, v) else e) else es ++ [(c, v)]
theorem emb_get (f : α → V) (c : List Int) : ∀ es : List (List Int × α), valV (emb f es) (kI c) = (getA es c).map f
  | [] => rfl
  | e :: es => by
    have ih := emb_get f c es
    unfold emb getA at *
    rw [List.map_cons, List.find?_cons]
    by_cases h : e.1 = c
    · rw [valV_pos (show (kI e.1, f e.2).1 = kI c by rw [h]), decide_eq_true h]
      rfl
    · rw [valV_neg (fun z => h (kI_inj z)), decide_eq_false h]
      exact ih
theorem getA_none {c : List Int} : ∀ {es : List (List Int × α)}, getA es c = none ↔ c ∉ es.map (·.1)
  | [] => by simp [getA]
  | e :: es => by
    have ih := getA_none (c := c) (es := es)
    unfold getA at *
    rw [List.find?_cons, List.map_cons, List.mem_cons, not_or]
    by_cases h : e.1 = c
    · simp [h]
    · rw [decide_eq_false h]
      exact ⟨fun z => ⟨fun y => h y.symm, ih.mp z⟩, fun z => ih.mpr z.2⟩
theorem getA_some {c : List Int} {v : α} {es : List (List Int × α)} (h : getA es c = some v) : (c, v) ∈ es := by
  unfold getA at h
  cases e : es.find? fun e => decide (e.1 = c) with
  | none => rw [e] at h; cases h
  | some p =>
    rw [e] at h
    have h1 := List.mem_of_find?_eq_some e
    have h2 : p.1 = c := of_decide_eq_true (List.find?_some (p := fun e : List Int × α => decide (e.1 = c)) e)
    obtain rfl : p.2 = v := Option.some.inj h
    rw [← h2]
    exact h1
theorem getA_of {c : List Int} {v : α} : ∀ {es : List (List Int × α)}, (es.map (·.1)).Nodup → (c, v) ∈ es → getA es c = some v
  | [], _, h => nomatch h
  | e :: es, nd, h => by
    rw [List.map_cons, List.nodup_cons] at nd
    unfold getA
    rw [List.find?_cons]
    rcases List.mem_cons.mp h with h | h
    · rw [← h]
      simp
    · have hne : ¬ e.1 = c := fun z => nd.1 (z ▸ List.mem_map.mpr ⟨_, h, rfl⟩)
      rw [decide_eq_false hne]
      exact getA_of nd.2 h
theorem emb_put (f : α → V) (es : List (List Int × α)) (c : List Int) (v : α) : putK (emb f es) (kI c) (f v) = emb f (putA es c v) := by
  unfold putK putA
  by_cases h : c ∈ es.map (·.1)
  · rw [if_pos h, if_pos]
    · unfold emb
      rw [List.map_map, List.map_map]
      apply List.map_congr_left
      intro e _
      show (if kI e.1 = kI c then (kI e.1, f v) else (kI e.1, f e.2)) = _
      by_cases he : e.1 = c
      · rw [if_pos (congrArg kI he)]
        simp [he]
      · rw [if_neg (fun z => he (kI_inj z))]
        simp [he]
    · rw [List.any_eq_true]
      obtain ⟨e, h1, h2⟩ := List.mem_map.mp h
      exact ⟨(kI e.1, f e.2), List.mem_map.mpr ⟨e, h1, rfl⟩, by simp [h2]⟩
  · rw [if_neg h, if_neg]
    · unfold emb
      rw [List.map_append]
      rfl
    · intro z
      rw [List.any_eq_true] at z
      obtain ⟨p, h1, h2⟩ := z
      obtain ⟨e, h3, rfl⟩ := List.mem_map.mp h1
      exact h (List.mem_map.mpr ⟨e, h3, kI_inj (of_decide_eq_true h2)⟩)
theorem putA_keys {es : List (List Int × α)} {c : List Int} {v : α} : (putA es c v).map (·.1) = if c ∈ es.map (·.1) then es.map (·.1) else es.map (·.1) ++ [c] := by
  unfold putA
  split
  · rw [List.map_map]
    apply List.map_congr_left
    intro e _
    show (if e.1 = c then (e.1, v) else e).1 = e.1
    split <;> rfl
  · rw [List.map_append]
    rfl
theorem putA_nodup {es : List (List Int × α)} {c : List Int} {v : α} (h : (es.map (·.1)).Nodup) : ((putA es c v).map (·.1)).Nodup := by
  rw [putA_keys]
  split
  · exact h
  · rename_i hn
    rw [List.nodup_append]
    refine ⟨h, by simp, fun a ha b hb => ?_⟩
    rw [List.mem_singleton.mp hb]
    exact fun z => hn (z ▸ ha)
theorem mem_putA {es : List (List Int × α)} {c : List Int} {v : α} {e : List Int × α} : e ∈ putA es c v ↔ e = (c, v) ∨ (e ∈ es ∧ e.1 ≠ c) := by
  unfold putA
  by_cases h : c ∈ es.map (·.1)
  · rw [if_pos h, List.mem_map]
    constructor
    · rintro ⟨a, h1, rfl⟩
      by_cases ha : a.1 = c
      · rw [if_pos ha, ha]
        exact .inl rfl
      · rw [if_neg ha]
        exact .inr ⟨h1, ha⟩
    · rintro (rfl | ⟨h1, h2⟩)
      · obtain ⟨a, h1, h2⟩ := List.mem_map.mp h
        exact ⟨a, h1, by rw [if_pos h2, h2]⟩
      · exact ⟨e, h1, if_neg h2⟩
  · rw [if_neg h, List.mem_append, List.mem_singleton]
    constructor
    · rintro (h1 | h1)
      · exact .inr ⟨h1, fun z => h (z ▸ List.mem_map.mpr ⟨e, h1, rfl⟩)⟩
      · exact .inl h1
    · rintro (h1 | h1)
      · exact .inr h1
      · exact .inl h1.1
end tab
/-- few: all keys are bits, as many as there are deeds -/
theorem few_keys {α : Type} {n : Nat} {es : List (List Int × α)} (nd : (es.map (·.1)).Nodup) (hb : ∀ e ∈ es, e.1.length = n ∧ ∀ x ∈ e.1, Bit x) (hn : n ≤ 8) : es.length ≤ 256 := by
  have h := pigeon (es.map (·.1)) (allB n) nd fun c hc => by
    obtain ⟨e, he, rfl⟩ := List.mem_map.mp hc
    exact allB_all n _ (hb e he).1 (hb e he).2
  rw [List.length_map, allB_len] at h
  exact Nat.le_trans h (Nat.le_trans (Nat.pow_le_pow_right (by decide) hn) (by decide))
/-! ### machines of all carries -/
/-- things come in the order in which they are first met -/
def FOrd {L : Type} (nx : L → List (Int × L)) (cs : List L) : Prop := ∀ (k : Nat) (c : L), 0 < k → cs[k]? = some c → ∃ (p t : Nat) (a : L) (s : Int × L), p < k ∧ cs[p]? = some a ∧ (nx a)[t]? = some s ∧ s.2 = c ∧
  ∀ (p' t' : Nat) (a' : L) (s' : Int × L), (p' < p ∨ p' = p ∧ t' < t) → cs[p']? = some a' → (nx a')[t']? = some s' → ∃ j, j < k ∧ cs[j]? = some s'.2
theorem FOrd.one {L : Type} {nx : L → List (Int × L)} {c : L} : FOrd nx [c] := fun k c' h1 h2 => by
  have := (List.getElem?_eq_some_iff.mp h2).1
  simp only [List.length_cons, List.length_nil] at this
  omega
theorem FOrd.push {L : Type} {nx : L → List (Int × L)} {cs : List L} (h : FOrd nx cs) {p t : Nat} {a : L} {s : Int × L} (hp : cs[p]? = some a) (hs : (nx a)[t]? = some s)
    (all : ∀ (p' t' : Nat) (a' : L) (s' : Int × L), (p' < p ∨ p' = p ∧ t' < t) → cs[p']? = some a' → (nx a')[t']? = some s' → ∃ j : Nat, cs[j]? = some s'.2) : FOrd nx (cs ++ [s.2]) := by
  have pl := (List.getElem?_eq_some_iff.mp hp).1
  have up : ∀ (i : Nat) (x : L), cs[i]? = some x → (cs ++ [s.2])[i]? = some x := fun i x e => by rw [List.getElem?_append_left (List.getElem?_eq_some_iff.mp e).1]; exact e
  have dn : ∀ (i : Nat) (x : L), i < cs.length → (cs ++ [s.2])[i]? = some x → cs[i]? = some x := fun i x hi e => by rwa [List.getElem?_append_left hi] at e
  intro k c hk hc
  by_cases hl : k < cs.length
  · obtain ⟨p1, t1, a1, s1, e1, e2, e3, e4, e5⟩ := h k c hk (dn k c hl hc)
    refine ⟨p1, t1, a1, s1, e1, up _ _ e2, e3, e4, fun p' t' a' s' h1 h2 h3 => ?_⟩
    obtain ⟨j, g1, g2⟩ := e5 p' t' a' s' h1 (dn p' a' (by omega) h2) h3
    exact ⟨j, g1, up _ _ g2⟩
  · have kl := (List.getElem?_eq_some_iff.mp hc).1
    rw [List.length_append] at kl
    simp only [List.length_cons, List.length_nil] at kl
    have ek : k = cs.length := by omega
    subst ek
    rw [List.getElem?_append_right (Nat.le_refl _), Nat.sub_self] at hc
    refine ⟨p, t, a, s, pl, up _ _ hp, hs, Option.some.inj hc, fun p' t' a' s' h1 h2 h3 => ?_⟩
    obtain ⟨j, g⟩ := all p' t' a' s' h1 (dn p' a' (by omega) h2) h3
    exact ⟨j, (List.getElem?_eq_some_iff.mp g).1, up _ _ g⟩
theorem nd_idx {L : Type} {cs : List L} (nd : cs.Nodup) {i j : Nat} {x : L} (h1 : cs[i]? = some x) (h2 : cs[j]? = some x) : i = j := by
  have l1 := (List.getElem?_eq_some_iff.mp h1).1
  exact (List.getElem?_inj l1 nd).mp (h1.trans h2.symm)
/-- there is one such order only -/
theorem ford_pre {L : Type} {nx : L → List (Int × L)} {cs cs' : List L} (nd : cs.Nodup) (nd' : cs'.Nodup) (h0 : cs[0]? = cs'[0]?) (f : FOrd nx cs) (f' : FOrd nx cs') :
    ∀ (n k : Nat) (c c' : L), k < n → cs[k]? = some c → cs'[k]? = some c' → c = c'
  | 0, _, _, _, h, _, _ => absurd h (Nat.not_lt_zero _)
  | n + 1, k, c, c', hk, e, e' => by
    have ih := ford_pre nd nd' h0 f f' n
    by_cases hz : k = 0
    · subst hz
      rw [e, e'] at h0
      exact Option.some.inj h0
    have kl := (List.getElem?_eq_some_iff.mp e).1
    have kl' := (List.getElem?_eq_some_iff.mp e').1
    have to : ∀ (j : Nat) (x : L), j < k → cs[j]? = some x → cs'[j]? = some x := fun j x hj ex => by
      have e2 : cs'[j]? = some cs'[j] := List.getElem?_eq_getElem (by omega)
      rw [e2, ih j x _ (by omega) ex e2]
    have fro : ∀ (j : Nat) (x : L), j < k → cs'[j]? = some x → cs[j]? = some x := fun j x hj ex => by
      have e2 : cs[j]? = some cs[j] := List.getElem?_eq_getElem (by omega)
      rw [e2, ih j _ x (by omega) e2 ex]
    obtain ⟨p, t, a, s, a1, a2, a3, a4, a5⟩ := f k c (by omega) e
    obtain ⟨q, u, b, r, b1, b2, b3, b4, b5⟩ := f' k c' (by omega) e'
    rcases Nat.lt_trichotomy p q with h | h | h
    · obtain ⟨j, g1, g2⟩ := b5 p t a s (.inl h) (to p a a1 a2) a3
      rw [a4] at g2
      have := nd_idx nd (fro j c g1 g2) e
      omega
    · subst h
      have hab := to p a a1 a2
      rw [b2] at hab
      obtain rfl := Option.some.inj hab
      rcases Nat.lt_trichotomy t u with h | h | h
      · obtain ⟨j, g1, g2⟩ := b5 p t b s (.inr ⟨rfl, h⟩) b2 a3
        rw [a4] at g2
        have := nd_idx nd (fro j c g1 g2) e
        omega
      · subst h
        rw [a3] at b3
        rw [← a4, ← b4, Option.some.inj b3]
      · obtain ⟨j, g1, g2⟩ := a5 p u b r (.inr ⟨rfl, h⟩) a2 b3
        rw [b4] at g2
        have := nd_idx nd' (to j c' g1 g2) e'
        omega
    · obtain ⟨j, g1, g2⟩ := a5 q u b r (.inl h) (fro q b b1 b2) b3
      rw [b4] at g2
      have := nd_idx nd' (to j c' g1 g2) e'
      omega
theorem ford_len {L : Type} {nx : L → List (Int × L)} {cs cs' : List L} (nd : cs.Nodup) (nd' : cs'.Nodup) (h0 : cs[0]? = cs'[0]?) (f : FOrd nx cs) (f' : FOrd nx cs') (cl : ∀ a ∈ cs, ∀ s ∈ nx a, s.2 ∈ cs) (pos : 0 < cs.length) : cs'.length ≤ cs.length := by
  apply Nat.le_of_not_lt
  intro hl
  have e' : cs'[cs.length]? = some cs'[cs.length] := List.getElem?_eq_getElem hl
  obtain ⟨p, t, a, s, a1, a2, a3, a4, _⟩ := f' _ _ pos e'
  have ep : cs[p]? = some cs[p] := List.getElem?_eq_getElem a1
  have := ford_pre nd nd' h0 f f' (p + 1) p _ _ (Nat.lt_succ_self _) ep a2
  have m1 := cl cs[p] (List.getElem_mem a1) s (by rw [this]; exact List.mem_of_getElem? a3)
  obtain ⟨j, hj⟩ := List.mem_iff_getElem?.mp m1
  have jl := (List.getElem?_eq_some_iff.mp hj).1
  have ej : cs'[j]? = some cs'[j] := List.getElem?_eq_getElem (by omega)
  have := ford_pre nd nd' h0 f f' (j + 1) j _ _ (Nat.lt_succ_self _) hj ej
  have h3 := nd_idx nd' (x := s.2) (by rw [ej, ← this]) (by rw [e', a4])
  omega
theorem ford_eq {L : Type} {nx : L → List (Int × L)} {cs cs' : List L} (nd : cs.Nodup) (nd' : cs'.Nodup) (h0 : cs[0]? = cs'[0]?) (f : FOrd nx cs) (f' : FOrd nx cs') (cl : ∀ a ∈ cs, ∀ s ∈ nx a, s.2 ∈ cs) (cl' : ∀ a ∈ cs', ∀ s ∈ nx a, s.2 ∈ cs') (pos : 0 < cs.length) (pos' : 0 < cs'.length) : cs = cs' := by
  have l1 := ford_len nd nd' h0 f f' cl pos
  have l2 := ford_len nd' nd h0.symm f' f cl' pos'
  refine List.ext_getElem (by omega) fun i h1 h2 => ?_
  exact ford_pre nd nd' h0 f f' (i + 1) i _ _ (Nat.lt_succ_self _) (List.getElem?_eq_getElem h1) (List.getElem?_eq_getElem h2)
abbrev MRow := List (Int × Int)
abbrev PrAt (H : Hp) : List Addr → MRow → Prop := Paired fun q e => H q = some (.tup [.int e.1, .int e.2])
theorem prat_stay {H H' : Hp} (t : TupsStay H H') {qs : List Addr} {r : MRow} (h : PrAt H qs r) : PrAt H' qs r := awMap (fun q e z => t _ _ z) h
def RowL (H : Hp) (l : Addr) (row : MRow) : Prop := ∃ qs, H l = some (.lst (qs.map V.ref)) ∧ PrAt H qs row
abbrev MacL (H : Hp) : List Addr → List MRow → Prop := Paired (RowL H)
theorem macl_stay {H H' : Hp} (t : TupsStay H H') : ∀ {ls : List Addr} {mac : List MRow}, (∀ l ∈ ls, ∀ xs, H l = some (.lst xs) → H' l = some (.lst xs)) → MacL H ls mac → MacL H' ls mac
  | _, _, _, .nil => .nil
  | _, _, k, .cons ⟨qs, h1, h2⟩ h => .cons ⟨qs, k _ List.mem_cons_self _ h1, prat_stay t h2⟩ (macl_stay t (fun l hl => k l (List.mem_cons_of_mem _ hl)) h)
def kC (c : List Int) : NestedKey := .tup (c.map .num)
theorem nums_inj : ∀ {a b : List Int}, a.map NestedKey.num = b.map NestedKey.num → a = b
  | [], [], _ => rfl
  | [], _ :: _, h => nomatch h
  | _ :: _, [], h => nomatch h
  | x :: a, y :: b, h => by
    rw [List.map_cons, List.map_cons, List.cons.injEq] at h
    rw [NestedKey.num.inj h.1, nums_inj h.2]
theorem kC_inj {a b : List Int} (h : kC a = kC b) : a = b := nums_inj (NestedKey.tup.inj h)
theorem nums_depth : ∀ c : List Int, NestedKey.depthAll (c.map .num) = 0
  | [] => by simp [NestedKey.depthAll]
  | x :: c => by simp [NestedKey.depthAll, NestedKey.depth, nums_depth c]
theorem kC_depth (c : List Int) : (kC c).depth ≤ 8 := by
  unfold kC
  simp [NestedKey.depth, nums_depth c]
theorem nks_ints (H : Hp) : ∀ c : List Int, NkAll H (c.map .num) (c.map V.int)
  | [] => .nil
  | x :: c => .cons (.num x) (nks_ints H c)
theorem nks_eq {H : Hp} : ∀ {c : List Int} {xs : List V}, NkAll H (c.map .num) xs → xs = c.map V.int
  | [], _, h => by
    cases h
    rfl
  | x :: c, _, h => by
    cases h with
    | cons h1 h2 =>
      cases h1
      rw [nks_eq h2]
      rfl
theorem keyC {H : Hp} {b : Addr} {c : List Int} (h : H b = some (.tup (c.map V.int))) : KeyN H (.ref b) (kC c) := ⟨.tup h (nks_ints H c), kC_depth c, b, rfl⟩
theorem keyC_tup {H : Hp} {b : Addr} {c : List Int} (h : KeyN H (.ref b) (kC c)) : H b = some (.tup (c.map V.int)) := by
  obtain ⟨h1, _⟩ := h
  unfold kC at h1
  cases h1 with
  | tup e hs =>
    rw [nks_eq hs] at e
    exact e
/-- a row of the machine of all carries -/
abbrev RowM (cs : List (List Int)) : MRow → List (Int × List Int) → Prop := Paired fun e s => e.1 = s.1 ∧ ∃ j : Nat, e.2 = (j : Int) ∧ cs[j]? = some s.2
structure WM (m : Nat) (ds : List Deed) (o : Int) (cs : List (List Int)) (mac : List MRow) : Prop where
  nd : cs.Nodup
  first : cs[0]? = some (ds.map fcD)
  bits : ∀ c ∈ cs, c.length = ds.length ∧ ∀ x ∈ c, Bit x
  each : ∀ (i : Nat) row, mac[i]? = some row → ∃ c, cs[i]? = some c ∧ RowM cs row (stp m ds o c)
  fo : FOrd (stp m ds o) cs
theorem few_cs {n : Nat} {cs : List (List Int)} (nd : cs.Nodup) (hb : ∀ c ∈ cs, c.length = n ∧ ∀ x ∈ c, Bit x) (hn : n ≤ 8) : cs.length ≤ 256 := by
  have h := pigeon cs (allB n) nd fun c hc => allB_all n _ (hb c hc).1 (hb c hc).2
  rw [allB_len] at h
  exact Nat.le_trans h (Nat.le_trans (Nat.pow_le_pow_right (by decide) hn) (by decide))
theorem keys_nd {cs : List (List Int)} {ts : List WT} (h : (ts.map (·.1)).Nodup) (e : ts.map (·.1) = cs.map kC) : cs.Nodup := by
  rw [e] at h
  exact List.Pairwise.imp (fun {a b} z y => z (congrArg kC y)) (List.pairwise_map.mp h)
theorem keys_at {cs : List (List Int)} {ts : List WT} (e : ts.map (·.1) = cs.map kC) {i : Nat} {t : WT} (h : ts[i]? = some t) : ∃ c, cs[i]? = some c ∧ t.1 = kC c := by
  have h1 : (ts.map (·.1))[i]? = some t.1 := by rw [List.getElem?_map, h]; rfl
  rw [e, List.getElem?_map] at h1
  cases hc : cs[i]? with
  | none => rw [hc] at h1; cases h1
  | some c => rw [hc] at h1; exact ⟨c, rfl, (Option.some.inj h1).symm⟩
theorem keys_len {cs : List (List Int)} {ts : List WT} (e : ts.map (·.1) = cs.map kC) : ts.length = cs.length := by
  have := congrArg List.length e
  rwa [List.length_map, List.length_map] at this
def spWh : Sp := fun vs H Q _ => ∃ (R : Addr) (m : Nat) (o : Int) (ds : List Deed), vs = [.ref R] ∧ RowAt H R m ds o ∧ RowOk m ds o ∧
  ∀ H' p ls cs mac, Same H H' → H p = none → H' p = some (.lst (ls.map V.ref)) → MacL H' ls mac → WM m ds o cs mac → mac.length = cs.length → Q (.ref p) H'
theorem ok_wh {f fA fF fS fI fM C : Addr} {fd fdA fdF fdS fdI fdM : FuncData} {k : Nat} (F : Fun K "whole_machine" "whole_machine" s_whole_machine f fd) (T : WCls K mg C)
    (GA : FnOk P w K mg base CX0 (k + 1) fA fdA ["many"] spAll) (kA : PySem.W.keepIn K (.ref fA) = true) (bA : Binds K fdA ["many"] []) (gA : mg "all_bits" = some (.ref fA))
    (GF : FnOk P w K mg base CX0 (k + 1) fF fdF ["row"] spFc) (kF : PySem.W.keepIn K (.ref fF) = true) (bF : Binds K fdF ["row"] []) (gF : mg "first_carry" = some (.ref fF))
    (GS : FnOk P w K mg base CX0 (k + 4) fS fdS ["row", "carry"] spSt) (kS : PySem.W.keepIn K (.ref fS) = true) (bS : Binds K fdS ["row", "carry"] []) (gS : mg "steps" = some (.ref fS))
    (MK : Mk K C fI) (GI : FnOk P w K mg base CX0 (k + 1) fI fdI ["self", "first"] (spWi P w C)) (bI : Binds K fdI ["self", "first"] [])
    (MM : Meth K C "meet" fM) (GM : FnOk P w K mg base CX0 (k + 1) fM fdM ["self", "thing", "ahead", "bits"] (spWm P w C)) (bM : Binds K fdM ["self", "thing", "ahead", "bits"] [])
    (mn : mg "len" = none) (mz : mg "zip" = none) : FnOk P w K mg base CX0 (k + 5) f fd ["row"] spWh := by
  refine F.ok sc_whole_machine (fun vs H Q E h => ?_) (fun cdv A outer s H vs Q E hr h => ?_)
  · obtain ⟨R, m, o, ds, rfl, _⟩ := h
    rfl
  · obtain ⟨R, m, o, ds, rfl, hrow, hok, q⟩ := h
    obtain ⟨D, rs, eR, eD, hd⟩ := id hrow
    have r1 := hr.mono (show k + 1 ≤ k + 4 by omega)
    have r2 := hr.mono (show k + 1 + 1 ≤ k + 4 by omega)
    refine ⟨_, pss_cons (ps_set (i := 1) sc_whole_machine.nd rfl (.inl rfl) (pe_call GA r1 (by rfl) gA kA bA .nil pass0 (pa_cons (pe_ix ix_tup (pv 0) pe_int (fun _ _ => rfl)) pa_nil)))
      (pss_cons (ps_set (i := 2) sc_whole_machine.nd rfl (.inl rfl) (pe_make MK GI r2 (by rfl) T.mgC bI .nil pass0 (pa_cons (pe_call GF r1 (by rfl) gF kF bF .nil pass0 (pa_cons (pv 0) pa_nil)) pa_nil)))
      (pss_cons (ps_set (i := 3) sc_whole_machine.nd rfl (.inl rfl) (pe_lst pa_nil))
      (pss_cons (ps_while PassesOwn.never (pt_cmpR op_lt (pe_callB call_len_seq (by rfl) mn PySem.boot_len (pa_cons (pv 3) pa_nil)) (pe_callB call_len_seq (by rfl) mn PySem.boot_len (pa_cons (pe_fld (pv 2) rfl) pa_nil)) (nomark _))
        (pss_cons (ps_set (i := 4) sc_whole_machine.nd rfl (.inl rfl) (pe_callB call_len_seq (by rfl) mn PySem.boot_len (pa_cons (pv 3) pa_nil)))
        (pss_cons (ps_set (i := 5) sc_whole_machine.nd rfl (.inl rfl) (pe_ix ix_list (pe_fld (pv 2) rfl) (pv 4) (fun _ _ => rfl)))
        (pss_cons (ps_set (i := 6) sc_whole_machine.nd rfl (.inl rfl) (pe_lst pa_nil))
        (pss_cons (ps_for PassesOwn.never rfl (pi_zip (by rfl) mz (pa_cons (pv 1) (pa_cons (pe_call GS hr (by rfl) gS kS bS .nil pass0 (pa_cons (pv 0) (pa_cons (pv 5) pa_nil))) pa_nil))) (pg_tup rfl (pgs_cons (pg_name (i := 7) sc_whole_machine.nd rfl (.inl rfl)) (pgs_cons (pg_tup rfl (pgs_cons (pg_name (i := 8) sc_whole_machine.nd rfl (.inl rfl)) (pgs_cons (pg_name (i := 9) sc_whole_machine.nd rfl (.inl rfl)) pgs_nil))) pgs_nil)))
          (pss_one (ps_expr (pe_bm PySem.F.plainAttrs_list PySem.F.slot_list_append PySem.F.type_list_append mt_append (pv 6) (pa_cons (pe_tup (pa_cons (pv 8) (pa_cons (pe_meth (pv 2) T.cl MM GM r1 bM .nil pass0 (pa_cons (pv 9) (pa_cons (pv 4) (pa_cons (pv 7) pa_nil)))) pa_nil))) pa_nil)))))
        (pss_one (ps_expr (pe_bm PySem.F.plainAttrs_list PySem.F.slot_list_append PySem.F.type_list_append mt_append (pv 3) (pa_cons (pv 6) pa_nil)))))))))
      (pss_one (ps_ret (pv 3)))))), ?_⟩
    have l8 := hok.len
    have m3 := hok.m3
    refine ⟨.ref R, rfl, R, _, 0, .int m, rfl, rfl, SqT.of eR, rfl, m, rfl, by omega, fun H1 Ch fs s1 nCh eCh hf => ?_⟩
    have fl : fs.length = 2 ^ m := by rw [awLen hf, allB_len]
    refine ⟨.ref R, rfl, R, m, o, ds, rfl, (Same.tups s1).row hrow, by omega, fun H2 Fi s2 nFi eFi => ?_⟩
    intro Wk dx nWk ndx nex
    have tW : TupsStay H2 (upd (upd H2 dx (.own Wk)) Wk (.ins C dx [])) := fun c xs e => by
      rw [upd_ne (ne_of_none e nWk), upd_ne (ne_of_none e ndx)]
      exact e
    have kW : ∀ c u, H2 c = some u → upd (upd H2 dx (.own Wk)) Wk (.ins C dx []) c = some u := fun c u e => by
      rw [upd_ne (ne_of_none e nWk), upd_ne (ne_of_none e ndx)]
      exact e
    refine ⟨Wk, dx, Fi, kC (ds.map fcD), rfl, upd_same, keyC (tW _ _ eFi), fun H3 M N W hw nM nN nW kp => ⟨rfl, ?_⟩⟩
    have s3 : Same H2 H3 := fun c u e => kp c u (ne_of_none e nWk) (kW c u e)
    have s13 := (s1.trans s2).trans s3
    have back : ∀ a : Addr, upd (upd H2 dx (.own Wk)) Wk (.ins C dx []) a = none → H2 a = none := fun a h => by
      cases e : H2 a with
      | none => rfl
      | some u => rw [kW a u e] at h; cases h
    have hM2 := back _ nM
    have hN2 := back _ nN
    have hW2 := back _ nW
    have hM0 : H M = none := (s1.trans s2).free hM2
    have hN0 : H N = none := (s1.trans s2).free hN2
    have hW0 : H W = none := (s1.trans s2).free hW2
    have eCh2 := s2 _ _ eCh
    have nChM : Ch ≠ M := ne_of_none eCh2 hM2
    have nChN : Ch ≠ N := ne_of_none eCh2 hN2
    have nChW : Ch ≠ W := ne_of_none eCh2 hW2
    refine ⟨Nat.zero_le _, fun Mc hMc => ?_⟩
    have sMc := same_new (o := .lst []) hMc
    have nMM : Mc ≠ M := fun z => by rw [z, hw.met] at hMc; cases hMc
    have nMN : Mc ≠ N := fun z => by rw [z, hw.num.ob] at hMc; cases hMc
    have nMW : Mc ≠ W := fun z => by obtain ⟨ws, e, _⟩ := hw.ways; rw [z, e] at hMc; cases hMc
    have nMCh : Mc ≠ Ch := fun z => by rw [z, s3 _ _ eCh2] at hMc; cases hMc
    have hMc0 : H Mc = none := s13.free hMc
    refine ⟨fun n σ H4 => ∃ y4 y5 y6 y7 y8 y9 cs ts wy ls mac, σ = [some (.ref R), some (.ref Ch), some (.ref Wk), some (.ref Mc), y4, y5, y6, y7, y8, y9] ∧ WalkAt P w C H4 Wk M N W ts wy ∧ ts.map (·.1) = cs.map kC ∧ WM m ds o cs mac ∧ mac.length ≤ cs.length ∧ H4 Mc = some (.lst (ls.map V.ref)) ∧ MacL H4 ls mac ∧ (∀ l ∈ ls, l ≠ M ∧ l ≠ N ∧ l ≠ W ∧ l ≠ Mc) ∧ H4 Ch = some (.lst (fs.map V.ref)) ∧ TAt H4 fs (allB m) ∧ Same H H4 ∧ n = 257 - mac.length,
      ⟨_, none, none, none, none, none, none, [ds.map fcD], [(kC (ds.map fcD), Fi)], [(0, [])], [], [], rfl, hw.same sMc, rfl, ⟨by simp, rfl, fun c hc => ?_, fun i row h => by simp at h, FOrd.one⟩, Nat.zero_le _, upd_same, .nil, (fun _ z => nomatch z), sMc _ _ (s3 _ _ eCh2), tat_stay (Same.tups ((s2.trans s3).trans sMc)) hf, s13.trans sMc, rfl⟩, fun n σ H4 hp => ?_⟩
    · rw [List.mem_singleton.mp hc]
      have sh := shp_first ds
      exact ⟨sh.len, sh.bits⟩
    obtain ⟨y4, y5, y6, y7, y8, y9, cs, ts, wy, ls, mac, rfl, hw4, ek, wm, ml, eMc, hmac, lsne, eCh4, hf4, s4, rfl⟩ := hp
    obtain ⟨dxw, ob4⟩ := hw4.ob
    have csl := keys_len ek
    have few := few_cs wm.nd wm.bits l8
    have mll := awLen hmac
    refine ⟨.ref Mc, rfl, Mc, _, rfl, .inl (.inl (.inl eMc)), .ref Wk, rfl, Wk, C, dxw, _, _, rfl, ob4, T.cl, T.nM, wF_met _ _ _, M, _, rfl, .inl (.inl (.inl hw4.met)), _, _, rfl, rfl, _, rfl, ite2 (fun e => ?_) (fun e => ?_)⟩
    · have lt : mac.length < cs.length := by
        have := of_decide_eq_true e
        rw [List.length_map, List.length_map] at this
        omega
      refine ⟨fun σ' H' => ∃ m', m' < 257 - mac.length ∧ (∃ y4 y5 y6 y7 y8 y9 cs ts wy ls mac, σ' = [some (.ref R), some (.ref Ch), some (.ref Wk), some (.ref Mc), y4, y5, y6, y7, y8, y9] ∧ WalkAt P w C H' Wk M N W ts wy ∧ ts.map (·.1) = cs.map kC ∧ WM m ds o cs mac ∧ mac.length ≤ cs.length ∧ H' Mc = some (.lst (ls.map V.ref)) ∧ MacL H' ls mac ∧ (∀ l ∈ ls, l ≠ M ∧ l ≠ N ∧ l ≠ W ∧ l ≠ Mc) ∧ H' Ch = some (.lst (fs.map V.ref)) ∧ TAt H' fs (allB m) ∧ Same H H' ∧ m' = 257 - mac.length), fun σ' H' z => z, ?_⟩
      have lenI : ((ls.map V.ref).length : Int) = ((mac.length : Nat) : Int) := by rw [List.length_map, mll]
      refine ⟨.ref Mc, rfl, Mc, _, rfl, .inl (.inl (.inl eMc)), ?_⟩
      rw [lenI]
      have hti : mac.length < ts.length := by omega
      obtain ⟨c0, hc0, ht1⟩ := keys_at ek (List.getElem?_eq_getElem hti)
      have hkey := hw4.keys _ (List.getElem_mem hti)
      rw [ht1] at hkey
      have ecb := keyC_tup hkey
      obtain ⟨c0l, c0b⟩ := wm.bits c0 (List.mem_of_getElem? hc0)
      refine ⟨.ref Wk, rfl, Wk, C, dxw, _, _, rfl, ob4, T.cl, T.nM, wF_met _ _ _, .int _, rfl, M, _, _, .ref (ts[mac.length]).2, rfl, rfl, .inl (.inl hw4.met), atI_nat (by rw [List.getElem?_map, List.getElem?_eq_getElem hti]; rfl), ?_⟩
      generalize (ts[mac.length]).2 = cb at ecb
      refine ⟨Nat.zero_le _, fun St hSt => ?_⟩
      have sSt := same_new (o := .lst []) hSt
      have nSM : St ≠ M := fun z => by rw [z, hw4.met] at hSt; cases hSt
      have nSN : St ≠ N := fun z => by rw [z, hw4.num.ob] at hSt; cases hSt
      have nSW : St ≠ W := fun z => by obtain ⟨ws, e, _⟩ := hw4.ways; rw [z, e] at hSt; cases hSt
      have nSMc : St ≠ Mc := fun z => by rw [z, eMc] at hSt; cases hSt
      have nSCh : St ≠ Ch := fun z => by rw [z, eCh4] at hSt; cases hSt
      have nSWk : St ≠ Wk := fun z => by rw [z, ob4] at hSt; cases hSt
      have nSls : ∀ l ∈ ls, l ≠ St := fun l hl z => by
        obtain ⟨i, hi⟩ := List.mem_iff_getElem?.mp hl
        obtain ⟨row, _, qs, h1, _⟩ := awGet hmac hi
        rw [z, hSt] at h1
        cases h1
      have hSt0 : H St = none := s4.free hSt
      refine ⟨.ref Ch, rfl, .ref R, rfl, .ref cb, rfl, R, cb, m, o, ds, c0, rfl, (Same.tups (s4.trans sSt)).row hrow, hok, sSt _ _ ecb, c0l, fun H5 Sp ps s5 nSp eSp hps => ?_⟩
      have s45 := sSt.trans s5
      have psl : ps.length = 2 ^ m := by rw [awLen hps, stp_len]
      have nSpM : Sp ≠ M := fun z => by rw [z, sSt _ _ hw4.met] at nSp; cases nSp
      have nSpN : Sp ≠ N := fun z => by rw [z, sSt _ _ hw4.num.ob] at nSp; cases nSp
      have nSpW : Sp ≠ W := fun z => by obtain ⟨ws, e, _⟩ := hw4.ways; rw [z, sSt _ _ e] at nSp; cases nSp
      have nSpS : Sp ≠ St := fun z => by rw [z, upd_same] at nSp; cases nSp
      have eCh5 := s45 _ _ eCh4
      have p8 : 2 ^ m ≤ 8 := Nat.le_trans (Nat.pow_le_pow_right (by decide) (show m ≤ 3 by omega)) (by decide)
      refine ⟨Ch, Sp, _, _, rfl, .inl (.inl eCh5), .inl (.inl eSp), for_it (walk_zip (K := K) (a := Ch) (b := Sp) (xs := fs.map V.ref) (ys := ps.map V.ref) (n := 2 ^ m) (by rw [List.length_map, List.length_map, fl, psl, Nat.min_self])) (fun j σ H6 => ∃ y7 y8 y9 cs' ts' wy' qs row, σ = [some (.ref R), some (.ref Ch), some (.ref Wk), some (.ref Mc), some (.int ((mac.length : Nat) : Int)), some (.ref cb), some (.ref St), y7, y8, y9] ∧ WalkAt P w C H6 Wk M N W ts' wy' ∧ ts'.map (·.1) = cs'.map kC ∧ (∀ (i : Nat) c, cs[i]? = some c → cs'[i]? = some c) ∧ (∀ c ∈ cs', c.length = ds.length ∧ ∀ x ∈ c, Bit x) ∧ FOrd (stp m ds o) cs' ∧ H6 St = some (.lst (qs.map V.ref)) ∧ PrAt H6 qs row ∧ RowM cs' row ((stp m ds o c0).take j) ∧ ∀ b u, b ≠ M → b ≠ N → b ≠ W → b ≠ St → H5 b = some u → H6 b = some u)
        ⟨y7, y8, y9, cs, ts, wy, [], [], rfl, hw4.same s45, ek, fun _ _ z => z, wm.bits, wm.fo, s5 _ _ upd_same, .nil, .nil, fun _ _ _ _ _ _ z => z⟩ (fun j σ H6 _ hp => ?_) (fun j x σ H6 H7 hj hp hy => ?_) (fun σ H6 hp => ?_)⟩
      · obtain ⟨_, _, _, _, _, _, _, _, _, _, _, _, _, _, _, _, _, st⟩ := hp
        exact ⟨.inl (.inl (st _ _ nChM nChN nChW nSCh.symm eCh5)), .inl (.inl (st _ _ nSpM nSpN nSpW nSpS eSp))⟩
      · obtain ⟨y7, y8, y9, cs', ts', wy', qs, row, rfl, hw6, ek6, pre, bit6, fo6, eSt6, hpr, hrm, st⟩ := hp
        obtain ⟨U, x1, x2, rfl, hU, rfl, g1, g2⟩ := hy
        have tup5 : ∀ b xs, H5 b = some (.tup xs) → H6 b = some (.tup xs) := fun b xs e => st b _ (ne_of e (s45 _ _ hw4.met) (fun y => nomatch y)) (ne_of e (s45 _ _ hw4.num.ob) (fun y => nomatch y)) (by obtain ⟨ws, e2, _⟩ := hw4.ways; exact ne_of e (s45 _ _ e2) (fun y => nomatch y)) (ne_of e (s5 _ _ upd_same) (fun y => nomatch y)) e
        have hjf : j < fs.length := by omega
        have hjp : j < ps.length := by omega
        have e1 : x1 = .ref fs[j] := by
          have g1' : (fs.map V.ref)[j]? = some x1 := g1
          rw [List.getElem?_map, List.getElem?_eq_getElem hjf] at g1'
          exact (Option.some.inj g1').symm
        have e2 : x2 = .ref ps[j] := by
          have g2' : (ps.map V.ref)[j]? = some x2 := g2
          rw [List.getElem?_map, List.getElem?_eq_getElem hjp] at g2'
          exact (Option.some.inj g2').symm
        subst e1 e2
        obtain ⟨bs, hb1, hb2⟩ := awGet hf4 (List.getElem?_eq_getElem hjf)
        obtain ⟨sb, hs1, ac, hs2, hs3⟩ := awGet hps (List.getElem?_eq_getElem hjp)
        have sU := same_new (o := .tup [.ref fs[j], .ref ps[j]]) hU
        have eb7 := sU _ _ (tup5 _ _ (s45 _ _ hb2))
        have e27 := sU _ _ (tup5 _ _ hs2)
        have e37 := sU _ _ (tup5 _ _ hs3)
        refine ⟨U, [.ref fs[j], .ref ps[j]], rfl, .inl (.inl upd_same), rfl, .ref fs[j], [.ref ps[j]], rfl, .ref ps[j], [], rfl, ps[j], [.int sb.1, .ref ac], rfl, .inl (.inl e27), rfl, .int sb.1, [.ref ac], rfl, .ref ac, [], rfl, rfl, rfl, ?_⟩
        have nUs : U ≠ St := fun z => by rw [z, eSt6] at hU; cases hU
        obtain ⟨dx6, ob6⟩ := hw6.ob
        have hw7 := hw6.same sU
        have l6 := keys_len ek6
        have few6 := few_cs (keys_nd hw6.nd ek6) bit6 l8
        refine ⟨.ref St, rfl, .inl ⟨rfl, _, .inl (.inl (sU _ _ eSt6))⟩, .int sb.1, rfl, .ref Wk, rfl, Wk, dx6, _, rfl, sU _ _ ob6, wF_meet _ _ _, .ref ac, rfl, .int ((mac.length : Nat) : Int), rfl, .ref fs[j], rfl, Wk, M, N, W, ac, fs[j], ts', wy', kC sb.2, ((mac.length : Nat) : Int), bs, rfl, hw7, keyC e37, eb7, by omega, fun H8 ts2 wy2 ix hw8 hix hcase kp8 => ?_⟩
        refine ⟨by show 2 ≤ sizeLine; decide, fun Pq hPq => ?_⟩
        have sP := same_new (o := .tup [.int sb.1, .int ((ix : Nat) : Int)]) hPq
        have eSt8 := kp8 _ _ nSM nSN nSW (sU _ _ eSt6)
        have hrl := awLen hpr
        have hrl2 := awLen hrm
        rw [List.length_take, stp_len] at hrl2
        have s8t : TupsStay H6 (upd H8 Pq (.tup [.int sb.1, .int ((ix : Nat) : Int)])) := fun b xs e => by
          have e7 := sU _ _ e
          obtain ⟨ws7, ew7, _⟩ := hw7.ways
          exact sP _ _ (kp8 b _ (ne_of e7 hw7.met (fun y => nomatch y)) (ne_of e7 hw7.num.ob (fun y => nomatch y)) (ne_of e7 ew7 (fun y => nomatch y)) e7)
        have nPS : Pq ≠ St := fun z => by rw [z, eSt8] at hPq; cases hPq
        have eSt9 := sP _ _ eSt8
        have tS := tups_put (o := .lst (qs.map V.ref ++ [V.ref Pq])) eSt9
        -- the carries so far
        obtain ⟨cs2, ek2, pre2, bit2, fo2, hcx⟩ : ∃ cs2 : List (List Int), ts2.map (·.1) = cs2.map kC ∧ (∀ (i : Nat) c, cs'[i]? = some c → cs2[i]? = some c) ∧ (∀ c ∈ cs2, c.length = ds.length ∧ ∀ x ∈ c, Bit x) ∧ FOrd (stp m ds o) cs2 ∧ cs2[ix]? = some sb.2 := by
          obtain ⟨b', hb'⟩ := hix
          rcases hcase with ⟨rfl, rfl⟩ | ⟨rfl, rfl, rfl, _⟩
          · obtain ⟨c, hc, ec⟩ := keys_at ek6 hb'
            exact ⟨cs', ek6, fun _ _ z => z, bit6, fo6, by rw [hc, kC_inj ec]⟩
          · refine ⟨cs' ++ [sb.2], by rw [List.map_append, List.map_append, ek6]; rfl, fun i c z => ?_, fun c hc => ?_, fo6.push (pre _ _ hc0) hs1 fun p' t' a' s' g1 g2 g3 => ?_, ?_⟩
            · rw [List.getElem?_append_left (List.getElem?_eq_some_iff.mp z).1]
              exact z
            · rcases List.mem_append.mp hc with hc | hc
              · exact bit6 c hc
              · rw [List.mem_singleton.mp hc]
                obtain ⟨bs', h1, e⟩ := List.mem_map.mp (List.mem_of_getElem? hs1)
                rw [← e]
                exact ⟨nxt_len c0l.symm, nxt_bits (bts_bits (allB_ok m bs' h1).2 c0b) c0b⟩
            · rcases g1 with g1 | ⟨rfl, g1⟩
              · obtain ⟨c, w1, w2⟩ := wm.each p' _ (List.getElem?_eq_getElem g1)
                have w3 := pre _ _ w1
                rw [g2] at w3
                obtain rfl := Option.some.inj w3
                obtain ⟨e, _, _, j', _, w6⟩ := awGet2 w2 g3
                exact ⟨j', pre _ _ w6⟩
              · have w3 := pre _ _ hc0
                rw [g2] at w3
                obtain rfl := Option.some.inj w3
                obtain ⟨e, _, _, j', _, w6⟩ := awGet2 hrm (show (List.take j (stp m ds o a'))[t']? = some s' by rw [List.getElem?_take_of_lt g1]; exact g3)
                exact ⟨j', w6⟩
            · rw [l6, List.getElem?_append_right (Nat.le_refl _), Nat.sub_self]
              rfl
        refine ⟨St, _, _, rfl, rfl, eSt9, ?_, _, _, _, cs2, ts2, wy2, qs ++ [Pq], row ++ [(sb.1, ((ix : Nat) : Int))], rfl, ?_, ek2, fun i c z => pre2 i c (pre i c z), bit2, fo2, ?_, ?_, ?_, ?_⟩
        · rw [List.length_map]
          exact small1000 (by omega)
        · refine (hw8.same sP).stay tS fun c u hc e => ?_
          rw [upd_ne ?_]
          · exact e
          · rcases hc with rfl | rfl | rfl | rfl
            · exact nSWk.symm
            · exact nSM.symm
            · exact nSN.symm
            · exact nSW.symm
        · rw [upd_same, List.map_append]
          rfl
        · exact awSnoc (F := fun (q : Addr) (e : Int × Int) => (upd (upd H8 Pq (.tup [.int sb.1, .int ((ix : Nat) : Int)])) St (.lst (qs.map V.ref ++ [V.ref Pq]))) q = some (.tup [.int e.1, .int e.2])) (tS _ _ upd_same) (prat_stay tS (prat_stay s8t hpr))
        · rw [List.take_add_one, hs1]
          exact awSnoc (F := fun (e : Int × Int) (s : Int × List Int) => e.1 = s.1 ∧ ∃ j : Nat, e.2 = (j : Int) ∧ cs2[j]? = some s.2) ⟨rfl, ix, rfl, hcx⟩ (awMap (fun e s z => ⟨z.1, z.2.elim fun i y => ⟨i, y.1, pre2 i _ y.2⟩⟩) hrm)
        · intro b u n1 n2 n3 n4 e
          rw [upd_ne n4]
          exact sP _ _ (kp8 b u n1 n2 n3 (sU _ _ (st b u n1 n2 n3 n4 e)))
      · obtain ⟨y7, y8, y9, cs', ts', wy', qs, row, rfl, hw6, ek6, pre, bit6, fo6, eSt6, hpr, hrm, st⟩ := hp
        rw [← stp_len m ds o c0, List.take_length] at hrm
        have eMc6 := st _ _ nMM nMN nMW nSMc.symm (s45 _ _ eMc)
        have tup5 : TupsStay H5 H6 := fun b xs e => st b _ (ne_of e (s45 _ _ hw4.met) (fun y => nomatch y)) (ne_of e (s45 _ _ hw4.num.ob) (fun y => nomatch y)) (by obtain ⟨ws, e2, _⟩ := hw4.ways; exact ne_of e (s45 _ _ e2) (fun y => nomatch y)) (ne_of e (s5 _ _ upd_same) (fun y => nomatch y)) e
        have t46 : TupsStay H4 H6 := (Same.tups s45).trans tup5
        have tM := tups_put (o := .lst (ls.map V.ref ++ [V.ref St])) eMc6
        refine ⟨.ref Mc, rfl, .inl ⟨rfl, _, .inl (.inl eMc6)⟩, .ref St, rfl, Mc, _, _, rfl, rfl, eMc6, ?_, _, ?_, _, _, _, _, _, _, cs', ts', wy', ls ++ [St], mac ++ [row], rfl, ?_, ek6, ⟨keys_nd hw6.nd ek6, pre _ _ wm.first, bit6, fun i r hi => ?_, fo6⟩, ?_, ?_, ?_, fun l hl => ?_, ?_, tat_stay tM (tat_stay t46 hf4), ?_, rfl⟩
        · rw [List.length_map]
          exact small1000 (by omega)
        · rw [List.length_append]
          show 257 - (mac.length + 1) < 257 - mac.length
          omega
        · refine hw6.stay tM fun c u hc e => ?_
          rw [upd_ne ?_]
          · exact e
          · obtain ⟨dx6, ob6⟩ := hw6.ob
            rcases hc with rfl | rfl | rfl | rfl
            · exact ne_of ob6 eMc6 (fun y => nomatch y)
            · exact nMM.symm
            · exact nMN.symm
            · exact nMW.symm
        · by_cases hil : i < mac.length
          · rw [List.getElem?_append_left hil] at hi
            obtain ⟨c, h1, h2⟩ := wm.each i r hi
            exact ⟨c, pre _ _ h1, awMap (fun e s z => ⟨z.1, z.2.elim fun i y => ⟨i, y.1, pre i _ y.2⟩⟩) h2⟩
          · rw [List.getElem?_append_right (by omega)] at hi
            have hi2 := (List.getElem?_eq_some_iff.mp hi).1
            simp only [List.length_cons, List.length_nil] at hi2
            have ei : i = mac.length := by omega
            subst ei
            rw [Nat.sub_self] at hi
            obtain rfl := Option.some.inj hi
            exact ⟨c0, pre _ _ hc0, hrm⟩
        · rw [List.length_append]
          have h1 := (List.getElem?_eq_some_iff.mp (pre _ _ hc0)).1
          show mac.length + 1 ≤ cs'.length
          omega
        · rw [upd_same, List.map_append]
          rfl
        · refine awSnoc (F := RowL (upd H6 Mc (.lst (ls.map V.ref ++ [V.ref St])))) ⟨qs, ?_, prat_stay tM hpr⟩ (macl_stay (t46.trans tM) (fun l hl xs e => ?_) hmac)
          · rw [upd_ne nSMc]
            exact eSt6
          · obtain ⟨l1, l2, l3, l4⟩ := lsne l hl
            rw [upd_ne l4]
            exact st _ _ l1 l2 l3 (nSls l hl) (s45 _ _ e)
        · rcases List.mem_append.mp hl with hl | hl
          · exact lsne l hl
          · rw [List.mem_singleton.mp hl]
            exact ⟨nSM, nSN, nSW, nSMc⟩
        · rw [upd_ne nMCh.symm]
          exact st _ _ nChM nChN nChW nSCh.symm eCh5
        · intro b u e
          have e5 := s45 _ _ (s4 b u e)
          rw [upd_ne (ne_of_none e hMc0)]
          exact st b u (ne_of_none e hM0) (ne_of_none e hN0) (ne_of_none e hW0) (ne_of_none e hSt0) e5
    · have nlt : ¬ mac.length < cs.length := fun z => e (by
        apply decide_eq_true
        rw [List.length_map, List.length_map]
        omega)
      exact ⟨.ref Mc, rfl, q H4 Mc ls cs mac s4 hMc0 eMc hmac wm (by omega)⟩
/-! ### numbered -/
abbrev zs (ns : List Nat) : List Int := ns.map Int.ofNat
structure NumOf (ks : List NestedKey) (ns : List Nat) : Prop where
  len : ns.length = ks.length
  inj : ∀ (i j a : Nat) x y, ns[i]? = some a → ns[j]? = some a → ks[i]? = some x → ks[j]? = some y → x = y
  rg : ∀ i v : Nat, ns[i]? = some (v + 1) → ∃ j, j < i ∧ ns[j]? = some v
  same : ∀ (i j : Nat), ks[i]? = ks[j]? → ns[i]? = ns[j]?
structure FI (ks : List NestedKey) (i : Nat) (us : List NestedKey) : Prop where
  nd : us.Nodup
  all : ∀ (j : Nat) k, j < i → ks[j]? = some k → k ∈ us
  src : ∀ k ∈ us, ∃ j, j < i ∧ ks[j]? = some k
  rg : ∀ (v j : Nat) k, us[v + 1]? = some k → ks[j]? = some k → ∃ j' k', j' < j ∧ us[v]? = some k' ∧ ks[j']? = some k'
  len : us.length ≤ i
theorem FI.zero {ks : List NestedKey} : FI ks 0 [] := ⟨.nil, (fun j k h => absurd h (Nat.not_lt_zero _)), (fun _ z => nomatch z), (fun v j k h => by simp at h), Nat.le_refl _⟩
theorem FI.old {ks us : List NestedKey} {i : Nat} {k : NestedKey} (h : FI ks i us) (hk : ks[i]? = some k) (hm : k ∈ us) : FI ks (i + 1) us := by
  refine ⟨h.nd, fun j k' hj e => ?_, fun k' hk' => ?_, h.rg, Nat.le_succ_of_le h.len⟩
  · by_cases hji : j = i
    · rw [hji, hk] at e
      exact Option.some.inj e ▸ hm
    · exact h.all j k' (by omega) e
  · obtain ⟨j, h1, h2⟩ := h.src k' hk'
    exact ⟨j, by omega, h2⟩
theorem FI.new {ks us : List NestedKey} {i : Nat} {k : NestedKey} (h : FI ks i us) (hk : ks[i]? = some k) (hm : k ∉ us) : FI ks (i + 1) (us ++ [k]) := by
  refine ⟨?_, fun j k' hj e => ?_, fun k' hk' => ?_, fun v j k' hv e => ?_, by rw [List.length_append]; exact Nat.succ_le_succ h.len⟩
  · rw [List.nodup_append]
    refine ⟨h.nd, by simp, fun a ha b hb => ?_⟩
    rw [List.mem_singleton.mp hb]
    exact fun z => hm (z ▸ ha)
  · by_cases hji : j = i
    · rw [hji, hk] at e
      rw [← Option.some.inj e]
      simp
    · exact List.mem_append_left _ (h.all j k' (by omega) e)
  · rcases List.mem_append.mp hk' with h1 | h1
    · obtain ⟨j, h2, h3⟩ := h.src k' h1
      exact ⟨j, by omega, h3⟩
    · rw [List.mem_singleton.mp h1]
      exact ⟨i, by omega, hk⟩
  · by_cases hl : v + 1 < us.length
    · rw [List.getElem?_append_left hl] at hv
      obtain ⟨j', k2, h1, h2, h3⟩ := h.rg v j k' hv e
      exact ⟨j', k2, h1, by rw [List.getElem?_append_left (by omega)]; exact h2, h3⟩
    · rw [List.getElem?_append_right (by omega)] at hv
      have hv0 : v + 1 - us.length = 0 := by
        have := (List.getElem?_eq_some_iff.mp hv).1
        simp at this
        exact this
      rw [hv0] at hv
      have hkk : k = k' := by simpa using hv
      subst hkk
      have hlv : v < us.length := by omega
      obtain ⟨j', h1, h2⟩ := h.src us[v] (List.getElem_mem hlv)
      refine ⟨j', us[v], ?_, by rw [List.getElem?_append_left hlv, List.getElem?_eq_getElem hlv], h2⟩
      by_cases hji : j < i
      · exact absurd (h.all j k hji e) hm
      · omega
def idxN (us : List NestedKey) (k : NestedKey) : Nat := us.findIdx fun u => decide (u = k)
theorem idxN_at {us : List NestedKey} {k : NestedKey} (h : k ∈ us) : us[idxN us k]? = some k := by
  have hl : idxN us k < us.length := List.findIdx_lt_length_of_exists ⟨k, h, by simp⟩
  rw [List.getElem?_eq_getElem hl]
  exact congrArg some (of_decide_eq_true (List.findIdx_getElem (w := hl)))
theorem FI.done {ks us : List NestedKey} (h : FI ks ks.length us) : NumOf ks (ks.map (idxN us)) := by
  have key : ∀ (i a : Nat), (ks.map (idxN us))[i]? = some a → ∃ x, ks[i]? = some x ∧ us[a]? = some x := fun i a e => by
    rw [List.getElem?_map] at e
    cases hx : ks[i]? with
    | none => rw [hx] at e; cases e
    | some x =>
      rw [hx] at e
      have e' : idxN us x = a := Option.some.inj e
      exact ⟨x, rfl, e' ▸ idxN_at (h.all i x (List.getElem?_eq_some_iff.mp hx).1 hx)⟩
  refine ⟨List.length_map _, fun i j a x y h1 h2 h3 h4 => ?_, fun i v e => ?_, fun i j e => by rw [List.getElem?_map, List.getElem?_map, e]⟩
  · obtain ⟨x', e1, e2⟩ := key i a h1
    obtain ⟨y', e3, e4⟩ := key j a h2
    rw [h3] at e1
    rw [h4] at e3
    rw [Option.some.inj e1, Option.some.inj e3]
    exact Option.some.inj (e2.symm.trans e4)
  · obtain ⟨x, e1, e2⟩ := key i _ e
    obtain ⟨j', k', h1, h2, h3⟩ := h.rg v i x e2 e1
    refine ⟨j', h1, ?_⟩
    rw [List.getElem?_map, h3]
    have hk' := h.all j' k' (List.getElem?_eq_some_iff.mp h3).1 h3
    have := idxN_at hk'
    exact congrArg some ((List.getElem?_inj (List.getElem?_eq_some_iff.mp this).1 h.nd).mp (this.trans h2.symm))
theorem NumOf.le {ks : List NestedKey} {ns : List Nat} (h : NumOf ks ns) : ∀ (v i : Nat), ns[i]? = some v → v ≤ i
  | 0, _, _ => Nat.zero_le _
  | v + 1, i, e => by
    obtain ⟨j, h1, h2⟩ := h.rg i v e
    have := h.le v j h2
    omega
abbrev KeysAt (H : Hp) : List Addr → List NestedKey → Prop := Paired fun b k => KeyN H (.ref b) k
theorem keysat_stay {H H' : Hp} (t : TupsStay H H') {bs : List Addr} {ks : List NestedKey} (h : KeysAt H bs ks) : KeysAt H' bs ks := awMap (fun b k z => keyn_stay t z) h
def spNu : Sp := fun vs H Q _ => ∃ (L : Addr) (bs : List Addr) (ks : List NestedKey), vs = [.ref L] ∧ H L = some (.lst (bs.map V.ref)) ∧ KeysAt H bs ks ∧ bs.length ≤ 256 ∧
  ∀ H' p ns, Same H H' → H p = none → H' p = some (.lst ((zs ns).map V.int)) → NumOf ks ns → Q (.ref p) H'
theorem ok_nu {f : Addr} {fd : FuncData} {k : Nat} (F : Fun K "numbered" "numbered" s_numbered f fd) (mn : mg "len" = none) : FnOk P w K mg base CX0 (k + 1) f fd ["looks"] spNu := by
  refine F.ok sc_numbered (fun vs H Q E h => ?_) (fun cdv A outer s H vs Q E hr h => ?_)
  · obtain ⟨L, bs, ks, rfl, _⟩ := h
    rfl
  · obtain ⟨L, bs, ks, rfl, eL, hk, hl, q⟩ := h
    refine ⟨_, pss_cons (ps_set (i := 1) sc_numbered.nd rfl (.inr rfl) (pe_ndnew (P := P) (w := w) rfl rfl))
      (pss_cons (ps_for PassesOwn.never rfl (pi_list (pv 0)) (pg_name (i := 2) sc_numbered.nd rfl (.inl rfl))
        (pss_one (ps_expr (pe_nsetd (P := P) (w := w) rfl rfl hr.units (pv 1) (pa_cons (pv 2) (pa_cons (pe_callB (call_lenN (P := P) (w := w) rfl rfl) (by rfl) mn PySem.boot_len (pa_cons (pv 1) pa_nil)) pa_nil))))))
      (pss_one (ps_ret (pe_lc (own := [("look", 2)]) (g := gName 2) (by rfl) sc_numbered.nd (pi_list (pv 0)) (blkOk_by (own := [("look", 2)]) (N := N_numbered) (sc := defScope s_numbered) (by decide +kernel))
        (fun _ _ _ _ _ => pg_name (i := 2) sc_numbered.nd rfl (Or.inl rfl)) (fun _ _ _ _ _ => pts_nil) (fun _ _ _ _ _ => pe_ndget (P := P) (w := w) rfl rfl hr.units (pv 1) (pv 2) (fun _ _ => rfl)))))), ?_⟩
    intro N hN
    have sN := same_new (o := NDO P w N []) hN
    have nLN : L ≠ N := ne_of_none eL hN
    have kl := awLen hk
    refine ⟨.ref L, rfl, L, rfl, ⟨_, .inl (.inl (sN _ _ eL))⟩, for_list (K := K) (a := L) (xs := bs.map V.ref) (fun i σ H3 => ∃ y2 ts, σ = [some (.ref L), some (.ref N), y2] ∧ ND P w H3 N (numE ts) ∧ FI ks i (ts.map (·.1)) ∧ Same H H3)
      ⟨none, [], rfl, nd_nil, FI.zero, sN⟩ (fun i σ H3 _ hp => ?_) (fun i x σ H3 hx hp => ?_) (fun σ H3 hp => ?_)⟩
    · obtain ⟨_, _, _, _, _, s3⟩ := hp
      exact .inl (.inl (s3 _ _ eL))
    · obtain ⟨y2, ts, rfl, nd3, fi, s3⟩ := hp
      have hi : i < bs.length := by
        have := (List.getElem?_eq_some_iff.mp hx).1
        rwa [List.length_map] at this
      have hx' : x = .ref bs[i] := by
        rw [List.getElem?_map, List.getElem?_eq_getElem hi] at hx
        exact (Option.some.inj hx).symm
      subst hx'
      obtain ⟨key, hk1, hk2⟩ := awGet hk (List.getElem?_eq_getElem hi)
      have hk3 := keyn_stay (Same.tups s3) hk2
      have tl := fi.len
      rw [List.length_map] at tl
      refine ⟨.ref N, rfl, ⟨N, _, rfl, nd3⟩, .ref bs[i], rfl, .ref N, rfl, N, _, rfl, nd3, N, _, key, bs[i], _, rfl, rfl, nd3, hk3, ?_, fun y hy => ?_, fun hn => ?_⟩
      · rw [numE_len]
        exact small1000 (by omega)
      · obtain ⟨b, hb⟩ := getN_some hy
        obtain ⟨j, t, ht, he⟩ := numE_mem hb
        have : key ∈ ts.map (·.1) := List.mem_map.mpr ⟨t, List.mem_of_getElem? ht, (Prod.mk.inj he).1.symm⟩
        exact ⟨some (.ref bs[i]), ts, rfl, nd3, fi.old hk1 this, s3⟩
      · have nm : key ∉ ts.map (·.1) := fun z => by
          obtain ⟨t, h1, h2⟩ := List.mem_map.mp z
          obtain ⟨j, hj⟩ := List.mem_iff_getElem?.mp h1
          have := numE_some (k := key) (b := t.2) fi.nd (by rw [hj, ← h2])
          rw [hn] at this
          cases this
        refine ⟨some (.ref bs[i]), ts ++ [(key, bs[i])], rfl, ?_, ?_, fun b u e => ?_⟩
        · rw [numE_snoc, numE_len]
          exact nd_put nd3 hk3
        · rw [List.map_append]
          exact fi.new hk1 nm
        · rw [upd_ne (ne_of_none e hN)]
          exact s3 b u e
    · obtain ⟨y2, ts, rfl, nd3, fi, s3⟩ := hp
      rw [List.length_map, kl] at fi
      refine ⟨.ref L, rfl, L, rfl, ⟨_, .inl (.inl (s3 _ _ eL))⟩, fun D hD => ?_⟩
      refine lc_it (walk_list (K := K) (a := L) (xs := bs.map V.ref)) (fun i H4 => H4 D = some (.lst ((zs ((ks.map (idxN (ts.map (·.1)))).take i)).map V.int)) ∧ Same H3 H4) ⟨upd_same, same_new hD⟩ (fun i H4 _ hp => .inl (.inl (hp.2 _ _ (s3 _ _ eL)))) (fun i x H4 H5 hi hp hy => ?_) (fun H4 hp => ?_)
      · obtain ⟨eD, s4⟩ := hp
        obtain ⟨rfl, hx⟩ := hy
        have hi2 : i < bs.length := by rwa [List.length_map] at hi
        have hx' : x = .ref bs[i] := by
          rw [List.getElem?_map, List.getElem?_eq_getElem hi2] at hx
          exact (Option.some.inj hx).symm
        subst hx'
        obtain ⟨key, hk1, hk2⟩ := awGet hk (List.getElem?_eq_getElem hi2)
        have hm := fi.all i key (by omega) hk1
        have hat := idxN_at hm
        obtain ⟨t, ht1, ht2⟩ : ∃ t, ts[idxN (ts.map (·.1)) key]? = some t ∧ t.1 = key := by
          rw [List.getElem?_map] at hat
          cases ht : ts[idxN (ts.map (·.1)) key]? with
          | none => rw [ht] at hat; cases hat
          | some t => rw [ht] at hat; exact ⟨t, rfl, Option.some.inj hat⟩
        have hg := numE_some (k := key) (b := t.2) fi.nd (by rw [ht1, ← ht2])
        refine ⟨rfl, .ref N, rfl, .ref bs[i], rfl, N, _, key, _, rfl, nd_same nd3 s4, keyn_stay (Same.tups (s3.trans s4)) hk2, hg, _, eD, ?_, ?_, fun b u e => ?_⟩
        · rw [List.length_map, List.length_map, List.length_take]
          exact small1000 (by omega)
        · rw [upd_same, List.take_add_one, List.getElem?_map, hk1]
          simp [zs]
        · rw [upd_ne (ne_of_none e hD)]
          exact s4 b u e
      · obtain ⟨eD, s4⟩ := hp
        rw [List.length_map, kl, ← List.length_map (f := idxN (ts.map (·.1))), List.take_length] at eD
        exact q H4 D _ (s3.trans s4) (s3.free hD) eD fi.done
/-! ### kinds_of_states -/
abbrev RG (ns : List Nat) : Prop := ∀ i v : Nat, ns[i]? = some (v + 1) → ∃ j, j < i ∧ ns[j]? = some v
abbrev Finer (ns ps : List Nat) : Prop := ∀ i j a x y : Nat, ns[i]? = some a → ns[j]? = some a → ps[i]? = some x → ps[j]? = some y → x = y
theorem rg_down {ps : List Nat} (rg : RG ps) : ∀ d v i : Nat, ps[i]? = some (v + d) → ∃ j : Nat, ps[j]? = some v
  | 0, v, i, h => ⟨i, h⟩
  | d + 1, v, i, h => by
    obtain ⟨j, _, h2⟩ := rg i (v + d) h
    exact rg_down rg d v j h2
theorem coarse {ps ns : List Nat} {M m : Nat} (hl : ps.length = ns.length) (rgp : RG ps) (hM : M ∈ ps) (hm : ∀ x ∈ ns, x ≤ m) (hle : m ≤ M) (ref : Finer ns ps) : Finer ps ns := by
  have at_ : ∀ v, v ≤ M → ∃ i : Nat, ps[i]? = some v := fun v hv => by
    obtain ⟨i, hi⟩ := List.mem_iff_getElem?.mp hM
    exact rg_down rgp (M - v) v i (by rw [hi]; congr 1; omega)
  let r : Nat → Nat := fun v => ps.findIdx fun u => decide (u = v)
  have hr : ∀ v, v ≤ M → ps[r v]? = some v := fun v hv => by
    obtain ⟨i, hi⟩ := at_ v hv
    have hlt : r v < ps.length := List.findIdx_lt_length_of_exists ⟨v, List.mem_of_getElem? hi, by simp⟩
    rw [List.getElem?_eq_getElem hlt]
    exact congrArg some (of_decide_eq_true (List.findIdx_getElem (w := hlt)))
  have hn : ∀ v, v ≤ M → ∃ a, ns[r v]? = some a ∧ ns.getD (r v) 0 = a := fun v hv => by
    have hlt : r v < ns.length := by
      rw [← hl]
      exact (List.getElem?_eq_some_iff.mp (hr v hv)).1
    exact ⟨ns[r v], List.getElem?_eq_getElem hlt, by simp [List.getD, List.getElem?_eq_getElem hlt]⟩
  have nd : ((List.range (M + 1)).map fun v => ns.getD (r v) 0).Nodup := by
    refine List.pairwise_map.mpr (List.Pairwise.imp_of_mem (fun {a b} ha hb hab z => hab ?_) List.nodup_range)
    rw [List.mem_range] at ha hb
    obtain ⟨x, h1, h2⟩ := hn a (by omega)
    obtain ⟨y, h3, h4⟩ := hn b (by omega)
    rw [h2, h4] at z
    subst z
    exact ref _ _ x a b h1 h3 (hr a (by omega)) (hr b (by omega))
  have cov : ∀ x, x ∈ ns → ∃ v, v ≤ M ∧ ns[r v]? = some x := fun x hx => by
    by_cases h : x ∈ (List.range (M + 1)).map fun v => ns.getD (r v) 0
    · obtain ⟨v, h1, h2⟩ := List.mem_map.mp h
      rw [List.mem_range] at h1
      obtain ⟨a, h3, h4⟩ := hn v (by omega)
      exact ⟨v, by omega, by rw [h3, ← h4, ← h2]⟩
    · exfalso
      have := pigeon (x :: (List.range (M + 1)).map fun v => ns.getD (r v) 0) (List.range (M + 1)) (List.nodup_cons.mpr ⟨h, nd⟩) fun y hy => by
        rw [List.mem_range]
        rcases List.mem_cons.mp hy with rfl | hy
        · have := hm _ hx
          omega
        · obtain ⟨v, h1, h2⟩ := List.mem_map.mp hy
          rw [List.mem_range] at h1
          obtain ⟨a, h3, h4⟩ := hn v (by omega)
          have := hm a (List.mem_of_getElem? h3)
          have h2' : ns.getD (r v) 0 = y := h2
          omega
      rw [List.length_cons, List.length_map, List.length_range] at this
      omega
  intro i j a x y h1 h2 h3 h4
  obtain ⟨v, v1, v2⟩ := cov x (List.mem_of_getElem? h3)
  obtain ⟨u, u1, u2⟩ := cov y (List.mem_of_getElem? h4)
  have e1 := ref i (r v) x a v h3 v2 h1 (hr v v1)
  have e2 := ref j (r u) y a u h4 u2 h2 (hr u u1)
  have : v = u := by omega
  subst this
  rw [v2] at u2
  exact Option.some.inj u2
abbrev beh (ns : List Nat) (row : MRow) : List Int := row.map fun e => ((ns.getD e.2.toNat 0 : Nat) : Int)
structure MacOk (mac : List MRow) : Prop where
  pos : 0 < mac.length
  few : mac.length ≤ 256
  rows : ∀ row ∈ mac, row.length ≤ 8
  ends : ∀ row ∈ mac, ∀ e ∈ row, ∃ j : Nat, e.2 = (j : Int) ∧ j < mac.length
/-- states that tell alike for ever -/
def Alk (mac : List MRow) (R : Nat → Nat → Prop) : Prop := ∀ i j, R i j → ∃ r s, mac[i]? = some r ∧ mac[j]? = some s ∧ Paired (fun (e e' : Int × Int) => e.1 = e'.1 ∧ R e.2.toNat e'.2.toNat) r s
theorem alk_bits {R : Nat → Nat → Prop} : ∀ {r s : MRow}, Paired (fun (e e' : Int × Int) => e.1 = e'.1 ∧ R e.2.toNat e'.2.toNat) r s → r.map (·.1) = s.map (·.1)
  | _, _, .nil => rfl
  | _, _, .cons h1 h2 => by rw [List.map_cons, List.map_cons, h1.1, alk_bits h2]
theorem alk_beh {ns : List Nat} {R : Nat → Nat → Prop} (h : ∀ i j, R i j → ns[i]? = ns[j]?) : ∀ {r s : MRow}, Paired (fun (e e' : Int × Int) => e.1 = e'.1 ∧ R e.2.toNat e'.2.toNat) r s → beh ns r = beh ns s
  | _, _, .nil => rfl
  | _, _, .cons h1 h2 => by
    have e := alk_beh h h2
    unfold beh at e ⊢
    rw [List.map_cons, List.map_cons, e, List.getD_eq_getElem?_getD, List.getD_eq_getElem?_getD, h _ _ h1.2]
structure KOk (mac : List MRow) (ns : List Nat) : Prop where
  len : ns.length = mac.length
  rg : RG ns
  bits : ∀ (i j a : Nat) r s, ns[i]? = some a → ns[j]? = some a → mac[i]? = some r → mac[j]? = some s → r.map (·.1) = s.map (·.1)
  next : ∀ (i j a : Nat) r s, ns[i]? = some a → ns[j]? = some a → mac[i]? = some r → mac[j]? = some s → beh ns r = beh ns s
  crs : ∀ R, Alk mac R → ∀ i j, R i j → ns[i]? = ns[j]?
structure KInv (mac : List MRow) (ns : List Nat) (many : Nat) : Prop where
  len : ns.length = mac.length
  rg : RG ns
  bits : ∀ (i j a : Nat) r s, ns[i]? = some a → ns[j]? = some a → mac[i]? = some r → mac[j]? = some s → r.map (·.1) = s.map (·.1)
  prev : many = 0 ∨ ∃ (ps : List Nat) (M : Nat), ps.length = mac.length ∧ RG ps ∧ M ∈ ps ∧ many = M + 1 ∧ Finer ns ps ∧ ∀ (i j a : Nat) r s, ns[i]? = some a → ns[j]? = some a → mac[i]? = some r → mac[j]? = some s → beh ps r = beh ps s
  crs : ∀ R, Alk mac R → ∀ i j, R i j → ns[i]? = ns[j]?
theorem rg_le {ns : List Nat} (rg : RG ns) : ∀ (v i : Nat), ns[i]? = some v → v ≤ i
  | 0, _, _ => Nat.zero_le _
  | v + 1, i, e => by
    obtain ⟨j, h1, h2⟩ := rg i v e
    have := rg_le rg v j h2
    omega
theorem KInv.done {mac : List MRow} {ns : List Nat} {many m : Nat} (h : KInv mac ns many) (ok : MacOk mac) (hm : ∀ x ∈ ns, x ≤ m) (hle : m + 1 ≤ many) : KOk mac ns := by
  refine ⟨h.len, h.rg, h.bits, fun i j a r s h1 h2 h3 h4 => ?_, h.crs⟩
  rcases h.prev with e | ⟨ps, M, lp, rgp, hM, rfl, fin, nx⟩
  · omega
  have co := coarse (lp.trans h.len.symm) rgp hM hm (by omega) fin
  have e1 := nx i j a r s h1 h2 h3 h4
  apply List.ext_getElem?
  intro t
  have lr := congrArg List.length (h.bits i j a r s h1 h2 h3 h4)
  rw [List.length_map, List.length_map] at lr
  have e2 := congrArg (fun l : List Int => l[t]?) e1
  rw [List.getElem?_map, List.getElem?_map]
  by_cases ht : t < r.length
  · have ht2 : t < s.length := by omega
    have e3 : (beh ps r)[t]? = (beh ps s)[t]? := e2
    rw [List.getElem?_map, List.getElem?_map, List.getElem?_eq_getElem ht, List.getElem?_eq_getElem ht2] at e3
    rw [List.getElem?_eq_getElem ht, List.getElem?_eq_getElem ht2]
    obtain ⟨x, hx, lx⟩ := ok.ends r (List.mem_of_getElem? h3) r[t] (List.getElem_mem ht)
    obtain ⟨y, hy, ly⟩ := ok.ends s (List.mem_of_getElem? h4) s[t] (List.getElem_mem ht2)
    have e4 : ((ps.getD r[t].2.toNat 0 : Nat) : Int) = ((ps.getD s[t].2.toNat 0 : Nat) : Int) := Option.some.inj e3
    show some ((ns.getD r[t].2.toNat 0 : Nat) : Int) = some ((ns.getD s[t].2.toNat 0 : Nat) : Int)
    rw [hx, hy, Int.toNat_natCast, Int.toNat_natCast] at e4 ⊢
    have hl := h.len
    have px : ps[x]? = some ps[x] := List.getElem?_eq_getElem (by omega)
    have py : ps[y]? = some ps[y] := List.getElem?_eq_getElem (by omega)
    have nx : ns[x]? = some ns[x] := List.getElem?_eq_getElem (by omega)
    have ny : ns[y]? = some ns[y] := List.getElem?_eq_getElem (by omega)
    rw [List.getD_eq_getElem?_getD, List.getD_eq_getElem?_getD, px, py] at e4
    rw [List.getD_eq_getElem?_getD, List.getD_eq_getElem?_getD, nx, ny]
    have e6 : ((ps[x] : Nat) : Int) = ((ps[y] : Nat) : Int) := by simpa using e4
    have e5 : ps[x] = ps[y] := by omega
    have := co x y _ _ _ px (e5 ▸ py) nx ny
    simp [this]
  · rw [List.getElem?_eq_none (by omega), List.getElem?_eq_none (by omega)]
theorem KInv.first {mac : List MRow} {ns : List Nat} (h : NumOf (mac.map fun row => kC (row.map (·.1))) ns) : KInv mac ns 0 := by
  refine ⟨by rw [h.len, List.length_map], h.rg, fun i j a r s h1 h2 h3 h4 => ?_, .inl rfl, fun R hR i j hij => ?_⟩
  · exact kC_inj (h.inj i j a _ _ h1 h2 (by rw [List.getElem?_map, h3]; rfl) (by rw [List.getElem?_map, h4]; rfl))
  · obtain ⟨r, s, h1, h2, h3⟩ := hR i j hij
    exact h.same i j (by rw [List.getElem?_map, List.getElem?_map, h1, h2, Option.map_some, Option.map_some, alk_bits h3])
def kZ (n : Nat) (c : List Int) : NestedKey := .tup [.num (n : Int), kC c]
theorem kZ_inj {n n' : Nat} {c c' : List Int} (h : kZ n c = kZ n' c') : n = n' ∧ c = c' := by
  unfold kZ at h
  have h1 := NestedKey.tup.inj h
  rw [List.cons.injEq, List.cons.injEq] at h1
  have h2 := NestedKey.num.inj h1.1
  exact ⟨by omega, kC_inj h1.2.1⟩
theorem kZ_depth (n : Nat) (c : List Int) : (kZ n c).depth ≤ 8 := by
  unfold kZ kC
  simp [NestedKey.depth, NestedKey.depthAll, nums_depth c]
theorem keyZ {H : Hp} {t b : Addr} {n : Nat} {c : List Int} (h1 : H t = some (.tup [.int (n : Int), .ref b])) (h2 : H b = some (.tup (c.map V.int))) : KeyN H (.ref t) (kZ n c) :=
  ⟨.tup h1 (.cons (.num _) (.cons (.tup h2 (nks_ints H c)) .nil)), kZ_depth n c, t, rfl⟩
theorem KInv.step {mac : List MRow} {ns ns' : List Nat} {many m : Nat} (h : KInv mac ns many) (hm : m ∈ ns) (hn : NumOf ((ns.zip mac).map fun e => kZ e.1 (beh ns e.2)) ns') : KInv mac ns' (m + 1) := by
  have zl : (ns.zip mac).length = mac.length := by rw [List.length_zip, h.len, Nat.min_self]
  have key : ∀ (i j a x y : Nat) r s, ns'[i]? = some a → ns'[j]? = some a → ns[i]? = some x → ns[j]? = some y → mac[i]? = some r → mac[j]? = some s → x = y ∧ beh ns r = beh ns s := fun i j a x y r s h1 h2 h3 h4 h5 h6 => by
    have z1 : (ns.zip mac)[i]? = some (x, r) := List.getElem?_zip_eq_some.mpr ⟨h3, h5⟩
    have z2 : (ns.zip mac)[j]? = some (y, s) := List.getElem?_zip_eq_some.mpr ⟨h4, h6⟩
    exact kZ_inj (hn.inj i j a _ _ h1 h2 (by rw [List.getElem?_map, z1]; rfl) (by rw [List.getElem?_map, z2]; rfl))
  have at_ : ∀ (i : Nat) r, mac[i]? = some r → ∃ x : Nat, ns[i]? = some x := fun i r e => by
    have := (List.getElem?_eq_some_iff.mp e).1
    have hl := h.len
    exact ⟨_, List.getElem?_eq_getElem (by omega)⟩
  refine ⟨by rw [hn.len, List.length_map, zl], hn.rg, fun i j a r s h1 h2 h3 h4 => ?_, .inr ⟨ns, m, h.len, h.rg, hm, rfl, fun i j a x y h1 h2 h3 h4 => ?_, fun i j a r s h1 h2 h3 h4 => ?_⟩, fun R hR i j hij => ?_⟩
  · obtain ⟨x, hx⟩ := at_ i r h3
    obtain ⟨y, hy⟩ := at_ j s h4
    obtain ⟨rfl, _⟩ := key i j a x y r s h1 h2 hx hy h3 h4
    exact h.bits i j x r s hx hy h3 h4
  · have l1 := (List.getElem?_eq_some_iff.mp h3).1
    have l2 := (List.getElem?_eq_some_iff.mp h4).1
    have hl := h.len
    exact (key i j a x y _ _ h1 h2 h3 h4 (List.getElem?_eq_getElem (by omega)) (List.getElem?_eq_getElem (by omega))).1
  · obtain ⟨x, hx⟩ := at_ i r h3
    obtain ⟨y, hy⟩ := at_ j s h4
    exact (key i j a x y r s h1 h2 hx hy h3 h4).2
  · obtain ⟨r, s, h1, h2, h3⟩ := hR i j hij
    obtain ⟨x, hx⟩ := at_ i r h1
    have hy : ns[j]? = some x := (h.crs R hR i j hij).symm.trans hx
    have z1 : (ns.zip mac)[i]? = some (x, r) := List.getElem?_zip_eq_some.mpr ⟨hx, h1⟩
    have z2 : (ns.zip mac)[j]? = some (x, s) := List.getElem?_zip_eq_some.mpr ⟨hy, h2⟩
    exact hn.same i j (by rw [List.getElem?_map, List.getElem?_map, z1, z2, Option.map_some, Option.map_some, alk_beh (h.crs R hR) h3])
def spKi : Sp := fun vs H Q _ => ∃ (p : Addr) (ls : List Addr) (mac : List MRow), vs = [.ref p] ∧ H p = some (.lst (ls.map V.ref)) ∧ MacL H ls mac ∧ MacOk mac ∧
  ∀ H' q ns, Same H H' → H q = none → H' q = some (.lst ((zs ns).map V.int)) → KOk mac ns → Q (.ref q) H'
def KSt (H : Hp) (p : Addr) (mac : List MRow) (n : Nat) (σ : L2.St) (H4 : Hp) : Prop := ∃ y3 y4 y5 y6 Kd ns many, σ = [some (.ref p), some (.ref Kd), some (.int ((many : Nat) : Int)), y3, y4, y5, y6] ∧ H4 Kd = some (.lst ((zs ns).map V.int)) ∧ KInv mac ns many ∧ Same H H4 ∧ H Kd = none ∧ n = 300 - many
theorem mem_zs {ns : List Nat} {m : Int} (h : m ∈ zs ns) : ∃ k : Nat, k ∈ ns ∧ m = (k : Int) := by
  obtain ⟨k, h1, h2⟩ := List.mem_map.mp h
  exact ⟨k, h1, h2.symm⟩
theorem macl_same {H H' : Hp} (s : Same H H') {ls : List Addr} {mac : List MRow} (h : MacL H ls mac) : MacL H' ls mac := macl_stay (Same.tups s) (fun l _ xs e => s _ _ e) h
abbrev TupsAt (H : Hp) : List Addr → List (List Int) → Prop := Paired fun b c => H b = some (.tup (c.map V.int))
abbrev rTupOf (K : PySem.W.Frag) : List V → Hp → VK → Prop := fun xs H Q => ∃ p ys, xs = [.ref p] ∧ ((SqL K H p ys ∧ ∀ l, H l = none → Q (.ref l) (upd H l (.tup ys))) ∨ (SqT K H p ys ∧ Q (.ref p) H))
abbrev scKa : Scope := ⟨.function, [(".0", .local), ("state", .local), ("tuple", .globalImplicit)], false, false, []⟩
abbrev scKb : Scope := ⟨.function, [(".0", .local), ("state", .local), ("tuple", .globalImplicit), ("kinds", .cell)], false, false, []⟩
abbrev scKc : Scope := ⟨.function, [(".0", .local), ("bit", .local), ("after", .local), ("kinds", .free)], false, false, []⟩
theorem ok_ki {f fN : Addr} {fd fdN : FuncData} {k : Nat} (F : Fun K "kinds_of_states" "kinds_of_states" s_kinds_of_states f fd)
    (GN : FnOk P w K mg base CX0 (k + 1) fN fdN ["looks"] spNu) (kN : PySem.W.keepIn K (.ref fN) = true) (bN : Binds K fdN ["looks"] []) (gN : mg "numbered" = some (.ref fN))
    (mx : mg "max" = none) (mt : mg "tuple" = none) (ml : mg "list" = none) (mz : mg "zip" = none) : FnOk P w K mg base CX0 (k + 2) f fd ["machine"] spKi := by
  refine F.ok sc_kinds_of_states (fun vs H Q E h => ?_) (fun cdv A outer s H vs Q E hr h => ?_)
  · obtain ⟨p, ls, mac, rfl, _⟩ := h
    rfl
  · obtain ⟨p, ls, mac, rfl, ep, hmac, ok, q⟩ := h
    refine ⟨_, pss_cons (ps_set (i := 1) sc_kinds_of_states.nd rfl (.inr rfl) (pe_call GN hr (by rfl) gN kN bN .nil pass0 (pa_cons
        (pe_lc (own := [("state", 6)]) (g := gName 6) (by rfl) sc_kinds_of_states.nd (pi_list (pv 0)) (blkOk_by (own := [("state", 6)]) (N := N_kinds_of_states) (sc := defScope s_kinds_of_states) (by decide +kernel))
          (fun _ _ _ _ _ => pg_name (i := 6) sc_kinds_of_states.nd rfl (Or.inl rfl)) (fun _ _ _ _ _ => pts_nil)
          (fun _ _ _ _ _ => pe_callTy (T := "tuple") (r := rTupOf K) call_tuple_of (by rfl) mt (by decide +kernel) (pa_cons
            (pe_lc (wi := iList K (tVar 6)) (own := [("bit", 4), ("after", 5)]) (g := gTup K 2 (gCons (gName 4) (gCons (gName 5) gNil))) (by rfl) sc_kinds_of_states.nd (pi_list (pv 6)) (blkOk_by (own := [("bit", 4), ("after", 5)]) (N := N_kinds_of_states) (sc := scKa) (by decide +kernel))
              (fun _ _ _ _ _ => pg_tup rfl (pgs_cons (pg_name (i := 4) sc_kinds_of_states.nd rfl (.inl rfl)) (pgs_cons (pg_name (i := 5) sc_kinds_of_states.nd rfl (.inl rfl)) pgs_nil))) (fun _ _ _ _ _ => pts_nil)
              (fun _ _ _ _ _ => pv 4)) pa_nil))) pa_nil)))
      (pss_cons (ps_set (i := 2) sc_kinds_of_states.nd rfl (.inl rfl) pe_int)
      (pss_cons (ps_while PassesOwn.never (pt_cmpR op_lt (pv 2) (pe_op op_add (pe_callB (cr_max rfl) (by rfl) mx (by decide +kernel) (pa_cons (pv 1) pa_nil)) pe_int) (nomark _))
        (pss_cons (ps_set (i := 2) sc_kinds_of_states.nd rfl (.inl rfl) (pe_op op_add (pe_callB (cr_max rfl) (by rfl) mx (by decide +kernel) (pa_cons (pv 1) pa_nil)) pe_int))
        (pss_cons (ps_setLc (i := 3) (own := [("state", 6)]) (g := gName 6) (by rfl) sc_kinds_of_states.nd rfl rfl (sw_true rfl rfl rfl (by decide +kernel)) (pi_list (pv 0)) (blkOk_by (own := [("state", 6)]) (N := N_kinds_of_states) (sc := defScope s_kinds_of_states) (by decide +kernel))
          (fun _ _ _ _ _ => pg_name (i := 6) sc_kinds_of_states.nd rfl (Or.inl rfl)) (fun _ _ _ _ _ => pts_nil)
          (fun _ _ _ _ _ => pe_callTy (T := "tuple") (r := rTupOf K) call_tuple_of (by rfl) mt (by decide +kernel) (pa_cons
            (pe_lc (wi := iList K (tVar 6)) (own := [("bit", 4), ("after", 5)]) (g := gTup K 2 (gCons (gName 4) (gCons (gName 5) gNil))) (by rfl) sc_kinds_of_states.nd (pi_list (pv 6)) (by exact blkOk_by (own := [("bit", 4), ("after", 5)]) (N := N_kinds_of_states) (sc := scKb) (scope := scKc) (by decide +kernel))
              (fun _ _ _ _ _ => pg_tup rfl (pgs_cons (pg_name (i := 4) sc_kinds_of_states.nd rfl (.inl rfl)) (pgs_cons (pg_name (i := 5) sc_kinds_of_states.nd rfl (.inl rfl)) pgs_nil))) (fun _ _ _ _ _ => pts_nil)
              (fun _ _ _ _ _ => pe_ix (r := rIxL K) ix_list (pv 1) (pv 5) (fun _ _ => rfl))) pa_nil)))
        (pss_one (ps_set (i := 1) sc_kinds_of_states.nd rfl (.inr rfl) (pe_call GN hr (by rfl) gN kN bN .nil pass0 (pa_cons (pe_listZip (by rfl) (by rfl) ml (by rfl) mz (pa_cons (pv 1) (pa_cons (pv 3) pa_nil))) pa_nil)))))))
      (pss_one (ps_ret (pv 1))))), ?_⟩
    have lml := awLen hmac
    have few := ok.few
    -- the bits of the states
    refine ⟨.ref p, rfl, p, rfl, ⟨_, .inl (.inl ep)⟩, fun D hD => ?_⟩
    refine lc_it (walk_list (K := K) (a := p) (xs := ls.map V.ref)) (fun i H4 => ∃ bs, H4 D = some (.lst (bs.map V.ref)) ∧ TupsAt H4 bs ((mac.map fun row => row.map (·.1)).take i) ∧ Same H H4) ⟨[], upd_same, .nil, same_new hD⟩ (fun i H4 _ hp => ?_) (fun i x H4 H5 hi hp hy => ?_) (fun H4 hp => ?_)
    · obtain ⟨_, _, _, s4⟩ := hp
      exact .inl (.inl (s4 _ _ ep))
    · obtain ⟨bs, eD, hb, s4⟩ := hp
      obtain ⟨rfl, hx⟩ := hy
      have hi2 : i < ls.length := by rwa [List.length_map] at hi
      have hx' : x = .ref ls[i] := by
        rw [List.getElem?_map, List.getElem?_eq_getElem hi2] at hx
        exact (Option.some.inj hx).symm
      subst hx'
      obtain ⟨row, hr1, hr2⟩ := awGet hmac (List.getElem?_eq_getElem hi2)
      obtain ⟨qs, eq, hq⟩ := hr2
      have rm := List.mem_of_getElem? hr1
      have r8 := ok.rows row rm
      have ql := awLen hq
      have bl := awLen hb
      rw [List.length_take] at bl
      refine ⟨rfl, .ref ls[i], rfl, ls[i], rfl, ⟨_, .inl (.inl (s4 _ _ eq))⟩, fun G hG => ?_⟩
      refine lc_it (walk_list (K := K) (a := ls[i]) (xs := qs.map V.ref)) (fun t H6 => H6 G = some (.lst (((row.take t).map (·.1)).map V.int)) ∧ Same H5 H6) ⟨upd_same, same_new hG⟩ (fun t H6 _ hp => .inl (.inl (hp.2 _ _ (s4 _ _ eq)))) (fun t x H6 H7 ht hp hy => ?_) (fun H6 hp => ?_)
      · obtain ⟨eG, s6⟩ := hp
        obtain ⟨rfl, hx⟩ := hy
        have ht2 : t < qs.length := by rwa [List.length_map] at ht
        have hx' : x = .ref qs[t] := by
          rw [List.getElem?_map, List.getElem?_eq_getElem ht2] at hx
          exact (Option.some.inj hx).symm
        subst hx'
        obtain ⟨e, he1, he2⟩ := awGet hq (List.getElem?_eq_getElem ht2)
        have gl : ((row.take t).map (·.1)).length < sizeLine := by
          rw [List.length_map, List.length_take]
          exact small1000 (by omega)
        refine ⟨qs[t], [.int e.1, .int e.2], rfl, .inl (.inl (s6 _ _ (s4 _ _ he2))), rfl, .int e.1, [.int e.2], rfl, .int e.2, [], rfl, rfl, rfl, .int e.1, rfl, _, eG, ?_, ?_, fun b u z => ?_⟩
        · rw [List.length_map]
          exact gl
        · rw [upd_same, List.take_add_one, he1]
          simp
        · rw [upd_ne (ne_of_none z hG)]
          exact s6 b u z
      · obtain ⟨eG, s6⟩ := hp
        rw [List.length_map, ql, List.take_length] at eG
        refine ⟨G, _, rfl, .inl ⟨.inl (.inl eG), fun T hT => ?_⟩⟩
        have sT := same_new (o := .tup ((row.map (·.1)).map V.int)) hT
        have eD2 := (s6.trans sT) _ _ eD
        have tp := tups_put (o := .lst (bs.map V.ref ++ [V.ref T])) eD2
        refine ⟨_, eD2, ?_, bs ++ [T], ?_, ?_, fun b u z => ?_⟩
        · rw [List.length_map]
          exact small1000 (by omega)
        · rw [upd_same, List.map_append]
          rfl
        · rw [List.take_add_one, List.getElem?_map, hr1]
          exact awMap (fun b c z => tp _ _ z) (awSnoc (F := fun (b : Addr) (c : List Int) => (upd H6 T (.tup ((row.map (·.1)).map V.int))) b = some (.tup (c.map V.int))) upd_same (awMap (fun b c z => sT _ _ (s6 _ _ z)) hb))
        · rw [upd_ne (ne_of_none z hD)]
          exact sT _ _ (s6 _ _ (s4 b u z))
    · obtain ⟨bs, eD, hb, s4⟩ := hp
      have hb' : TupsAt H4 bs (mac.map fun row => row.map (·.1)) := by
        rw [List.length_map, lml, ← List.length_map (as := mac) (f := fun row => row.map (·.1)), List.take_length] at hb
        exact hb
      have bl : bs.length = mac.length := by rw [awLen hb', List.length_map]
      have hks : KeysAt H4 bs (mac.map fun row => kC (row.map (·.1))) := paired_of (by rw [bl, List.length_map]) fun j b key h1 h2 => by
        obtain ⟨c, h3, h4⟩ := awGet hb' h1
        rw [List.getElem?_map] at h2 h3
        cases hj : mac[j]? with
        | none => rw [hj] at h2; cases h2
        | some row =>
          rw [hj] at h2 h3
          rw [← Option.some.inj h2]
          rw [← Option.some.inj h3] at h4
          exact keyC h4
      refine ⟨D, bs, _, rfl, eD, hks, by omega, fun H5 Kd ns s5 nK eK hn => ?_⟩
      have nK0 := s4.free nK
      refine ⟨KSt H p mac, ⟨_, none, none, none, none, Kd, ns, 0, rfl, eK, KInv.first hn, s4.trans s5, nK0, rfl⟩, fun n σ H6 hp => ?_⟩
      obtain ⟨y3, y4, y5, y6, Kd, ns, many, rfl, eK, ki, s6, nK0, rfl⟩ := hp
      have nl : 0 < ns.length := by
        rw [ki.len]
        exact ok.pos
      refine ⟨.int many, rfl, .ref Kd, rfl, Kd, zs ns, rfl, .inl (.inl eK), by rwa [List.length_map], fun mI hmI hxI => ?_⟩
      obtain ⟨m, hm, rfl⟩ := mem_zs hmI
      have hx : ∀ x ∈ ns, x ≤ m := fun x hx => by
        have := hxI (x : Int) (List.mem_map.mpr ⟨x, hx, rfl⟩)
        omega
      have m256 : m < 256 := by
        obtain ⟨i, hi⟩ := List.mem_iff_getElem?.mp hm
        have h1 := rg_le ki.rg m i hi
        have h2 := (List.getElem?_eq_some_iff.mp hi).1
        have h3 := ki.len
        omega
      refine ⟨_, _, rfl, rfl, _, _, rfl, rfl, _, rfl, ite2 (fun e => ?_) (fun e => ?_)⟩
      · have lt : many < m + 1 := by
          have := of_decide_eq_true e
          omega
        refine ⟨fun σ' H' => ∃ m', m' < 300 - many ∧ KSt H p mac m' σ' H', fun σ' H' z => z, ?_⟩
        refine ⟨.ref Kd, rfl, Kd, zs ns, rfl, .inl (.inl eK), by rwa [List.length_map], fun mJ hmJ hxJ => ?_⟩
        obtain rfl : mJ = (m : Int) := by
          have h1 := hxI mJ hmJ
          have h2 := hxJ _ hmI
          omega
        refine ⟨_, _, rfl, rfl, ?_⟩
        refine ⟨.ref p, rfl, p, rfl, ⟨_, .inl (.inl (s6 _ _ ep))⟩, fun D hD => ?_⟩
        have hmac' := macl_same s6 hmac
        refine lc_it (walk_list (K := K) (a := p) (xs := ls.map V.ref)) (fun i H7 => ∃ bs, H7 D = some (.lst (bs.map V.ref)) ∧ TupsAt H7 bs ((mac.map (beh ns)).take i) ∧ Same H6 H7) ⟨[], upd_same, .nil, same_new hD⟩ (fun i H7 _ hp => ?_) (fun i x H7 H8 hi hp hy => ?_) (fun H7 hp => ?_)
        · obtain ⟨_, _, _, s7⟩ := hp
          exact .inl (.inl (s7 _ _ (s6 _ _ ep)))
        · obtain ⟨bs, eD, hb, s7⟩ := hp
          obtain ⟨rfl, hx⟩ := hy
          have hi2 : i < ls.length := by rwa [List.length_map] at hi
          have hx' : x = .ref ls[i] := by
            rw [List.getElem?_map, List.getElem?_eq_getElem hi2] at hx
            exact (Option.some.inj hx).symm
          subst hx'
          obtain ⟨row, hr1, hr2⟩ := awGet hmac' (List.getElem?_eq_getElem hi2)
          obtain ⟨qs, eq, hq⟩ := hr2
          have rm := List.mem_of_getElem? hr1
          have r8 := ok.rows row rm
          have ql := awLen hq
          have bl := awLen hb
          rw [List.length_take] at bl
          refine ⟨rfl, .ref ls[i], rfl, ls[i], rfl, ⟨_, .inl (.inl (s7 _ _ eq))⟩, fun G hG => ?_⟩
          refine lc_it (walk_list (K := K) (a := ls[i]) (xs := qs.map V.ref)) (fun t H9 => H9 G = some (.lst ((beh ns (row.take t)).map V.int)) ∧ Same H8 H9) ⟨upd_same, same_new hG⟩ (fun t H9 _ hp => .inl (.inl (hp.2 _ _ (s7 _ _ eq)))) (fun t x H9 H10 ht hp hy => ?_) (fun H9 hp => ?_)
          · obtain ⟨eG, s9⟩ := hp
            obtain ⟨rfl, hx⟩ := hy
            have ht2 : t < qs.length := by rwa [List.length_map] at ht
            have hx' : x = .ref qs[t] := by
              rw [List.getElem?_map, List.getElem?_eq_getElem ht2] at hx
              exact (Option.some.inj hx).symm
            subst hx'
            obtain ⟨e, he1, he2⟩ := awGet hq (List.getElem?_eq_getElem ht2)
            obtain ⟨j, hj1, hj2⟩ := ok.ends row rm e (List.mem_of_getElem? he1)
            have jn : j < ns.length := by
              rw [ki.len]
              exact hj2
            have gd : ns.getD e.2.toNat 0 = ns[j] := by
              rw [hj1, Int.toNat_natCast]
              simp [List.getD, List.getElem?_eq_getElem jn]
            refine ⟨qs[t], [.int e.1, .int e.2], rfl, .inl (.inl (s9 _ _ (s7 _ _ he2))), rfl, .int e.1, [.int e.2], rfl, .int e.2, [], rfl, rfl, rfl, .ref Kd, rfl, .int e.2, rfl, Kd, _, e.2, .int ((ns[j] : Nat) : Int), rfl, rfl, .inl (.inl (s9 _ _ (s7 _ _ eK))), ?_, _, eG, ?_, ?_, fun b u z => ?_⟩
            · rw [hj1]
              exact atI_nat (by rw [List.getElem?_map, List.getElem?_map, List.getElem?_eq_getElem jn]; rfl)
            · rw [List.length_map, List.length_map, List.length_take]
              exact small1000 (by omega)
            · rw [upd_same, List.take_add_one, he1]
              simp [beh, ← gd]
            · rw [upd_ne (ne_of_none z hG)]
              exact s9 b u z
          · obtain ⟨eG, s9⟩ := hp
            rw [List.length_map, ql, List.take_length] at eG
            refine ⟨G, _, rfl, .inl ⟨.inl (.inl eG), fun T hT => ?_⟩⟩
            have sT := same_new (o := .tup ((beh ns row).map V.int)) hT
            have eD2 := (s9.trans sT) _ _ eD
            have tp := tups_put (o := .lst (bs.map V.ref ++ [V.ref T])) eD2
            refine ⟨_, eD2, ?_, bs ++ [T], ?_, ?_, fun b u z => ?_⟩
            · rw [List.length_map]
              exact small1000 (by omega)
            · rw [upd_same, List.map_append]
              rfl
            · rw [List.take_add_one, List.getElem?_map, hr1]
              exact awMap (fun b c z => tp _ _ z) (awSnoc (F := fun (b : Addr) (c : List Int) => (upd H9 T (.tup ((beh ns row).map V.int))) b = some (.tup (c.map V.int))) upd_same (awMap (fun b c z => sT _ _ (s9 _ _ z)) hb))
            · rw [upd_ne (ne_of_none z hD)]
              exact sT _ _ (s9 _ _ (s7 b u z))
        · obtain ⟨bs, eD, hb, s7⟩ := hp
          have hb' : TupsAt H7 bs (mac.map (beh ns)) := by
            rw [List.length_map, lml, ← List.length_map (as := mac) (f := beh ns), List.take_length] at hb
            exact hb
          have bl : bs.length = mac.length := by rw [awLen hb', List.length_map]
          have kl := ki.len
          refine ⟨.ref Kd, rfl, .ref D, rfl, Kd, D, _, _, rfl, .inl (.inl (s7 _ _ eK)), .inl (.inl eD), by rw [List.length_map, List.length_map, List.length_map]; omega, fun H8 Z ts s8 nZ eZ hz => ?_⟩
          have tl : ts.length = mac.length := by
            rw [awLen hz, List.length_zip, List.length_map, List.length_map, List.length_map]
            omega
          have hks : KeysAt H8 ts ((ns.zip mac).map fun e => kZ e.1 (beh ns e.2)) := paired_of (by rw [tl, List.length_map, List.length_zip]; omega) fun j t key h1 h2 => by
            obtain ⟨e, h3, h4⟩ := awGet hz h1
            rw [List.getElem?_map] at h2
            have hj : j < mac.length := by
              have := (List.getElem?_eq_some_iff.mp h1).1
              omega
            have n1 : ns[j]? = some ns[j] := List.getElem?_eq_getElem (by omega)
            have m1 : mac[j]? = some mac[j] := List.getElem?_eq_getElem hj
            have b1 : bs[j]? = some bs[j] := List.getElem?_eq_getElem (by omega)
            have z1 : (ns.zip mac)[j]? = some (ns[j], mac[j]) := List.getElem?_zip_eq_some.mpr ⟨n1, m1⟩
            rw [z1] at h2
            obtain rfl := Option.some.inj h2
            have z2 : (((zs ns).map V.int).zip (bs.map V.ref))[j]? = some (.int ((ns[j] : Nat) : Int), .ref bs[j]) := List.getElem?_zip_eq_some.mpr ⟨by rw [List.getElem?_map, List.getElem?_map, n1]; rfl, by rw [List.getElem?_map, b1]; rfl⟩
            rw [z2] at h3
            obtain rfl := Option.some.inj h3
            obtain ⟨c, h5, h6⟩ := awGet hb' b1
            rw [List.getElem?_map, m1] at h5
            obtain rfl := Option.some.inj h5
            exact keyZ h4 (s8 _ _ h6)
          refine ⟨Z, ts, _, rfl, eZ, hks, by omega, fun H9 Kd2 ns2 s9 nK2 eK2 hn2 => ?_⟩
          have s69 := (s7.trans s8).trans s9
          exact ⟨300 - (m + 1), by omega, some (.ref D), y4, y5, y6, Kd2, ns2, m + 1, rfl, eK2, ki.step hm hn2, s6.trans s69, (s6.trans (s7.trans s8)).free nK2, rfl⟩
      · have ge : m + 1 ≤ many := by
          have : ¬ ((many : Int) < (m : Int) + 1) := fun z => e (decide_eq_true z)
          omega
        exact ⟨.ref Kd, rfl, q H6 Kd ns s6 nK0 eK (ki.done ok hx ge)⟩
/-! ### least_machine -/
abbrev low (ns : List Nat) (row : MRow) : MRow := row.map fun e => (e.1, ((ns.getD e.2.toNat 0 : Nat) : Int))
theorem low_eq {ns : List Nat} : ∀ {r s : MRow}, r.map (·.1) = s.map (·.1) → beh ns r = beh ns s → low ns r = low ns s
  | [], [], _, _ => rfl
  | [], _ :: _, h, _ => nomatch h
  | _ :: _, [], h, _ => nomatch h
  | x :: r, y :: s, h1, h2 => by
    simp only [beh, List.map_cons, List.cons.injEq] at h1 h2
    simp only [low, List.map_cons, List.cons.injEq]
    exact ⟨Prod.ext h1.1 h2.1, low_eq h1.2 h2.2⟩
/-- a machine walks along with the carries of a row -/
def Sim (m : Nat) (ds : List Deed) (o : Int) (lm : List MRow) (S : List Int → Nat → Prop) : Prop :=
  S (ds.map fcD) 0 ∧ ∀ c k, S c k → ∃ row, lm[k]? = some row ∧ Paired (fun (e : Int × Int) (s : Int × List Int) => e.1 = s.1 ∧ ∃ j : Nat, e.2 = (j : Int) ∧ S s.2 j) row (stp m ds o c)
structure LInv (mac : List MRow) (ns : List Nat) (lm : List MRow) (i : Nat) : Prop where
  each : ∀ (k : Nat) row, lm[k]? = some row → ∃ (i0 : Nat) (r : MRow), ns[i0]? = some k ∧ mac[i0]? = some r ∧ row = low ns r
  all : ∀ j k : Nat, j < i → ns[j]? = some k → k < lm.length
  len : lm.length ≤ i
theorem LInv.new {mac lm : List MRow} {ns : List Nat} {i : Nat} {r : MRow} (h : LInv mac ns lm i) (hk : ns[i]? = some lm.length) (hr : mac[i]? = some r) : LInv mac ns (lm ++ [low ns r]) (i + 1) := by
  refine ⟨fun k row e => ?_, fun j k hj e => ?_, by rw [List.length_append]; exact Nat.succ_le_succ h.len⟩
  · by_cases hl : k < lm.length
    · rw [List.getElem?_append_left hl] at e
      exact h.each k row e
    · rw [List.getElem?_append_right (by omega)] at e
      have h2 := (List.getElem?_eq_some_iff.mp e).1
      simp only [List.length_cons, List.length_nil] at h2
      have ek : k = lm.length := by omega
      subst ek
      rw [Nat.sub_self] at e
      exact ⟨i, r, hk, hr, (Option.some.inj e).symm⟩
  · rw [List.length_append]
    show k < lm.length + 1
    by_cases hji : j = i
    · subst hji
      rw [hk] at e
      have := Option.some.inj e
      omega
    · have := h.all j k (by omega) e
      omega
theorem LInv.old {mac lm : List MRow} {ns : List Nat} {i k : Nat} (h : LInv mac ns lm i) (rg : RG ns) (hk : ns[i]? = some k) (hn : k ≠ lm.length) : LInv mac ns lm (i + 1) := by
  refine ⟨h.each, fun j k' hj e => ?_, Nat.le_succ_of_le h.len⟩
  by_cases hji : j = i
  · subst hji
    rw [hk] at e
    obtain rfl := Option.some.inj e
    cases k with
    | zero => omega
    | succ v =>
      obtain ⟨j', h1, h2⟩ := rg j v hk
      have := h.all j' v h1 h2
      omega
  · exact h.all j k' (by omega) e
theorem LInv.sim {mac lm : List MRow} {ns : List Nat} {m : Nat} {ds : List Deed} {o : Int} {cs : List (List Int)} (h : LInv mac ns lm ns.length) (kk : KOk mac ns) (wm : WM m ds o cs mac) (hl : mac.length = cs.length) (pos : 0 < mac.length) :
    Sim m ds o lm fun c k => ∃ i : Nat, cs[i]? = some c ∧ ns[i]? = some k := by
  have nl := kk.len
  refine ⟨⟨0, wm.first, ?_⟩, fun c k => ?_⟩
  · have h0 : ns[0]? = some ns[0] := List.getElem?_eq_getElem (by omega)
    have := rg_le kk.rg _ _ h0
    rw [h0]
    congr 1
    omega
  · rintro ⟨i, h1, h2⟩
    have il := (List.getElem?_eq_some_iff.mp h2).1
    have kl := h.all i k il h2
    obtain ⟨i0, r0, a1, a2, a3⟩ := h.each k lm[k] (List.getElem?_eq_getElem kl)
    have hr : mac[i]? = some mac[i] := List.getElem?_eq_getElem (by omega)
    obtain ⟨c', b1, b2⟩ := wm.each i _ hr
    rw [h1] at b1
    obtain rfl := Option.some.inj b1
    have e1 := kk.bits i0 i k r0 _ a1 h2 a2 hr
    have e2 := kk.next i0 i k r0 _ a1 h2 a2 hr
    refine ⟨_, List.getElem?_eq_getElem kl, ?_⟩
    rw [a3, low_eq e1 e2]
    refine paired_of (by rw [List.length_map, awLen b2]) fun t e s g1 g2 => ?_
    rw [List.getElem?_map] at g1
    cases hx : (mac[i]'(by omega))[t]? with
    | none => rw [hx] at g1; cases g1
    | some x =>
      rw [hx] at g1
      obtain ⟨s', g3, g4, j, g5, g6⟩ := awGet b2 hx
      rw [g2] at g3
      obtain rfl := Option.some.inj g3
      obtain rfl := Option.some.inj g1
      have jl := (List.getElem?_eq_some_iff.mp g6).1
      have nj : ns[j]? = some ns[j] := List.getElem?_eq_getElem (by omega)
      refine ⟨g4, ns.getD x.2.toNat 0, rfl, j, g6, ?_⟩
      rw [g5, Int.toNat_natCast, List.getD_eq_getElem?_getD, nj]
      rfl
theorem wm_ok {m : Nat} {ds : List Deed} {o : Int} {cs : List (List Int)} {mac : List MRow} (wm : WM m ds o cs mac) (hl : mac.length = cs.length) (hm : m ≤ 3) (hn : ds.length ≤ 8) : MacOk mac := by
  have pos : 0 < cs.length := (List.getElem?_eq_some_iff.mp wm.first).1
  refine ⟨by omega, by rw [hl]; exact few_cs wm.nd wm.bits hn, fun row hr => ?_, fun row hr e he => ?_⟩
  · obtain ⟨i, hi⟩ := List.mem_iff_getElem?.mp hr
    obtain ⟨c, _, h2⟩ := wm.each i row hi
    rw [awLen h2, stp_len]
    exact Nat.le_trans (Nat.pow_le_pow_right (by decide) hm) (by decide)
  · obtain ⟨i, hi⟩ := List.mem_iff_getElem?.mp hr
    obtain ⟨c, _, h2⟩ := wm.each i row hi
    obtain ⟨t, ht⟩ := List.mem_iff_getElem?.mp he
    obtain ⟨s, _, _, j, h3, h4⟩ := awGet h2 ht
    exact ⟨j, h3, by rw [hl]; exact (List.getElem?_eq_some_iff.mp h4).1⟩
structure LmOk (m : Nat) (ds : List Deed) (o : Int) (lm : List MRow) : Prop where
  sim : ∃ S, Sim m ds o lm S
  few : lm.length ≤ 256
  src : ∃ cs mac ns, WM m ds o cs mac ∧ mac.length = cs.length ∧ KOk mac ns ∧ LInv mac ns lm ns.length
def spLm : Sp := fun vs H Q _ => ∃ (R : Addr) (m : Nat) (o : Int) (ds : List Deed), vs = [.ref R] ∧ RowAt H R m ds o ∧ RowOk m ds o ∧
  ∀ H' p ls lm, Same H H' → H p = none → H' p = some (.lst (ls.map V.ref)) → MacL H' ls lm → LmOk m ds o lm → Q (.ref p) H'
theorem ok_lm {f fW fK : Addr} {fd fdW fdK : FuncData} {k : Nat} (F : Fun K "least_machine" "least_machine" s_least_machine f fd)
    (GW : FnOk P w K mg base CX0 (k + 5) fW fdW ["row"] spWh) (kW : PySem.W.keepIn K (.ref fW) = true) (bW : Binds K fdW ["row"] []) (gW : mg "whole_machine" = some (.ref fW))
    (GK : FnOk P w K mg base CX0 (k + 2) fK fdK ["machine"] spKi) (kK : PySem.W.keepIn K (.ref fK) = true) (bK : Binds K fdK ["machine"] []) (gK : mg "kinds_of_states" = some (.ref fK))
    (mn : mg "len" = none) (mz : mg "zip" = none) : FnOk P w K mg base CX0 (k + 6) f fd ["row"] spLm := by
  refine F.ok sc_least_machine (fun vs H Q E h => ?_) (fun cdv A outer s H vs Q E hr h => ?_)
  · obtain ⟨R, m, o, ds, rfl, _⟩ := h
    rfl
  · obtain ⟨R, m, o, ds, rfl, hrow, hok, q⟩ := h
    have r2 := hr.mono (show k + 2 ≤ k + 5 by omega)
    refine ⟨_, pss_cons (ps_set (i := 1) sc_least_machine.nd rfl (.inl rfl) (pe_call GW hr (by rfl) gW kW bW .nil pass0 (pa_cons (pv 0) pa_nil)))
      (pss_cons (ps_set (i := 2) sc_least_machine.nd rfl (.inr rfl) (pe_call GK r2 (by rfl) gK kK bK .nil pass0 (pa_cons (pv 1) pa_nil)))
      (pss_cons (ps_set (i := 3) sc_least_machine.nd rfl (.inl rfl) (pe_lst pa_nil))
      (pss_cons (ps_for PassesOwn.never rfl (pi_zip (by rfl) mz (pa_cons (pv 2) (pa_cons (pv 1) pa_nil))) (pg_tup rfl (pgs_cons (pg_name (i := 4) sc_least_machine.nd rfl (.inl rfl)) (pgs_cons (pg_name (i := 5) sc_least_machine.nd rfl (.inl rfl)) pgs_nil)))
        (pss_one (ps_if (pt_cmpR op_eq (pv 4) (pe_callB call_len_seq (by rfl) mn PySem.boot_len (pa_cons (pv 3) pa_nil)) (nomark _))
          (pss_one (ps_expr (pe_bm PySem.F.plainAttrs_list PySem.F.slot_list_append PySem.F.type_list_append mt_append (pv 3) (pa_cons
            (pe_lc (own := [("bit", 6), ("after", 7)]) (g := gTup K 2 (gCons (gName 6) (gCons (gName 7) gNil))) (by rfl) sc_least_machine.nd (pi_list (pv 5)) (blkOk_by (own := [("bit", 6), ("after", 7)]) (N := N_least_machine) (sc := defScope s_least_machine) (by decide +kernel))
              (fun _ _ _ _ _ => pg_tup rfl (pgs_cons (pg_name (i := 6) sc_least_machine.nd rfl (.inl rfl)) (pgs_cons (pg_name (i := 7) sc_least_machine.nd rfl (.inl rfl)) pgs_nil))) (fun _ _ _ _ _ => pts_nil)
              (fun _ _ _ _ _ => pe_tup (pa_cons (pv 6) (pa_cons (pe_ix (r := rIxL K) ix_list (pv 2) (pv 7) (fun _ _ => rfl)) pa_nil)))) pa_nil)))) pss_nil)))
      (pss_one (ps_ret (pv 3)))))), ?_⟩
    refine ⟨.ref R, rfl, R, m, o, ds, rfl, hrow, hok, fun H1 p ls cs mac s1 np ep hmac wm hl => ?_⟩
    have ok := wm_ok wm hl (by have := hok.m3; omega) hok.len
    have few := ok.few
    have lml := awLen hmac
    refine ⟨.ref p, rfl, p, ls, mac, rfl, ep, hmac, ok, fun H2 Kd ns s2 nK eK kk => ?_⟩
    have nl := kk.len
    refine ⟨Nat.zero_le _, fun L hL => ?_⟩
    have sL := same_new (o := .lst []) hL
    have nLK : Kd ≠ L := ne_of_none eK hL
    have ep2 := s2 _ _ ep
    have npL : p ≠ L := ne_of_none ep2 hL
    have hmac2 := macl_same s2 hmac
    refine ⟨.ref Kd, rfl, .ref p, rfl, Kd, p, _, _, rfl, .inl (.inl (sL _ _ eK)), .inl (.inl (sL _ _ ep2)), for_it (walk_zip (K := K) (a := Kd) (b := p) (xs := (zs ns).map V.int) (ys := ls.map V.ref) (n := ns.length) (by rw [List.length_map, List.length_map, List.length_map]; omega)) (fun i σ H3 => ∃ y4 y5 y6 y7 ms lm, σ = [some (.ref R), some (.ref p), some (.ref Kd), some (.ref L), y4, y5, y6, y7] ∧ H3 L = some (.lst (ms.map V.ref)) ∧ MacL H3 ms lm ∧ LInv mac ns lm i ∧ (∀ l ∈ ms, l ≠ L) ∧ ∀ b u, H2 b = some u → H3 b = some u)
      ⟨none, none, none, none, [], [], rfl, upd_same, .nil, ⟨fun k row e => by simp at e, fun j k hj => absurd hj (Nat.not_lt_zero _), Nat.le_refl _⟩, (fun _ z => nomatch z), sL⟩ (fun i σ H3 _ hp => ?_) (fun i x σ H3 H4 hi hp hy => ?_) (fun σ H3 hp => ?_)⟩
    · obtain ⟨_, _, _, _, _, _, _, _, _, _, _, st⟩ := hp
      exact ⟨.inl (.inl (st _ _ eK)), .inl (.inl (st _ _ ep2))⟩
    · obtain ⟨y4, y5, y6, y7, ms, lm, rfl, eL, hms, li, nms, st⟩ := hp
      obtain ⟨U, x1, x2, rfl, hU, rfl, g1, g2⟩ := hy
      have hil : i < ls.length := by omega
      have e1 : x1 = .int ((ns[i] : Nat) : Int) := by
        have g1' : ((zs ns).map V.int)[i]? = some x1 := g1
        rw [List.getElem?_map, List.getElem?_map, List.getElem?_eq_getElem hi] at g1'
        exact (Option.some.inj g1').symm
      have e2 : x2 = .ref ls[i] := by
        have g2' : (ls.map V.ref)[i]? = some x2 := g2
        rw [List.getElem?_map, List.getElem?_eq_getElem hil] at g2'
        exact (Option.some.inj g2').symm
      subst e1 e2
      have sU := same_new (o := .tup [.int ((ns[i] : Nat) : Int), .ref ls[i]]) hU
      have eLU := sU _ _ eL
      have mll := awLen hms
      have lil := li.len
      refine ⟨U, [.int ((ns[i] : Nat) : Int), .ref ls[i]], rfl, .inl (.inl upd_same), rfl, .int ((ns[i] : Nat) : Int), [.ref ls[i]], rfl, .ref ls[i], [], rfl, rfl, ?_⟩
      refine ⟨.int ((ns[i] : Nat) : Int), rfl, .ref L, rfl, L, _, rfl, .inl (.inl (.inl eLU)), rfl, _, rfl, ite2 (fun e => ?_) (fun e => ?_)⟩
      · have hk : ns[i]? = some lm.length := by
          rw [List.getElem?_eq_getElem hi]
          have := V.int.inj (of_decide_eq_true e)
          rw [List.length_map] at this
          congr 1
          omega
        obtain ⟨row, hr1, qs, eq, hq⟩ := awGet hmac2 (List.getElem?_eq_getElem hil)
        have rm := List.mem_of_getElem? hr1
        have r8 := ok.rows row rm
        have ql := awLen hq
        have st2 : ∀ b u, H2 b = some u → upd H3 U (.tup [.int ((ns[i] : Nat) : Int), .ref ls[i]]) b = some u := fun b u z => sU _ _ (st b u z)
        refine ⟨.ref L, rfl, .inl ⟨rfl, _, .inl (.inl eLU)⟩, .ref ls[i], rfl, ls[i], rfl, ⟨_, .inl (.inl (st2 _ _ eq))⟩, fun G hG => ?_⟩
        refine lc_it (walk_list (K := K) (a := ls[i]) (xs := qs.map V.ref)) (fun t H6 => ∃ ws, H6 G = some (.lst (ws.map V.ref)) ∧ PrAt H6 ws ((low ns row).take t) ∧ Same (upd H3 U (.tup [.int ((ns[i] : Nat) : Int), .ref ls[i]])) H6) ⟨[], upd_same, .nil, same_new hG⟩ (fun t H6 _ hp => ?_) (fun t x H6 H7 ht hp hy => ?_) (fun H6 hp => ?_)
        · obtain ⟨_, _, _, s6⟩ := hp
          exact .inl (.inl (s6 _ _ (st2 _ _ eq)))
        · obtain ⟨ws, eG, hw, s6⟩ := hp
          obtain ⟨rfl, hx⟩ := hy
          have ht2 : t < qs.length := by rwa [List.length_map] at ht
          have hx' : x = .ref qs[t] := by
            rw [List.getElem?_map, List.getElem?_eq_getElem ht2] at hx
            exact (Option.some.inj hx).symm
          subst hx'
          obtain ⟨e, he1, he2⟩ := awGet hq (List.getElem?_eq_getElem ht2)
          obtain ⟨j, hj1, hj2⟩ := ok.ends row rm e (List.mem_of_getElem? he1)
          have jn : j < ns.length := by omega
          have gd : ns.getD e.2.toNat 0 = ns[j] := by
            rw [hj1, Int.toNat_natCast]
            simp [List.getD, List.getElem?_eq_getElem jn]
          have wl := awLen hw
          rw [List.length_take] at wl
          refine ⟨qs[t], [.int e.1, .int e.2], rfl, .inl (.inl (s6 _ _ (st2 _ _ he2))), rfl, .int e.1, [.int e.2], rfl, .int e.2, [], rfl, rfl, rfl, .int e.1, rfl, .ref Kd, rfl, .int e.2, rfl, Kd, _, e.2, .int ((ns[j] : Nat) : Int), rfl, rfl, .inl (.inl (s6 _ _ (st2 _ _ eK))), ?_, by show 2 ≤ sizeLine; decide, fun T hT => ?_⟩
          · rw [hj1]
            exact atI_nat (by rw [List.getElem?_map, List.getElem?_map, List.getElem?_eq_getElem jn]; rfl)
          have sT := same_new (o := .tup [.int e.1, .int ((ns[j] : Nat) : Int)]) hT
          have eG2 := sT _ _ eG
          have tp := tups_put (o := .lst (ws.map V.ref ++ [V.ref T])) eG2
          refine ⟨_, eG2, ?_, ws ++ [T], ?_, ?_, fun b u z => ?_⟩
          · rw [List.length_map]
            exact small1000 (by omega)
          · rw [upd_same, List.map_append]
            rfl
          · rw [List.take_add_one, List.getElem?_map, he1, Option.map_some, gd]
            exact prat_stay tp (awSnoc (F := fun (q : Addr) (e' : Int × Int) => (upd H7 T (.tup [.int e.1, .int ((ns[j] : Nat) : Int)])) q = some (.tup [.int e'.1, .int e'.2])) upd_same (prat_stay (Same.tups sT) hw))
          · rw [upd_ne (ne_of_none z hG)]
            exact sT _ _ (s6 b u z)
        · obtain ⟨ws, eG, hw, s6⟩ := hp
          rw [List.length_map, ql, ← List.length_map (as := row) (f := fun e => (e.1, ((ns.getD e.2.toNat 0 : Nat) : Int))), List.take_length] at hw
          have eL6 := s6 _ _ eLU
          have tp := tups_put (o := .lst (ms.map V.ref ++ [V.ref G])) eL6
          have nGL : G ≠ L := fun z => by rw [z, eLU] at hG; cases hG
          refine ⟨L, _, _, rfl, rfl, eL6, ?_, _, _, _, _, ms ++ [G], lm ++ [low ns row], rfl, ?_, ?_, li.new hk hr1, fun l hl => ?_, fun b u z => ?_⟩
          · rw [List.length_map]
            exact small1000 (by omega)
          · rw [upd_same, List.map_append]
            rfl
          · refine awSnoc (F := RowL (upd H6 L (.lst (ms.map V.ref ++ [V.ref G])))) ⟨ws, ?_, prat_stay tp hw⟩ (macl_stay ((Same.tups (sU.trans s6)).trans tp) (fun l hl xs z => ?_) hms)
            · rw [upd_ne nGL]
              exact eG
            · rw [upd_ne (nms l hl)]
              exact s6 _ _ (sU _ _ z)
          · rcases List.mem_append.mp hl with hl | hl
            · exact nms l hl
            · rw [List.mem_singleton.mp hl]
              exact nGL
          · rw [upd_ne (ne_of_none z hL)]
            exact s6 _ _ (st2 b u z)
      · have hk : ns[i] ≠ lm.length := fun z => e (by
          apply decide_eq_true
          rw [List.length_map, mll, z])
        exact ⟨_, _, _, _, ms, lm, rfl, eLU, macl_same sU hms, li.old kk.rg (List.getElem?_eq_getElem hi) hk, nms, fun b u z => sU _ _ (st b u z)⟩
    · obtain ⟨y4, y5, y6, y7, ms, lm, rfl, eL, hms, li, nms, st⟩ := hp
      have lil := li.len
      exact ⟨.ref L, rfl, q H3 L ms lm (fun b u z => st _ _ (s2 _ _ (s1 b u z))) ((s1.trans s2).free hL) eL hms ⟨⟨_, li.sim kk wm hl ok.pos⟩, by omega, cs, mac, ns, wm, hl, kk, li⟩⟩
/-! ### the least machine is one only -/
/-- what a kind of states tells, and the kinds behind it -/
def nxK (mac : List MRow) (ns : List Nat) (k : Nat) : List (Int × Nat) := (mac.getD (ns.findIdx fun u => decide (u = k)) []).map fun e => (e.1, ns.getD e.2.toNat 0)
theorem fst_at {ns : List Nat} {k i : Nat} (h : ns[i]? = some k) : ns[ns.findIdx fun u => decide (u = k)]? = some k ∧ (ns.findIdx fun u => decide (u = k)) ≤ i := by
  have hlt : (ns.findIdx fun u => decide (u = k)) < ns.length := List.findIdx_lt_length_of_exists ⟨k, List.mem_of_getElem? h, by simp⟩
  refine ⟨?_, ?_⟩
  · rw [List.getElem?_eq_getElem hlt]
    exact congrArg some (of_decide_eq_true (List.findIdx_getElem (w := hlt)))
  · apply Nat.le_of_not_lt
    intro z
    have := List.not_of_lt_findIdx z
    obtain ⟨hl, e⟩ := List.getElem?_eq_some_iff.mp h
    exact absurd e (of_decide_eq_false this)
theorem low_nx {ns : List Nat} : ∀ {r s : MRow}, r.map (·.1) = s.map (·.1) → beh ns r = beh ns s → (r.map fun e => (e.1, ns.getD e.2.toNat 0)) = s.map fun e => (e.1, ns.getD e.2.toNat 0)
  | [], [], _, _ => rfl
  | [], _ :: _, h, _ => nomatch h
  | _ :: _, [], h, _ => nomatch h
  | x :: r, y :: s, h1, h2 => by
    simp only [beh, List.map_cons, List.cons.injEq] at h1 h2
    simp only [List.map_cons, List.cons.injEq]
    exact ⟨Prod.ext h1.1 (Int.ofNat.inj h2.1), low_nx h1.2 h2.2⟩
theorem nxK_at {mac : List MRow} {ns : List Nat} (kk : KOk mac ns) {i k : Nat} {r : MRow} (h : ns[i]? = some k) (hr : mac[i]? = some r) : nxK mac ns k = r.map fun e => (e.1, ns.getD e.2.toNat 0) := by
  obtain ⟨h1, _⟩ := fst_at h
  have l1 := (List.getElem?_eq_some_iff.mp h1).1
  have kl := kk.len
  have e : mac[ns.findIdx fun u => decide (u = k)]? = some (mac[ns.findIdx fun u => decide (u = k)]'(by omega)) := List.getElem?_eq_getElem (by omega)
  unfold nxK
  rw [List.getD_eq_getElem?_getD, e]
  exact low_nx (kk.bits _ _ _ _ _ h1 h e hr) (kk.next _ _ _ _ _ h1 h e hr)
theorem rg_first {ns : List Nat} (rg : RG ns) {k i j x : Nat} (hi : ns[i]? = some k) (hj : ns[j]? = some x) (lt : j < ns.findIdx fun u => decide (u = k)) : x < k := by
  apply Nat.lt_of_not_le
  intro z
  -- from x down to k within j
  have dn : ∀ (d y j' : Nat), ns[j']? = some y → y = k + d → ∃ j2, j2 ≤ j' ∧ ns[j2]? = some k := fun d => by
    induction d with
    | zero => intro y j' e1 e2; exact ⟨j', Nat.le_refl _, by rw [e1, e2]; rfl⟩
    | succ d ih =>
      intro y j' e1 e2
      obtain ⟨j3, g1, g2⟩ := rg j' (k + d) (by rw [e1, e2]; rfl)
      obtain ⟨j2, g3, g4⟩ := ih _ j3 g2 rfl
      exact ⟨j2, by omega, g4⟩
  obtain ⟨j2, g1, g2⟩ := dn (x - k) x j hj (by omega)
  have := (fst_at g2).2
  omega
theorem rg_max {ns : List Nat} (rg : RG ns) {k i : Nat} (hi : ns[i]? = some k) : ∀ v, v ≤ k → ∃ j : Nat, ns[j]? = some v := fun v hv => rg_down rg (k - v) v i (by rw [hi]; congr 1; omega)
/-- the kinds come in the order in which they are first met -/
theorem ford_kinds {m : Nat} {ds : List Deed} {o : Int} {cs : List (List Int)} {mac : List MRow} {ns : List Nat} (wm : WM m ds o cs mac) (hl : mac.length = cs.length) (kk : KOk mac ns) {n : Nat} (hn : ∀ k, k < n ↔ k ∈ ns) : FOrd (nxK mac ns) (List.range n) := by
  have kl := kk.len
  intro k c hk hc
  have hkn := (List.getElem?_eq_some_iff.mp hc).1
  rw [List.length_range] at hkn
  rw [List.getElem?_range hkn] at hc
  obtain rfl := Option.some.inj hc
  obtain ⟨i0, hi0⟩ := List.mem_iff_getElem?.mp ((hn k).mp hkn)
  obtain ⟨hi, _⟩ := fst_at hi0
  have before : ∀ (j x : Nat), ns[j]? = some x → j < (ns.findIdx fun u => decide (u = k)) → x < k := fun j x hj lt => rg_first kk.rg hi0 hj lt
  generalize (ns.findIdx fun u => decide (u = k)) = i at hi before
  have il := (List.getElem?_eq_some_iff.mp hi).1
  have ipos : 0 < i := by
    apply Nat.pos_of_ne_zero
    rintro rfl
    have := rg_le kk.rg _ _ hi
    omega
  obtain ⟨p, t, a, s, p1, p2, p3, p4, p5⟩ := wm.fo i cs[i] ipos (List.getElem?_eq_getElem (by omega))
  have np : ns[p]? = some ns[p] := List.getElem?_eq_getElem (by omega)
  have pk := before p _ np p1
  -- the state behind a state
  have beh_ : ∀ (p' t' : Nat) (a' : List Int) (s' : Int × List Int) (j : Nat), cs[p']? = some a' → (stp m ds o a')[t']? = some s' → cs[j]? = some s'.2 → ∃ (x y : Nat) (b : Int), ns[p']? = some x ∧ ns[j]? = some y ∧ (nxK mac ns x)[t']? = some (b, y) := fun p' t' a' s' j q1 q2 q3 => by
    have pl := (List.getElem?_eq_some_iff.mp q1).1
    have jl := (List.getElem?_eq_some_iff.mp q3).1
    have er : mac[p']? = some mac[p'] := List.getElem?_eq_getElem (by omega)
    obtain ⟨c, w1, w2⟩ := wm.each p' _ er
    rw [q1] at w1
    obtain rfl := Option.some.inj w1
    obtain ⟨e, w3, w4, j', w5, w6⟩ := awGet2 w2 q2
    have ej := nd_idx wm.nd w6 q3
    subst ej
    have nx : ns[p']? = some ns[p'] := List.getElem?_eq_getElem (by omega)
    have ny : ns[j']? = some ns[j'] := List.getElem?_eq_getElem (by omega)
    refine ⟨_, _, e.1, nx, ny, ?_⟩
    rw [nxK_at kk nx er, List.getElem?_map, w3, Option.map_some, w5, Int.toNat_natCast, List.getD_eq_getElem?_getD, ny]
    rfl
  obtain ⟨x, y, b, x1, y1, x2⟩ := beh_ p t a s i p2 p3 (by rw [p4]; exact List.getElem?_eq_getElem (by omega))
  rw [np] at x1
  obtain rfl := Option.some.inj x1
  rw [hi] at y1
  obtain rfl := Option.some.inj y1
  have rangeAt : ∀ v, v < n → (List.range n)[v]? = some v := fun v hv => List.getElem?_range hv
  refine ⟨ns[p], t, ns[p], (b, k), pk, rangeAt _ (by omega), x2, rfl, fun p' t' a' s' h1 h2 h3 => ?_⟩
  have p'n := (List.getElem?_eq_some_iff.mp h2).1
  rw [List.length_range] at p'n
  rw [rangeAt _ p'n] at h2
  obtain rfl := Option.some.inj h2
  -- the first state of the kind p'
  obtain ⟨i1, hi1⟩ := List.mem_iff_getElem?.mp ((hn p').mp p'n)
  obtain ⟨f1, _⟩ := fst_at hi1
  have fp : (ns.findIdx fun u => decide (u = p')) < p ∨ (ns.findIdx fun u => decide (u = p')) = p ∧ t' < t := by
    rcases h1 with h1 | ⟨h1, h4⟩
    · left
      apply Nat.lt_of_not_le
      intro z
      rcases Nat.lt_or_eq_of_le z with z | z
      · have := rg_first kk.rg hi1 np z
        omega
      · rw [← z, np] at f1
        have := Option.some.inj f1
        omega
    · have := (fst_at (ns := ns) (k := p') (i := p) (by rw [np, h1])).2
      rcases Nat.lt_or_eq_of_le this with z | z
      · exact .inl z
      · exact .inr ⟨z, h4⟩
  generalize (ns.findIdx fun u => decide (u = p')) = i2 at f1 fp
  have i2l := (List.getElem?_eq_some_iff.mp f1).1
  have ec : cs[i2]? = some (cs[i2]'(by omega)) := List.getElem?_eq_getElem (by omega)
  have er : mac[i2]? = some (mac[i2]'(by omega)) := List.getElem?_eq_getElem (by omega)
  obtain ⟨c, w1, w2⟩ := wm.each i2 _ er
  rw [ec] at w1
  obtain rfl := Option.some.inj w1
  have h3' := h3
  rw [nxK_at kk f1 er, List.getElem?_map] at h3'
  cases ht : (mac[i2]'(by omega))[t']? with
  | none => rw [ht] at h3'; cases h3'
  | some e =>
    obtain ⟨s2, v1, v2, j2, v3, v4⟩ := awGet w2 ht
    obtain ⟨j, g1, g2⟩ := p5 i2 t' _ s2 fp ec v1
    obtain ⟨x', y', b', x3, y3, x4⟩ := beh_ i2 t' _ s2 j ec v1 g2
    rw [f1] at x3
    obtain rfl := Option.some.inj x3
    rw [h3] at x4
    obtain rfl := Option.some.inj x4
    have := before j _ y3 g1
    exact ⟨y', this, rangeAt _ (by omega)⟩
theorem linv_mem {mac lm : List MRow} {ns : List Nat} (h : LInv mac ns lm ns.length) (k : Nat) : k < lm.length ↔ k ∈ ns := by
  constructor
  · intro hk
    obtain ⟨i0, r, h1, _⟩ := h.each k lm[k] (List.getElem?_eq_getElem hk)
    exact List.mem_of_getElem? h1
  · intro hk
    obtain ⟨j, hj⟩ := List.mem_iff_getElem?.mp hk
    exact h.all j k (List.getElem?_eq_some_iff.mp hj).1 hj
theorem linv_row {mac lm : List MRow} {ns : List Nat} (h : LInv mac ns lm ns.length) (kk : KOk mac ns) {k : Nat} {row : MRow} (e : lm[k]? = some row) : row = (nxK mac ns k).map fun e => (e.1, (e.2 : Int)) := by
  obtain ⟨i0, r, h1, h2, h3⟩ := h.each k row e
  rw [h3, nxK_at kk h1 h2, List.map_map]
  rfl
/-- a machine that was numbered in another way, kind by kind as they are met -/
structure LNum (mac : List MRow) (ns : List Nat) (os : List Nat) (fm : List MRow) : Prop where
  nd : (os.map fun i => ns.getD i 0).Nodup
  first : os[0]? = some 0
  bnd : ∀ i ∈ os, i < ns.length
  fo : FOrd (nxK mac ns) (os.map fun i => ns.getD i 0)
  each : ∀ (k : Nat) row, fm[k]? = some row → ∃ i r, os[k]? = some i ∧ mac[i]? = some r ∧ Paired (fun (e e' : Int × Int) => e'.1 = e.1 ∧ ∃ j i' : Nat, e'.2 = (j : Int) ∧ os[j]? = some i' ∧ ns.getD i' 0 = ns.getD e.2.toNat 0) r row
theorem LNum.eq {m : Nat} {ds : List Deed} {o : Int} {cs : List (List Int)} {mac lm fm : List MRow} {ns os : List Nat} (h : LNum mac ns os fm) (hf : fm.length = os.length) (wm : WM m ds o cs mac) (hl : mac.length = cs.length) (kk : KOk mac ns) (li : LInv mac ns lm ns.length) : fm = lm := by
  have kl := kk.len
  have pos : 0 < cs.length := (List.getElem?_eq_some_iff.mp wm.first).1
  have fo := ford_kinds wm hl kk (linv_mem li)
  have getd : ∀ i, i < ns.length → ns[i]? = some (ns.getD i 0) := fun i hi => by rw [List.getD_eq_getElem?_getD, List.getElem?_eq_getElem hi]; rfl
  have z0 : ns[0]? = some 0 := by
    have h0 : ns[0]? = some ns[0] := List.getElem?_eq_getElem (by omega)
    have := rg_le kk.rg _ _ h0
    rw [h0]
    congr 1
    omega
  have lpos : 0 < lm.length := (linv_mem li 0).mpr (List.mem_of_getElem? z0)
  have opos : 0 < os.length := (List.getElem?_eq_some_iff.mp h.first).1
  have eq := ford_eq h.nd List.nodup_range (by rw [List.getElem?_map, h.first, List.getElem?_range lpos, Option.map_some, List.getD_eq_getElem?_getD, z0]; rfl) h.fo fo (fun a ha s hs => ?_) (fun a ha s hs => ?_) (by rwa [List.length_map]) (by rwa [List.length_range])
  · -- so the numbers are the kinds
    have ol : os.length = lm.length := by
      have := congrArg List.length eq
      rwa [List.length_map, List.length_range] at this
    have kind : ∀ (k i : Nat), os[k]? = some i → ns.getD i 0 = k := fun k i e => by
      have h1 : (os.map fun i => ns.getD i 0)[k]? = some (ns.getD i 0) := by rw [List.getElem?_map, e]; rfl
      rw [eq, List.getElem?_range (by have := (List.getElem?_eq_some_iff.mp e).1; omega)] at h1
      exact (Option.some.inj h1).symm
    refine List.ext_getElem (by omega) fun k h1 h2 => ?_
    obtain ⟨i, r, e1, e2, e3⟩ := h.each k _ (List.getElem?_eq_getElem h1)
    have ki := kind k i e1
    have ni : ns[i]? = some k := by rw [getd i (h.bnd i (List.mem_of_getElem? e1)), ki]
    rw [linv_row li kk (List.getElem?_eq_getElem h2), nxK_at kk ni e2, List.map_map]
    apply List.ext_getElem?
    intro t
    rw [List.getElem?_map]
    cases ht : r[t]? with
    | none =>
      rw [Option.map_none, List.getElem?_eq_none_iff, ← awLen e3]
      exact List.getElem?_eq_none_iff.mp ht
    | some e =>
      obtain ⟨e', g1, g2, j, i', g3, g4, g5⟩ := awGet e3 ht
      rw [g1, Option.map_some]
      refine congrArg some (Prod.ext g2 ?_)
      rw [g3, ← kind j i' g4, g5]
      rfl
  · -- closed: the rows of fm
    obtain ⟨i, hi, rfl⟩ := List.mem_map.mp ha
    obtain ⟨k, hk⟩ := List.mem_iff_getElem?.mp hi
    have kl2 := (List.getElem?_eq_some_iff.mp hk).1
    obtain ⟨i', r, e1, e2, e3⟩ := h.each k fm[k] (List.getElem?_eq_getElem (by omega))
    rw [hk] at e1
    obtain rfl := Option.some.inj e1
    rw [nxK_at kk (getd i (h.bnd i hi)) e2] at hs
    obtain ⟨e, g1, rfl⟩ := List.mem_map.mp hs
    obtain ⟨t, ht⟩ := List.mem_iff_getElem?.mp g1
    obtain ⟨e', _, _, j, i', _, g4, g5⟩ := awGet e3 ht
    rw [← g5]
    exact List.mem_map.mpr ⟨i', List.mem_of_getElem? g4, rfl⟩
  · rw [List.mem_range] at ha ⊢
    obtain ⟨i, hi⟩ := List.mem_iff_getElem?.mp ((linv_mem li a).mp ha)
    have il := (List.getElem?_eq_some_iff.mp hi).1
    have er : mac[i]? = some (mac[i]'(by omega)) := List.getElem?_eq_getElem (by omega)
    rw [nxK_at kk hi er] at hs
    obtain ⟨e, g1, rfl⟩ := List.mem_map.mp hs
    obtain ⟨t, ht⟩ := List.mem_iff_getElem?.mp g1
    obtain ⟨c, w1, w2⟩ := wm.each i _ er
    obtain ⟨s', _, _, j, v3, v4⟩ := awGet w2 ht
    have jl := (List.getElem?_eq_some_iff.mp v4).1
    refine (linv_mem li _).mpr ?_
    rw [v3, Int.toNat_natCast]
    exact List.mem_of_getElem? (getd j (by omega))
/-- the machine of all carries is one only -/
theorem wm_eq {m : Nat} {ds : List Deed} {o : Int} {cs cs' : List (List Int)} {mac mac' : List MRow} (wm : WM m ds o cs mac) (hl : mac.length = cs.length) (wm' : WM m ds o cs' mac') (hl' : mac'.length = cs'.length) : mac = mac' := by
  have cl : ∀ {cs : List (List Int)} {mac : List MRow}, WM m ds o cs mac → mac.length = cs.length → ∀ a ∈ cs, ∀ s ∈ stp m ds o a, s.2 ∈ cs := fun {cs mac} wm hl a ha s hs => by
    obtain ⟨i, hi⟩ := List.mem_iff_getElem?.mp ha
    have il := (List.getElem?_eq_some_iff.mp hi).1
    obtain ⟨c, w1, w2⟩ := wm.each i _ (List.getElem?_eq_getElem (show i < mac.length by omega))
    rw [hi] at w1
    obtain rfl := Option.some.inj w1
    obtain ⟨t, ht⟩ := List.mem_iff_getElem?.mp hs
    obtain ⟨e, _, _, j, _, w6⟩ := awGet2 w2 ht
    exact List.mem_of_getElem? w6
  have pos : 0 < cs.length := (List.getElem?_eq_some_iff.mp wm.first).1
  have pos' : 0 < cs'.length := (List.getElem?_eq_some_iff.mp wm'.first).1
  have eq := ford_eq wm.nd wm'.nd (wm.first.trans wm'.first.symm) wm.fo wm'.fo (cl wm hl) (cl wm' hl') pos pos'
  subst eq
  refine List.ext_getElem (by omega) fun i h1 h2 => ?_
  obtain ⟨c, a1, a2⟩ := wm.each i _ (List.getElem?_eq_getElem h1)
  obtain ⟨c', b1, b2⟩ := wm'.each i _ (List.getElem?_eq_getElem h2)
  rw [a1] at b1
  obtain rfl := Option.some.inj b1
  refine List.ext_getElem (by rw [awLen a2, awLen b2]) fun t g1 g2 => ?_
  obtain ⟨s, e1, e2, j, e3, e4⟩ := awGet a2 (List.getElem?_eq_getElem g1)
  obtain ⟨s', d1, d2, j', d3, d4⟩ := awGet b2 (List.getElem?_eq_getElem g2)
  rw [e1] at d1
  obtain rfl := Option.some.inj d1
  refine Prod.ext (e2.trans d2.symm) ?_
  rw [e3, d3, nd_idx wm.nd e4 d4]
/-! ### pairs of carries that come (of sec_wsum, sec_bfs, sec_rtm, sec_psem, alone) -/
abbrev PC := List Int × List Int
def ob (ds : List Deed) (o : Int) (c bs : List Int) : Int := (bts ds c bs).getD o.toNat 0
def nc (ds : List Deed) (c bs : List Int) : List Int := nxt ds c (bts ds c bs)
def nx2 (ds1 ds2 : List Deed) (q : PC) (bs : List Int) : PC := (nc ds1 q.1 bs, nc ds2 q.2 bs)
def RtS (m : Nat) (ds1 ds2 : List Deed) : Nat → PC → Prop
  | 0, q => q = (ds1.map fcD, ds2.map fcD)
  | t + 1, q => ∃ q0 bs, RtS m ds1 ds2 t q0 ∧ bs ∈ allB m ∧ q = nx2 ds1 ds2 q0 bs
def PrtS (m : Nat) (ds1 : List Deed) (o1 : Int) (ds2 : List Deed) (o2 : Int) (t : Nat) : Prop := ∃ q bs, RtS m ds1 ds2 t q ∧ bs ∈ allB m ∧ ¬ ob ds1 o1 q.1 bs = ob ds2 o2 q.2 bs
theorem rtS_swap {m : Nat} {ds1 ds2 : List Deed} : ∀ {t : Nat} {q : PC}, RtS m ds1 ds2 t q → RtS m ds2 ds1 t (q.2, q.1)
  | 0, q, h => by
    have h' : q = _ := h
    rw [h']
    rfl
  | t + 1, q, ⟨q0, bs, h, hb, e⟩ => ⟨(q0.2, q0.1), bs, rtS_swap h, hb, by rw [e]; rfl⟩
theorem prtS_swap {m : Nat} {ds1 ds2 : List Deed} {o1 o2 : Int} {t : Nat} (h : PrtS m ds1 o1 ds2 o2 t) : PrtS m ds2 o2 ds1 o1 t := by
  obtain ⟨q, bs, h1, h2, h3⟩ := h
  exact ⟨(q.2, q.1), bs, rtS_swap h1, h2, fun z => h3 z.symm⟩
/-! ### alike rows have one least machine, others don't -/
def KdS (cs : List (List Int)) (ns : List Nat) (c : List Int) (k : Nat) : Prop := ∃ i : Nat, cs[i]? = some c ∧ ns[i]? = some k
structure Mch (m : Nat) (ds : List Deed) (o : Int) (cs : List (List Int)) (mac : List MRow) (ns : List Nat) (lm : List MRow) : Prop where
  wm : WM m ds o cs mac
  hl : mac.length = cs.length
  kk : KOk mac ns
  li : LInv mac ns lm ns.length
theorem awLeft {α β γ : Type} {F : γ → β → Prop} {g : α → γ} : ∀ {l : List α} {l2 : List β}, Paired (fun a b => F (g a) b) l l2 → Paired F (l.map g) l2
  | _, _, .nil => .nil
  | _, _, .cons h t => .cons h (awLeft t)
section canon
variable {m : Nat} {ds ds1 ds2 : List Deed} {o o1 o2 : Int} {cs cs1 cs2 : List (List Int)} {mac mac1 mac2 : List MRow} {ns ns1 ns2 : List Nat} {lm lm1 lm2 : List MRow}
theorem Mch.uniq (M : Mch m ds o cs mac ns lm) {c : List Int} {k k' : Nat} (h : KdS cs ns c k) (h' : KdS cs ns c k') : k = k' := by
  obtain ⟨i, a, b⟩ := h
  obtain ⟨j, a', b'⟩ := h'
  rw [nd_idx M.wm.nd a a', b'] at b
  exact (Option.some.inj b).symm
theorem Mch.ex (M : Mch m ds o cs mac ns lm) {c : List Int} (h : c ∈ cs) : ∃ k, KdS cs ns c k := by
  obtain ⟨i, hi⟩ := List.mem_iff_getElem?.mp h
  have hl := M.hl
  have kl := M.kk.len
  have il := (List.getElem?_eq_some_iff.mp hi).1
  exact ⟨ns[i]'(by omega), i, hi, List.getElem?_eq_getElem (by omega)⟩
theorem Mch.first (M : Mch m ds o cs mac ns lm) : KdS cs ns (ds.map fcD) 0 := by
  have hl := M.hl
  have kl := M.kk.len
  have pos := (List.getElem?_eq_some_iff.mp M.wm.first).1
  refine ⟨0, M.wm.first, ?_⟩
  have h0 : ns[0]? = some (ns[0]'(by omega)) := List.getElem?_eq_getElem (by omega)
  have := rg_le M.kk.rg _ _ h0
  rw [h0]
  congr 1
  omega
theorem Mch.row (M : Mch m ds o cs mac ns lm) {c : List Int} {k : Nat} (h : KdS cs ns c k) : Paired (fun (e : Int × Nat) (s : Int × List Int) => e.1 = s.1 ∧ KdS cs ns s.2 e.2) (nxK mac ns k) (stp m ds o c) := by
  obtain ⟨i, a, b⟩ := h
  have hl := M.hl
  have kl := M.kk.len
  have il := (List.getElem?_eq_some_iff.mp a).1
  have er : mac[i]? = some (mac[i]'(by omega)) := List.getElem?_eq_getElem (by omega)
  rw [nxK_at M.kk b er]
  obtain ⟨c', w1, w2⟩ := M.wm.each i _ er
  rw [a] at w1
  obtain rfl := Option.some.inj w1
  refine awLeft (awMap (fun e s z => ?_) w2)
  obtain ⟨z1, j, z2, z3⟩ := z
  have jl := (List.getElem?_eq_some_iff.mp z3).1
  refine ⟨z1, j, z3, ?_⟩
  show ns[j]? = some (ns.getD e.2.toNat 0)
  rw [z2, Int.toNat_natCast, List.getD_eq_getElem?_getD, List.getElem?_eq_getElem (show j < ns.length by omega)]
  rfl
theorem Mch.lt (M : Mch m ds o cs mac ns lm) {c : List Int} {k : Nat} (h : KdS cs ns c k) : k < lm.length := by
  obtain ⟨i, a, b⟩ := h
  exact (linv_mem M.li k).mpr (List.mem_of_getElem? b)
theorem Mch.surj (M : Mch m ds o cs mac ns lm) {k : Nat} (h : k < lm.length) : ∃ c, c ∈ cs ∧ KdS cs ns c k := by
  obtain ⟨i, hi⟩ := List.mem_iff_getElem?.mp ((linv_mem M.li k).mp h)
  have hl := M.hl
  have kl := M.kk.len
  have il := (List.getElem?_eq_some_iff.mp hi).1
  exact ⟨cs[i]'(by omega), List.getElem_mem _, i, List.getElem?_eq_getElem (by omega), hi⟩
theorem Mch.pos (M : Mch m ds o cs mac ns lm) : 0 < lm.length := M.lt M.first
theorem Mch.at (M : Mch m ds o cs mac ns lm) {c bs : List Int} {k t : Nat} (h : KdS cs ns c k) (ht : (allB m)[t]? = some bs) : ∃ k', (nxK mac ns k)[t]? = some (ob ds o c bs, k') ∧ KdS cs ns (nc ds c bs) k' := by
  have es : (stp m ds o c)[t]? = some (ob ds o c bs, nc ds c bs) := by
    unfold stp
    rw [List.getElem?_map, ht]
    rfl
  obtain ⟨⟨b, k'⟩, e1, e2, e3⟩ := awGet2 (M.row h) es
  have e2' : b = ob ds o c bs := e2
  exact ⟨k', by rw [e1, e2'], e3⟩
theorem Mch.len (M : Mch m ds o cs mac ns lm) {c : List Int} {k : Nat} (h : KdS cs ns c k) : (nxK mac ns k).length = (allB m).length := by
  rw [awLen (M.row h)]
  exact List.length_map ..
abbrev Rc (m : Nat) (ds1 ds2 : List Deed) (q : PC) : Prop := ∃ t, RtS m ds1 ds2 t q
theorem rc_first : Rc m ds1 ds2 (ds1.map fcD, ds2.map fcD) := ⟨0, rfl⟩
theorem rc_next {q : PC} {bs : List Int} (h : Rc m ds1 ds2 q) (hb : bs ∈ allB m) : Rc m ds1 ds2 (nc ds1 q.1 bs, nc ds2 q.2 bs) := by
  obtain ⟨t, h⟩ := h
  exact ⟨t + 1, q, bs, h, hb, rfl⟩
theorem rc_swap {q : PC} (h : Rc m ds1 ds2 q) : Rc m ds2 ds1 (q.2, q.1) := by
  obtain ⟨t, h⟩ := h
  exact ⟨t, rtS_swap h⟩
theorem rc_bits (nv : ∀ t, ¬ PrtS m ds1 o1 ds2 o2 t) {q : PC} {bs : List Int} (h : Rc m ds1 ds2 q) (hb : bs ∈ allB m) : ob ds1 o1 q.1 bs = ob ds2 o2 q.2 bs := by
  obtain ⟨t, h⟩ := h
  false_or_by_contra
  rename_i ne
  exact nv t ⟨q, bs, h, hb, ne⟩
/-- each carry comes, with another one beside it -/
theorem Mch.beside (M : Mch m ds2 o2 cs mac ns lm) {c : List Int} (h : c ∈ cs) : ∃ c1, Rc m ds1 ds2 (c1, c) := by
  obtain ⟨i, hi⟩ := List.mem_iff_getElem?.mp h
  have key : ∀ n : Nat, ∀ i c, i ≤ n → cs[i]? = some c → ∃ c1, Rc m ds1 ds2 (c1, c) := by
    intro n
    induction n with
    | zero =>
      intro i c hi e
      obtain rfl : i = 0 := by omega
      rw [M.wm.first] at e
      obtain rfl := Option.some.inj e
      exact ⟨ds1.map fcD, rc_first⟩
    | succ n ih =>
      intro i c hi e
      by_cases h0 : i = 0
      · subst h0
        rw [M.wm.first] at e
        obtain rfl := Option.some.inj e
        exact ⟨ds1.map fcD, rc_first⟩
      · obtain ⟨p, t, a, s, hp, ha, hs, rfl, _⟩ := M.wm.fo i c (by omega) e
        obtain ⟨c1, r⟩ := ih p a (by omega) ha
        unfold stp at hs
        rw [List.getElem?_map] at hs
        obtain ⟨bs, hb, rfl⟩ := Option.map_eq_some_iff.mp hs
        exact ⟨nc ds1 c1 bs, rc_next (q := (c1, a)) r (List.mem_of_getElem? hb)⟩
  exact key i i c (Nat.le_refl i) hi
theorem Mch.mem1 (M : Mch m ds1 o1 cs mac ns lm) {q : PC} (h : Rc m ds1 ds2 q) : ∃ k, KdS cs ns q.1 k := by
  obtain ⟨t, h⟩ := h
  induction t generalizing q with
  | zero =>
    have h' : q = _ := h
    rw [h']
    exact ⟨0, M.first⟩
  | succ t ih =>
    obtain ⟨q0, bs, h0, hb, rfl⟩ := h
    obtain ⟨k, hk⟩ := ih h0
    obtain ⟨j, hj⟩ := List.mem_iff_getElem?.mp hb
    obtain ⟨k', _, e⟩ := M.at hk hj
    exact ⟨k', e⟩
theorem Mch.mem2 (M : Mch m ds2 o2 cs mac ns lm) {q : PC} (h : Rc m ds1 ds2 q) : ∃ k, KdS cs ns q.2 k := M.mem1 (rc_swap h)
/-- kinds of the one tell kinds of the other -/
theorem Mch.wd (M1 : Mch m ds1 o1 cs1 mac1 ns1 lm1) (M2 : Mch m ds2 o2 cs2 mac2 ns2 lm2) (nv : ∀ t, ¬ PrtS m ds1 o1 ds2 o2 t) {q q' : PC} {j k k' : Nat} (h : Rc m ds1 ds2 q) (h' : Rc m ds1 ds2 q') (a : KdS cs2 ns2 q.2 j) (a' : KdS cs2 ns2 q'.2 j)
    (b : KdS cs1 ns1 q.1 k) (b' : KdS cs1 ns1 q'.1 k') : k = k' := by
  obtain ⟨i, b1, b2⟩ := b
  obtain ⟨i', b1', b2'⟩ := b'
  have hl := M1.hl
  have e := M1.kk.crs (fun x y => ∃ (q q' : PC) (j : Nat), Rc m ds1 ds2 q ∧ Rc m ds1 ds2 q' ∧ KdS cs2 ns2 q.2 j ∧ KdS cs2 ns2 q'.2 j ∧ cs1[x]? = some q.1 ∧ cs1[y]? = some q'.1) (fun x y hxy => ?_) i i' ⟨q, q', j, h, h', a, a', b1, b1'⟩
  · rw [b2, b2'] at e
    exact Option.some.inj e
  · obtain ⟨q, q', j, h, h', a, a', c1, c1'⟩ := hxy
    have xl := (List.getElem?_eq_some_iff.mp c1).1
    have yl := (List.getElem?_eq_some_iff.mp c1').1
    have er : mac1[x]? = some (mac1[x]'(by omega)) := List.getElem?_eq_getElem (by omega)
    have er' : mac1[y]? = some (mac1[y]'(by omega)) := List.getElem?_eq_getElem (by omega)
    obtain ⟨c, w1, w2⟩ := M1.wm.each x _ er
    rw [c1] at w1
    obtain rfl := Option.some.inj w1
    obtain ⟨c', w1', w2'⟩ := M1.wm.each y _ er'
    rw [c1'] at w1'
    obtain rfl := Option.some.inj w1'
    refine ⟨_, _, er, er', paired_of (by rw [awLen w2, awLen w2']; unfold stp; rw [List.length_map, List.length_map]) fun t e e' he he' => ?_⟩
    obtain ⟨s, s1, s2, u, s3, s4⟩ := awGet w2 he
    obtain ⟨s', s1', s2', u', s3', s4'⟩ := awGet w2' he'
    unfold stp at s1 s1'
    rw [List.getElem?_map] at s1 s1'
    obtain ⟨bs, hb, rfl⟩ := Option.map_eq_some_iff.mp s1
    rw [hb] at s1'
    obtain rfl := Option.some.inj s1'
    have bm := List.mem_of_getElem? hb
    obtain ⟨k1, g1, g2⟩ := M2.at a hb
    obtain ⟨k2, g1', g2'⟩ := M2.at a' hb
    rw [g1] at g1'
    have gg := Option.some.inj g1'
    obtain ⟨gb, rfl⟩ := Prod.mk.inj gg
    refine ⟨?_, (nc ds1 q.1 bs, nc ds2 q.2 bs), (nc ds1 q'.1 bs, nc ds2 q'.2 bs), k1, rc_next h bm, rc_next h' bm, g2, g2', ?_, ?_⟩
    · rw [s2, s2']
      exact (rc_bits nv h bm).trans (gb.trans (rc_bits nv h' bm).symm)
    · rw [s3, Int.toNat_natCast]
      exact s4
    · rw [s3', Int.toNat_natCast]
      exact s4'
theorem ford_map {L L' : Type} {nx : L → List (Int × L)} {nx' : L' → List (Int × L')} {f : L → L'} {cs : List L} (h : FOrd nx cs) (e : ∀ a ∈ cs, nx' (f a) = (nx a).map fun s => (s.1, f s.2)) : FOrd nx' (cs.map f) := by
  intro k c hk hc
  rw [List.getElem?_map] at hc
  obtain ⟨c0, hc0, rfl⟩ := Option.map_eq_some_iff.mp hc
  obtain ⟨p, t, a, s, hp, ha, hs, rfl, hmin⟩ := h k c0 hk hc0
  refine ⟨p, t, f a, (s.1, f s.2), hp, by rw [List.getElem?_map, ha]; rfl, ?_, rfl, fun p' t' a' s' hlt ha' hs' => ?_⟩
  · rw [e a (List.mem_of_getElem? ha), List.getElem?_map, hs]
    rfl
  · rw [List.getElem?_map] at ha'
    obtain ⟨a0, h0, rfl⟩ := Option.map_eq_some_iff.mp ha'
    rw [e a0 (List.mem_of_getElem? h0), List.getElem?_map] at hs'
    obtain ⟨s0, g0, rfl⟩ := Option.map_eq_some_iff.mp hs'
    obtain ⟨j, j1, j2⟩ := hmin p' t' a0 s0 hlt h0 g0
    exact ⟨j, j1, by rw [List.getElem?_map, j2]; rfl⟩
/-- alike rows have one least machine -/
theorem Mch.one (M1 : Mch m ds1 o1 cs1 mac1 ns1 lm1) (M2 : Mch m ds2 o2 cs2 mac2 ns2 lm2) (nv : ∀ t, ¬ PrtS m ds1 o1 ds2 o2 t) : lm1 = lm2 := by
  have nv' : ∀ t, ¬ PrtS m ds2 o2 ds1 o1 t := fun t h => nv t (prtS_swap h)
  have tot : ∀ j, ∃ k, j < lm2.length → ∃ q, Rc m ds1 ds2 q ∧ KdS cs2 ns2 q.2 j ∧ KdS cs1 ns1 q.1 k := fun j => by
    by_cases hj : j < lm2.length
    · obtain ⟨c2, hc, hk⟩ := M2.surj hj
      obtain ⟨c1, r⟩ := M2.beside (ds1 := ds1) hc
      obtain ⟨k, hk1⟩ := M1.mem1 r
      exact ⟨k, fun _ => ⟨_, r, hk, hk1⟩⟩
    · exact ⟨0, fun z => absurd z hj⟩
  obtain ⟨f, hf⟩ : ∃ f : Nat → Nat, ∀ j, j < lm2.length → ∃ q, Rc m ds1 ds2 q ∧ KdS cs2 ns2 q.2 j ∧ KdS cs1 ns1 q.1 (f j) := ⟨fun j => (tot j).choose, fun j => (tot j).choose_spec⟩
  have fun1 : ∀ {q : PC} {j k : Nat}, Rc m ds1 ds2 q → KdS cs2 ns2 q.2 j → KdS cs1 ns1 q.1 k → k = f j := fun r a b => by
    obtain ⟨q', r', a', b'⟩ := hf _ (M2.lt a)
    exact M1.wd M2 nv r r' a a' b b'
  have inj : ∀ j j', j < lm2.length → j' < lm2.length → f j = f j' → j = j' := fun j j' hj hj' e => by
    obtain ⟨q, r, a, b⟩ := hf j hj
    obtain ⟨q', r', a', b'⟩ := hf j' hj'
    rw [← e] at b'
    exact M2.wd M1 nv' (rc_swap r) (rc_swap r') b b' a a'
  have row : ∀ j, j < lm2.length → nxK mac1 ns1 (f j) = (nxK mac2 ns2 j).map fun s => (s.1, f s.2) := fun j hj => by
    obtain ⟨q, r, a, b⟩ := hf j hj
    have l1 := M1.len b
    have l2 := M2.len a
    refine List.ext_getElem? fun t => ?_
    rw [List.getElem?_map]
    cases ht : (allB m)[t]? with
    | none =>
      have tl := List.getElem?_eq_none_iff.mp ht
      rw [List.getElem?_eq_none (by omega), List.getElem?_eq_none (by omega)]
      rfl
    | some bs =>
      have bm := List.mem_of_getElem? ht
      obtain ⟨k1, g1, g2⟩ := M1.at b ht
      obtain ⟨k2, g1', g2'⟩ := M2.at a ht
      rw [g1, g1', fun1 (rc_next r bm) g2' g2, rc_bits nv r bm]
      rfl
  have f0 : f 0 = 0 := (fun1 rc_first M2.first M1.first).symm
  have p1 := M1.pos
  have p2 := M2.pos
  have ndf : ((List.range lm2.length).map f).Nodup := by
    rw [List.nodup_iff_pairwise_ne, List.pairwise_map]
    refine List.Pairwise.imp_of_mem (fun {a b} ha hb ne z => ne (inj a b (List.mem_range.mp ha) (List.mem_range.mp hb) z)) (List.nodup_iff_pairwise_ne.mp List.nodup_range)
  have clo : ∀ {ds : List Deed} {o : Int} {cs : List (List Int)} {mac : List MRow} {ns : List Nat} {lm : List MRow}, Mch m ds o cs mac ns lm → ∀ a, a < lm.length → ∀ s ∈ nxK mac ns a, s.2 < lm.length := fun M a ha s hs => by
    obtain ⟨c, _, hk⟩ := M.surj ha
    obtain ⟨t, ht⟩ := List.mem_iff_getElem?.mp hs
    obtain ⟨s', _, _, e⟩ := awGet (M.row hk) ht
    exact M.lt e
  have eq := ford_eq List.nodup_range ndf (by rw [List.getElem?_map, List.getElem?_range p1, List.getElem?_range p2, Option.map_some, f0]) (ford_kinds M1.wm M1.hl M1.kk (linv_mem M1.li)) (ford_map (ford_kinds M2.wm M2.hl M2.kk (linv_mem M2.li)) fun a ha => row a (List.mem_range.mp ha))
    (fun a ha s hs => List.mem_range.mpr (clo M1 a (List.mem_range.mp ha) s hs))
    (fun a ha s hs => by
      obtain ⟨j, hj, rfl⟩ := List.mem_map.mp ha
      rw [row j (List.mem_range.mp hj)] at hs
      obtain ⟨s0, h0, rfl⟩ := List.mem_map.mp hs
      exact List.mem_map.mpr ⟨s0.2, List.mem_range.mpr (clo M2 j (List.mem_range.mp hj) s0 h0), rfl⟩)
    (by rwa [List.length_range]) (by rwa [List.length_map, List.length_range])
  have len : lm1.length = lm2.length := by
    have := congrArg List.length eq
    rwa [List.length_range, List.length_map, List.length_range] at this
  have idf : ∀ j, j < lm2.length → f j = j := fun j hj => by
    have h1 : ((List.range lm2.length).map f)[j]? = some (f j) := by rw [List.getElem?_map, List.getElem?_range hj]; rfl
    rw [← eq, List.getElem?_range (by omega)] at h1
    exact (Option.some.inj h1).symm
  refine List.ext_getElem len fun k h1 h2 => ?_
  rw [linv_row M1.li M1.kk (List.getElem?_eq_getElem h1), linv_row M2.li M2.kk (List.getElem?_eq_getElem h2)]
  have rk := row k h2
  rw [idf k h2] at rk
  rw [rk, List.map_map]
  refine List.map_congr_left fun s hs => ?_
  show (s.1, ((f s.2 : Nat) : Int)) = (s.1, (s.2 : Int))
  rw [idf s.2 (clo M2 k h2 s hs)]
/-- rows with one least machine are alike -/
theorem Mch.alike (M1 : Mch m ds1 o1 cs1 mac1 ns1 lm) (M2 : Mch m ds2 o2 cs2 mac2 ns2 lm) (t : Nat) : ¬ PrtS m ds1 o1 ds2 o2 t := by
  have eqk : ∀ k, k < lm.length → nxK mac1 ns1 k = nxK mac2 ns2 k := fun k hk => by
    have e1 := linv_row M1.li M1.kk (List.getElem?_eq_getElem hk)
    have e2 := linv_row M2.li M2.kk (List.getElem?_eq_getElem hk)
    rw [e1] at e2
    refine List.ext_getElem? fun i => ?_
    have e3 := congrArg (fun l : MRow => l[i]?) e2
    simp only [List.getElem?_map] at e3
    cases h1 : (nxK mac1 ns1 k)[i]? with
    | none =>
      rw [h1] at e3
      cases h2 : (nxK mac2 ns2 k)[i]? with
      | none => rfl
      | some y => rw [h2] at e3; cases e3
    | some x =>
      rw [h1] at e3
      cases h2 : (nxK mac2 ns2 k)[i]? with
      | none => rw [h2] at e3; cases e3
      | some y =>
        rw [h2] at e3
        have e4 := Prod.mk.inj (Option.some.inj e3)
        exact congrArg some (Prod.ext e4.1 (Int.ofNat.inj e4.2))
  have both : ∀ t q, RtS m ds1 ds2 t q → ∃ k, KdS cs1 ns1 q.1 k ∧ KdS cs2 ns2 q.2 k := by
    intro t
    induction t with
    | zero =>
      intro q h
      have h' : q = _ := h
      rw [h']
      exact ⟨0, M1.first, M2.first⟩
    | succ t ih =>
      rintro q ⟨q0, bs, h0, hb, rfl⟩
      obtain ⟨k, a, b⟩ := ih q0 h0
      obtain ⟨j, hj⟩ := List.mem_iff_getElem?.mp hb
      obtain ⟨k1, g1, g2⟩ := M1.at a hj
      obtain ⟨k2, g1', g2'⟩ := M2.at b hj
      rw [eqk k (M1.lt a), g1'] at g1
      obtain ⟨_, rfl⟩ := Prod.mk.inj (Option.some.inj g1)
      exact ⟨k2, g2, g2'⟩
  rintro ⟨q, bs, hq, hb, ne⟩
  obtain ⟨k, a, b⟩ := both t q hq
  obtain ⟨j, hj⟩ := List.mem_iff_getElem?.mp hb
  obtain ⟨k1, g1, g2⟩ := M1.at a hj
  obtain ⟨k2, g1', g2'⟩ := M2.at b hj
  rw [eqk k (M1.lt a), g1'] at g1
  exact ne (Prod.mk.inj (Option.some.inj g1)).1.symm
theorem lm_mch (h : LmOk m ds o lm) : ∃ cs mac ns, Mch m ds o cs mac ns lm := by
  obtain ⟨cs, mac, ns, a, b, c, d⟩ := h.src
  exact ⟨cs, mac, ns, a, b, c, d⟩
theorem lm_eq (h1 : LmOk m ds1 o1 lm1) (h2 : LmOk m ds2 o2 lm2) : lm1 = lm2 ↔ ∀ t, ¬ PrtS m ds1 o1 ds2 o2 t := by
  obtain ⟨_, _, _, M1⟩ := lm_mch h1
  obtain ⟨_, _, _, M2⟩ := lm_mch h2
  constructor
  · intro e
    subst e
    exact fun t => M1.alike M2 t
  · exact fun nv => M1.one M2 nv
end canon
/-! ### look_of: what is one for alike rows -/
def stK (row : MRow) : NestedKey := .tup (row.map fun e => .tup [.num e.1, .num e.2])
def lookK (m : Nat) (lm : List MRow) : NestedKey := .tup [.num (m : Int), .tup (lm.map stK)]
theorem lookK_inj {m n : Nat} {a b : List MRow} (h : lookK m a = lookK n b) : m = n ∧ a = b := by
  unfold lookK at h
  injection h with h
  injection h with h1 h2
  injection h2 with h2 _
  injection h1 with h1
  injection h2 with h2
  refine ⟨by exact_mod_cast h1, ?_⟩
  have inj : ∀ r s : MRow, stK r = stK s → r = s := by
    intro r s e
    unfold stK at e
    injection e with e
    induction r generalizing s with
    | nil =>
      cases s with
      | nil => rfl
      | cons _ _ => cases e
    | cons x r ih =>
      cases s with
      | nil => cases e
      | cons y s =>
        rw [List.map_cons, List.map_cons] at e
        injection e with e1 e2
        injection e1 with e1
        injection e1 with a1 a2
        injection a2 with a2 _
        injection a1 with a1
        injection a2 with a2
        rw [ih s e2, Prod.ext a1 a2]
  clear h1
  induction a generalizing b with
  | nil =>
    cases b with
    | nil => rfl
    | cons _ _ => cases h2
  | cons x a ih =>
    cases b with
    | nil => cases h2
    | cons y b =>
      rw [List.map_cons, List.map_cons] at h2
      injection h2 with e1 e2
      rw [inj x y e1, ih e2]
theorem nks_app {H : Hp} : ∀ {ks js : List NestedKey} {xs ys : List V}, NkAll H ks xs → NkAll H js ys → NkAll H (ks ++ js) (xs ++ ys)
  | _, _, _, _, .nil, h => h
  | _, _, _, _, .cons h t, g => .cons h (nks_app t g)
def rTupO2 (K : PySem.W.Frag) : List V → Hp → VK → Prop := fun xs H Q => ∃ p ys, xs = [V.ref p] ∧ ((SqL K H p ys ∧ ∀ (l : Addr), H l = none → Q (.ref l) (upd H l (.tup ys))) ∨ (SqT K H p ys ∧ Q (.ref p) H))
def spLk : Sp := fun vs H Q _ => ∃ (R : Addr) (m : Nat) (o : Int) (ds : List Deed), vs = [.ref R] ∧ RowAt H R m ds o ∧ RowOk m ds o ∧
  ∀ (H' : Hp) (T : Addr) (lm : List MRow), Same H H' → LmOk m ds o lm → NkAt H' (lookK m lm) (.ref T) → Q (.ref T) H'
theorem ok_lk {f fL : Addr} {fd fdL : FuncData} {k : Nat} (F : Fun K "look_of" "look_of" s_look_of f fd)
    (GL : FnOk P w K mg base CX0 (k + 6) fL fdL ["row"] spLm) (kL : PySem.W.keepIn K (.ref fL) = true) (bL : Binds K fdL ["row"] []) (gL : mg "least_machine" = some (.ref fL)) (mt : mg "tuple" = none) : FnOk P w K mg base CX0 (k + 7) f fd ["row"] spLk := by
  refine F.ok sc_look_of (fun vs H Q E h => ?_) (fun cdv A outer s H vs Q E hr h => ?_)
  · obtain ⟨R, m, o, ds, rfl, _⟩ := h
    rfl
  · obtain ⟨R, m, o, ds, rfl, hrow, ok, q⟩ := h
    refine ⟨_, pss_one (ps_ret (pe_tup (pa_cons (pe_ix ix_tup (pv 0) pe_int (fun _ _ => rfl)) (pa_cons (pe_callTy call_tuple_of (by rfl) mt (by decide +kernel) (pa_cons (pe_lc (own := [("state", 1)]) (g := gName 1) (by rfl) sc_look_of.nd (pi_list (pe_call GL hr (by rfl) gL kL bL .nil pass0 (pa_cons (pv 0) pa_nil))) (blkOk_by (own := [("state", 1)]) (N := N_look_of) (sc := defScope s_look_of) (by decide +kernel)) (fun _ _ _ _ _ => pg_name (i := 1) sc_look_of.nd rfl (Or.inl rfl)) (fun _ _ _ _ _ => pts_nil) (fun _ _ _ _ _ => pe_callTy (T := "tuple") (r := rTupO2 K) call_tuple_of (by rfl) mt (by decide +kernel) (pa_cons (pv 1) pa_nil))) pa_nil)) pa_nil)))), ?_⟩
    obtain ⟨D, rs, eR, eD, hd⟩ := id hrow
    refine ⟨.ref R, rfl, R, _, 0, .int (m : Int), rfl, rfl, SqT.of eR, atI_nat (j := 0) rfl, .ref R, rfl, R, m, o, ds, rfl, hrow, ok, fun H1 p ls lm s1 hp ep hm lok => ?_⟩
    refine ⟨p, rfl, ⟨_, .inl (.inl ep)⟩, fun C hC => ?_⟩
    have sC0 := same_new (o := .lst []) hC
    refine lc_list (K := K) (a := p) (xs := ls.map V.ref) (fun i H4 => ∃ ts : List Addr, H4 C = some (.lst (ts.map V.ref)) ∧ ts.length = i ∧ NkAll H4 ((lm.take i).map stK) (ts.map V.ref) ∧ Same H1 H4) ⟨[], upd_same, rfl, by rw [List.take_zero]; exact .nil, sC0⟩ (fun i H4 _ hq => ?_) (fun i x H4 hx hq => ?_) (fun H4 hq => ?_)
    · obtain ⟨ts, _, _, _, s4⟩ := hq
      exact .inl (.inl (s4 _ _ ep))
    · obtain ⟨ts, eC, tl, hk, s4⟩ := hq
      rw [List.getElem?_map] at hx
      obtain ⟨l, hl, rfl⟩ := Option.map_eq_some_iff.mp hx
      obtain ⟨row, hr1, hr2⟩ := awGet hm hl
      obtain ⟨qs, el, hqs⟩ := hr2
      have el4 := s4 _ _ el
      refine ⟨rfl, .ref l, rfl, l, _, rfl, .inl ⟨.inl (.inl el4), fun T hT => ?_⟩⟩
      have sT := same_new (o := .tup (qs.map V.ref)) hT
      have hj := (List.getElem?_eq_some_iff.mp hr1).1
      have few := lok.few
      have nCT : ∀ b o', H1 b = some o' → b ≠ C := fun b o' e => ne_of_none e hC
      refine ⟨ts.map V.ref, sT _ _ eC, by rw [List.length_map, tl, sizeLine_eq]; omega, ts ++ [T], by rw [upd_same, List.map_append]; rfl, by rw [List.length_append, tl]; rfl, ?_, fun b o' e => by rw [upd_ne (nCT b o' e)]; exact sT _ _ (s4 _ _ e)⟩
      have tC : TupsStay (upd H4 T (.tup (qs.map V.ref))) (upd (upd H4 T (.tup (qs.map V.ref))) C (.lst (ts.map V.ref ++ [.ref T]))) := fun b xs e => by
        rw [upd_ne (ne_of e (sT _ _ eC) (fun z => nomatch z))]
        exact e
      have pairs : ∀ {G : Hp} {qs : List Addr} {r : MRow}, PrAt G qs r → NkAll G (r.map fun e => .tup [.num e.1, .num e.2]) (qs.map V.ref) := by
        intro G qs r h
        induction h with
        | nil => exact .nil
        | cons h _ ih => exact .cons (.tup h (.cons (.num _) (.cons (.num _) .nil))) ih
      have hT2 : NkAt (upd (upd H4 T (.tup (qs.map V.ref))) C (.lst (ts.map V.ref ++ [.ref T]))) (stK row) (.ref T) := .tup (tC _ _ upd_same) (nks_stay ((Same.tups (s4.trans sT)).trans tC) _ _ (pairs hqs))
      rw [List.take_add_one, hr1, List.map_append, List.map_append]
      exact nks_app (nks_stay ((Same.tups sT).trans tC) _ _ hk) (.cons hT2 .nil)
    · obtain ⟨ts, eC, tl, hk, s4⟩ := hq
      rw [List.length_map, awLen hm, List.take_length] at hk
      refine ⟨C, _, rfl, .inl ⟨.inl (.inl eC), fun T hT => ⟨(by show 2 ≤ sizeLine; decide), fun U hU => ?_⟩⟩⟩
      have sT := same_new (o := .tup (ts.map V.ref)) hT
      have sU := same_new (o := .tup [.int (m : Int), .ref T]) hU
      have t2 := Same.tups (sT.trans sU)
      refine q _ U lm (s1.trans (s4.trans (sT.trans sU))) lok (.tup upd_same (.cons (.num _) (.cons (.tup (sU _ _ upd_same) (nks_stay t2 _ _ hk)) .nil)))
/-! ### slices of tuples (the first part of sec_bent) -/
section slz
variable {X : Cx}
def rSlZ : V → Option Int → Option Int → Hp → VK → Prop := fun x lo hi H Q => ∃ a xs, x = .ref a ∧ H a = some (.tup xs) ∧ ∀ p H2, Same H H2 → H2 p = some (.tup (cutV xs lo hi)) → Q (.ref p) H2
theorem sl_tupZ : SlR X rSlZ := by
  intro pins s σ H x v vl vu lo hi sl Q I rx hs hl hh h
  obtain ⟨a, xs, rfl, ha, q⟩ := h
  refine sl_tupA pins s σ H _ v vl vu lo hi sl Q I rx hs hl hh ⟨a, xs, rfl, SqT.of ha, fun z => ?_, fun _ p hp => q p _ (same_new hp) upd_same⟩
  refine q a H (Same.refl H) ?_
  have e : cutV xs lo hi = xs := by
    unfold cutV
    rw [z.1, z.2, List.drop_zero, Nat.sub_zero, List.take_length]
  rw [e]
  exact ha
end slz
theorem cut_take (xs : List V) (k : Nat) : cutV xs none (some (k : Int)) = xs.take k := by
  unfold cutV
  rw [HT.sIx_none, HT.sIx_nat, List.drop_zero, Nat.sub_zero]
  by_cases h : k ≤ xs.length
  · rw [Nat.min_eq_left h]
  · rw [Nat.min_eq_right (by omega), List.take_length, List.take_of_length_le (by omega)]
theorem cut_drop (xs : List V) (k : Nat) : cutV xs (some (k : Int)) none = xs.drop k := by
  unfold cutV
  rw [HT.sIx_none, HT.sIx_nat]
  by_cases h : k ≤ xs.length
  · rw [Nat.min_eq_left h, List.take_of_length_le (by rw [List.length_drop]; omega)]
  · rw [Nat.min_eq_right (by omega), Nat.sub_self, List.take_zero, List.drop_of_length_le (by omega)]
/-! ### pairs of carries in the heap -/
def kP (c1 c2 : List Int) : NestedKey := .tup [kC c1, kC c2]
theorem kP_inj {a b c d : List Int} (h : kP a b = kP c d) : a = c ∧ b = d := by
  have h1 := NestedKey.tup.inj h
  rw [List.cons.injEq, List.cons.injEq] at h1
  exact ⟨kC_inj h1.1, kC_inj h1.2.1⟩
def PrC (H : Hp) (p : Addr) (q : PC) : Prop := ∃ A B, H p = some (.tup [.ref A, .ref B]) ∧ H A = some (.tup (q.1.map V.int)) ∧ H B = some (.tup (q.2.map V.int))
theorem PrC.stay {H H' : Hp} {p : Addr} {q : PC} (h : PrC H p q) (t : TupsStay H H') : PrC H' p q := by
  obtain ⟨A, B, e1, e2, e3⟩ := h
  exact ⟨A, B, t _ _ e1, t _ _ e2, t _ _ e3⟩
theorem keyP {H : Hp} {T : Addr} {q : PC} (h : PrC H T q) : KeyN H (.ref T) (kP q.1 q.2) := by
  obtain ⟨A, B, e1, e2, e3⟩ := h
  refine ⟨.tup e1 (.cons (keyC e2).1 (.cons (keyC e3).1 .nil)), ?_, T, rfl⟩
  unfold kP kC
  simp [NestedKey.depth, NestedKey.depthAll, nums_depth]
theorem kC_at {H : Hp} {v : V} {c : List Int} (h : NkAt H (kC c) v) : ∃ A, v = .ref A ∧ H A = some (.tup (c.map V.int)) := by
  unfold kC at h
  cases h with
  | tup e hs => exact ⟨_, rfl, by rw [← nks_eq hs]; exact e⟩
theorem prC_of {H : Hp} {T : Addr} {q : PC} (h : NkAt H (kP q.1 q.2) (.ref T)) : PrC H T q := by
  unfold kP at h
  cases h with
  | tup e hs =>
    cases hs with
    | cons h1 h2 =>
      cases h2 with
      | cons h3 h4 =>
        cases h4
        obtain ⟨A, rfl, eA⟩ := kC_at h1
        obtain ⟨B, rfl, eB⟩ := kC_at h3
        exact ⟨A, B, e, eA, eB⟩
abbrev PtAt (H : Hp) : List Addr → List PC → Prop := Paired (PrC H)
theorem ptat_stay {H H' : Hp} (t : TupsStay H H') {qs : List Addr} {l : List PC} (h : PtAt H qs l) : PtAt H' qs l := awMap (fun _ _ e => e.stay t) h
structure PcOk (ds1 ds2 : List Deed) (q : PC) : Prop where
  l1 : q.1.length = ds1.length
  b1 : ∀ x ∈ q.1, Bit x
  l2 : q.2.length = ds2.length
  b2 : ∀ x ∈ q.2, Bit x
theorem nx2_ok {m : Nat} {ds1 ds2 : List Deed} {q : PC} {bs : List Int} (h : PcOk ds1 ds2 q) (hb : bs ∈ allB m) : PcOk ds1 ds2 (nx2 ds1 ds2 q bs) := by
  have h3 := (allB_ok m bs hb).2
  exact ⟨nxt_len h.l1.symm, nxt_bits (bts_bits h3 h.b1) h.b1, nxt_len h.l2.symm, nxt_bits (bts_bits h3 h.b2) h.b2⟩
theorem pc_first (ds1 ds2 : List Deed) : PcOk ds1 ds2 (ds1.map fcD, ds2.map fcD) := ⟨(rch_shp (crry_rch ds1 [] 0)).len, (rch_shp (crry_rch ds1 [] 0)).bits, (rch_shp (crry_rch ds2 [] 0)).len, (rch_shp (crry_rch ds2 [] 0)).bits⟩
/-- as many pairs as there can be -/
theorem few_pairs {ds1 ds2 : List Deed} {ps : List PC} (nd : ps.Nodup) (h : ∀ q ∈ ps, PcOk ds1 ds2 q) (l1 : ds1.length ≤ 8) (l2 : ds2.length ≤ 8) : ps.length ≤ 65536 := by
  have bn : ∀ n : Nat, ∀ c : List Int, c.length = n → (∀ x ∈ c, Bit x) → c ∈ allB n := fun n c hc hb => allB_all n c hc hb
  have sub : ∀ q ∈ ps, q ∈ (allB ds1.length).flatMap fun a => (allB ds2.length).map fun b => (a, b) := fun q hq => by
    have k := h q hq
    exact List.mem_flatMap.mpr ⟨q.1, bn _ _ k.l1 k.b1, List.mem_map.mpr ⟨q.2, bn _ _ k.l2 k.b2, rfl⟩⟩
  have le := pigeon ps _ nd sub
  have key : ∀ L : List (List Int), (L.flatMap fun a => (allB ds2.length).map fun b => (a, b)).length = L.length * 2 ^ ds2.length := by
    intro L
    induction L with
    | nil => simp
    | cons a L ih =>
      rw [List.flatMap_cons, List.length_append, ih, List.length_map, allB_len, List.length_cons, Nat.succ_mul]
      omega
  rw [key, allB_len] at le
  have p1 : 2 ^ ds1.length ≤ 256 := Nat.le_trans (Nat.pow_le_pow_right (by decide) l1) (by decide)
  have p2 : 2 ^ ds2.length ≤ 256 := Nat.le_trans (Nat.pow_le_pow_right (by decide) l2) (by decide)
  have := Nat.mul_le_mul p1 p2
  omega
theorem cutTake {xs : List V} {k : Nat} (h : k ≤ xs.length) : cutV xs none (some (k : Int)) = xs.take k := by
  have h1 : HT.sIx xs.length 0 none = 0 := HT.sIx_none _ _
  have h2 : HT.sIx xs.length xs.length (some (k : Int)) = min k xs.length := HT.sIx_nat _ _ k
  unfold cutV
  rw [h1, h2, Nat.min_eq_left h, Nat.sub_zero]
  rfl
/-! ### numbers changed -/
def renD (nu : List Int) (d : Deed) : Deed := (d.1, d.2.map fun z => nu.getD z.toNat 0)
theorem fw_len {m : Int} {d : Deed} (h : DeedOk m d) : d.2.length ≤ 2 := by
  have := (fw_short _ h.word).2.2
  have e2 : (d.2.length : Int) ≤ 2 := this
  omega
theorem ren_ok {nu : List Int} {d : Deed} {m : Int} (h : DeedOk nu.length d) (hn : ∀ x ∈ nu, 0 ≤ x ∧ x < m) : DeedOk m (renD nu d) := by
  refine ⟨?_, ?_⟩
  · show (d.1, ((d.2.map _).length : Int)) ∈ fwL
    rw [List.length_map]
    exact h.word
  · intro i hi
    obtain ⟨z, hz, rfl⟩ := List.mem_map.mp hi
    obtain ⟨z0, z1⟩ := h.ahead z hz
    have hk : z.toNat < nu.length := by omega
    rw [List.getD_eq_getElem?_getD, List.getElem?_eq_getElem hk]
    exact hn _ (List.getElem_mem hk)
/-! ### the law's own steps: _law_step, _law_first, _law_choices -/
def g1 (x : Str) (a b c : Int) : Int := if x = "none" then 0 else if x = "one" then c else if x = "all" then 1 else if x = "not" then 1 - a else if x = "neg" then (1 - a + c) % 2 else if x = "twice" then c else a + b + c
def kv1 (a c : Int) : List (Key × V) := [(Sum.inr "none", .int 0), (Sum.inr "one", .int c), (Sum.inr "all", .int 1), (Sum.inr "not", .int (1 - a)), (Sum.inr "neg", .int ((1 - a + c) % 2)), (Sum.inr "twice", .int c)]
def n1 (a c : Int) : Int := if a = 0 ∧ c = 1 then 1 else 0
def n2 (a b c : Int) : Int := if a + b + c > 1 then 1 else 0
def n3 (a b c : Int) : Int := if 1 - a + b + c > 1 then 1 else 0
def gm (x : Str) (a b c : Int) : Int := if x = "neg" then n1 a c else if x = "twice" then a else if x = "add" then n2 a b c else if x = "sub" then n3 a b c else 0
def kv2 (a b : Int) : List (Key × V) := [(Sum.inr "and", .int (Builtin.bitAnd a b)), (Sum.inr "or", .int (Builtin.bitOr a b)), (Sum.inr "xor", .int (Builtin.bitXor a b))]
def kv3 (a b c : Int) : List (Key × V) := [(Sum.inr "neg", .int (n1 a c)), (Sum.inr "twice", .int a), (Sum.inr "add", .int (n2 a b c)), (Sum.inr "sub", .int (n3 a b c))]
theorem fw_all {x : Str} {n : Int} (h : (x, n) ∈ fwL) : (x = "none" ∧ n = 0) ∨ (x = "one" ∧ n = 0) ∨ (x = "all" ∧ n = 0) ∨ (x = "not" ∧ n = 1) ∨ (x = "neg" ∧ n = 1) ∨ (x = "twice" ∧ n = 1) ∨ (x = "and" ∧ n = 2) ∨ (x = "or" ∧ n = 2) ∨ (x = "xor" ∧ n = 2) ∨ (x = "add" ∧ n = 2) ∨ (x = "sub" ∧ n = 2) := by
  unfold fwL at h
  simpa only [List.mem_cons, Prod.mk.injEq, List.not_mem_nil, or_false] using h
theorem kv1_get {x : Str} {n : Int} (h : (x, n) ∈ fwL) (a b c : Int) : (valV (mergeK [] (kv1 a c)) (Sum.inr x)).getD (.int (a + b + c)) = .int (g1 x a b c) := by
  rcases fw_all h with ⟨rfl, _⟩ | ⟨rfl, _⟩ | ⟨rfl, _⟩ | ⟨rfl, _⟩ | ⟨rfl, _⟩ | ⟨rfl, _⟩ | ⟨rfl, _⟩ | ⟨rfl, _⟩ | ⟨rfl, _⟩ | ⟨rfl, _⟩ | ⟨rfl, _⟩ <;> rfl
theorem kv3_get {x : Str} {n : Int} (h : (x, n) ∈ fwL) (a b c : Int) : (valV (mergeK [] (kv3 a b c)) (Sum.inr x)).getD (.int 0) = .int (gm x a b c) := by
  rcases fw_all h with ⟨rfl, _⟩ | ⟨rfl, _⟩ | ⟨rfl, _⟩ | ⟨rfl, _⟩ | ⟨rfl, _⟩ | ⟨rfl, _⟩ | ⟨rfl, _⟩ | ⟨rfl, _⟩ | ⟨rfl, _⟩ | ⟨rfl, _⟩ | ⟨rfl, _⟩ <;> rfl
/-- the bit that comes at last -/
def gb (x : Str) (a b c : Int) : Int := if x = "and" then Builtin.bitAnd a b else if x = "or" then Builtin.bitOr a b else if x = "xor" then Builtin.bitXor a b else g1 x a b c % 2
structure Args2 (d : Deed) (told : List Int) (a b : Int) : Prop where
  ba : Bit a
  bb : Bit b
  cut : ((d.2.map fun (z : Int) => told.getD z.toNat 0) ++ [0, 0]).take 2 = [a, b]
  bit : ∀ c, Bit c → gb d.1 a b c = dbitAt d c told
  car : ∀ c, Bit c → gm d.1 a b c = dcarAt d c told
theorem getD_bit {told : List Int} (tb : ∀ x ∈ told, Bit x) (i : Nat) : Bit (told.getD i 0) := by
  rw [List.getD_eq_getElem?_getD]
  cases e : told[i]? with
  | none => exact bit0
  | some y => exact tb y (List.mem_of_getElem? e)
theorem args2_of {d : Deed} {told : List Int} (ok : DeedOk told.length d) (tb : ∀ x ∈ told, Bit x) : ∃ a b, Args2 d told a b := by
  obtain ⟨x, ns⟩ := d
  have hw := fw_all ok.word
  have z0 : ∀ {ns : List Int}, (ns.length : Int) = 0 → ns = [] := fun h => List.eq_nil_of_length_eq_zero (by omega)
  have z1 : ∀ {ns : List Int}, (ns.length : Int) = 1 → ∃ i, ns = [i] := fun h => List.length_eq_one_iff.mp (by omega)
  have z2 : ∀ {ns : List Int}, (ns.length : Int) = 2 → ∃ i j, ns = [i, j] := fun {ns} h => by
    match ns, (show ns.length = 2 by omega) with
    | [i, j], _ => exact ⟨i, j, rfl⟩
  dsimp only at hw
  have one : ∀ (x : Str) (i : Int), (∀ A Z : Int, Bit A → ∀ c, Bit c → gb x A 0 c = dbit x A Z c ∧ gm x A 0 c = dcar x A Z c) → ∃ a b, Args2 (x, [i]) told a b := fun x i h =>
    ⟨told.getD i.toNat 0, 0, getD_bit tb _, bit0, rfl, fun c hc => (h _ (argAt (x, [i]) told 1) (getD_bit tb _) c hc).1, fun c hc => (h _ (argAt (x, [i]) told 1) (getD_bit tb _) c hc).2⟩
  have nil : ∀ (x : Str), (∀ Y Z : Int, ∀ c, Bit c → gb x 0 0 c = dbit x Y Z c ∧ gm x 0 0 c = dcar x Y Z c) → ∃ a b, Args2 (x, []) told a b := fun x h =>
    ⟨0, 0, bit0, bit0, rfl, fun c hc => (h (argAt (x, []) told 0) (argAt (x, []) told 1) c hc).1, fun c hc => (h (argAt (x, []) told 0) (argAt (x, []) told 1) c hc).2⟩
  have two : ∀ (x : Str) (i j : Int), (∀ A B : Int, Bit A → Bit B → ∀ c, Bit c → gb x A B c = dbit x A B c ∧ gm x A B c = dcar x A B c) → ∃ a b, Args2 (x, [i, j]) told a b := fun x i j h =>
    ⟨told.getD i.toNat 0, told.getD j.toNat 0, getD_bit tb _, getD_bit tb _, rfl, fun c hc => (h _ _ (getD_bit tb _) (getD_bit tb _) c hc).1, fun c hc => (h _ _ (getD_bit tb _) (getD_bit tb _) c hc).2⟩
  rcases hw with ⟨rfl, h⟩ | ⟨rfl, h⟩ | ⟨rfl, h⟩ | ⟨rfl, h⟩ | ⟨rfl, h⟩ | ⟨rfl, h⟩ | ⟨rfl, h⟩ | ⟨rfl, h⟩ | ⟨rfl, h⟩ | ⟨rfl, h⟩ | ⟨rfl, h⟩
  · obtain rfl := z0 h
    exact nil _ fun Y Z c hc => by rcases hc with rfl | rfl <;> exact ⟨rfl, rfl⟩
  · obtain rfl := z0 h
    exact nil _ fun Y Z c hc => by rcases hc with rfl | rfl <;> exact ⟨rfl, rfl⟩
  · obtain rfl := z0 h
    exact nil _ fun Y Z c hc => by rcases hc with rfl | rfl <;> exact ⟨rfl, rfl⟩
  · obtain ⟨i, rfl⟩ := z1 h
    exact one _ i fun A Z hA c hc => by rcases hc with rfl | rfl <;> rcases hA with rfl | rfl <;> exact ⟨rfl, rfl⟩
  · obtain ⟨i, rfl⟩ := z1 h
    exact one _ i fun A Z hA c hc => by rcases hc with rfl | rfl <;> rcases hA with rfl | rfl <;> exact ⟨rfl, rfl⟩
  · obtain ⟨i, rfl⟩ := z1 h
    exact one _ i fun A Z hA c hc => by rcases hc with rfl | rfl <;> rcases hA with rfl | rfl <;> exact ⟨rfl, rfl⟩
  · obtain ⟨i, j, rfl⟩ := z2 h
    exact two _ i j fun A B hA hB c hc => by rcases hc with rfl | rfl <;> rcases hA with rfl | rfl <;> rcases hB with rfl | rfl <;> exact ⟨rfl, rfl⟩
  · obtain ⟨i, j, rfl⟩ := z2 h
    exact two _ i j fun A B hA hB c hc => by rcases hc with rfl | rfl <;> rcases hA with rfl | rfl <;> rcases hB with rfl | rfl <;> exact ⟨rfl, rfl⟩
  · obtain ⟨i, j, rfl⟩ := z2 h
    exact two _ i j fun A B hA hB c hc => by rcases hc with rfl | rfl <;> rcases hA with rfl | rfl <;> rcases hB with rfl | rfl <;> exact ⟨rfl, rfl⟩
  · obtain ⟨i, j, rfl⟩ := z2 h
    exact two _ i j fun A B hA hB c hc => by rcases hc with rfl | rfl <;> rcases hA with rfl | rfl <;> rcases hB with rfl | rfl <;> exact ⟨rfl, rfl⟩
  · obtain ⟨i, j, rfl⟩ := z2 h
    exact two _ i j fun A B hA hB c hc => by rcases hc with rfl | rfl <;> rcases hA with rfl | rfl <;> rcases hB with rfl | rfl <;> exact ⟨rfl, rfl⟩
theorem bts_pre : ∀ {ds : List Deed} {cs t : List Int}, (bts ds cs t).take t.length = t
  | [], cs, t => by cases cs <;> exact List.take_length
  | d :: ds, [], t => List.take_length
  | d :: ds, c :: cs, t => by
    have h := bts_pre (ds := ds) (cs := cs) (t := t ++ [dbitAt d c t])
    show (bts ds cs (t ++ [dbitAt d c t])).take t.length = t
    have h2 : ((bts ds cs (t ++ [dbitAt d c t])).take (t ++ [dbitAt d c t]).length).take t.length = t := by
      rw [h]
      exact List.take_left
    rw [List.take_take, List.length_append, Nat.min_eq_left (by omega)] at h2
    exact h2
theorem bts_app : ∀ {ds1 ds2 : List Deed} {cs1 cs2 t : List Int}, ds1.length = cs1.length → bts (ds1 ++ ds2) (cs1 ++ cs2) t = bts ds2 cs2 (bts ds1 cs1 t)
  | [], ds2, [], cs2, t, _ => by
    show bts ds2 cs2 t = bts ds2 cs2 (bts [] [] t)
    rfl
  | [], _, _ :: _, _, _, h => by simp at h
  | _ :: _, _, [], _, _, h => by simp at h
  | d :: ds1, ds2, c :: cs1, cs2, t, h => bts_app (ds1 := ds1) (ds2 := ds2) (cs1 := cs1) (cs2 := cs2) (t := t ++ [dbitAt d c t]) (by simpa using h)
theorem bts_at {ds : List Deed} {cs t : List Int} {i : Nat} (h : ds.length = cs.length) (hi : i ≤ ds.length) : bts (ds.take i) (cs.take i) t = (bts ds cs t).take (t.length + i) := by
  have l1 : (ds.take i).length = (cs.take i).length := by rw [List.length_take, List.length_take, h]
  have e : bts ds cs t = bts (ds.drop i) (cs.drop i) (bts (ds.take i) (cs.take i) t) := by rw [← bts_app l1, List.take_append_drop, List.take_append_drop]
  have l : (bts (ds.take i) (cs.take i) t).length = t.length + i := by rw [bts_len l1, List.length_take, Nat.min_eq_left hi]
  rw [e, ← l, bts_pre]
def spL1 : Sp := fun vs H Q _ => ∃ (R C B : Addr) (m : Nat) (o : Int) (ds : List Deed) (cs bs : List Int), vs = [.ref R, .ref C, .ref B] ∧ RowAt H R m ds o ∧ RowOk m ds o ∧ H C = some (.tup (cs.map V.int)) ∧ cs.length = ds.length ∧ H B = some (.tup (bs.map V.int)) ∧ bs.length = m ∧
  (∀ x ∈ cs, Bit x) ∧ (∀ x ∈ bs, Bit x) ∧ ∀ H' p A2 B2, Same H H' → H A2 = none → H' p = some (.tup [.ref A2, .ref B2]) → H' A2 = some (.lst ((bts ds cs bs).map V.int)) → H' B2 = some (.tup ((nc ds cs bs).map V.int)) → Q (.ref p) H'
set_option maxHeartbeats 2000000 in
theorem ok_l1 {f : Addr} {fd : FuncData} {k : Nat} (F : Fun K "_law_step" "_law_step" s_law_step f fd) (ml : mg "list" = none) (mt : mg "tuple" = none) (me : mg "enumerate" = none) (mi : mg "int" = none) : FnOk P w K mg base CX0 (k + 1) f fd ["row", "carry", "bits"] spL1 := by
  refine F.ok sc_law_step (fun vs H Q E h => ?_) (fun cdv A outer s H vs Q E hr h => ?_)
  · obtain ⟨R, C, B, m, o, ds, cs, bs, rfl, _⟩ := h
    rfl
  · obtain ⟨R, C, B, m, o, ds, cs, bs, rfl, hrow, hok, eC, hcl, eB, hm, cb, bb, q⟩ := h
    obtain ⟨D, rs, eR, eD, hd⟩ := id hrow
    have hu := hu_of hr
    refine ⟨_, pss_cons (ps_set (i := 3) sc_law_step.nd rfl (.inr rfl) (pe_callTy call_list_of (by rfl) ml (by decide +kernel) (pa_cons (pv 2) pa_nil)))
      (pss_cons (ps_set (i := 4) sc_law_step.nd rfl (.inl rfl) (pe_lst pa_nil))
      (pss_cons (ps_for PassesOwn.never rfl (pi_enumT (by rfl) me (pa_cons (pe_ix ix_tup (pv 0) pe_int (fun _ _ => rfl)) pa_nil)) (pg_tup rfl (pgs_cons (pg_name (i := 5) sc_law_step.nd rfl (.inl rfl)) (pgs_cons (pg_name (i := 6) sc_law_step.nd rfl (.inl rfl)) pgs_nil)))
        (pss_cons (ps_par (by rfl) sc_law_step.nd (i := 7) (j := 8) rfl rfl (by decide) rfl rfl (pa_cons (pe_ix ix_tup (pv 6) pe_int (fun _ _ => rfl)) (pa_cons (pe_ix ix_tup (pv 1) (pv 5) (fun _ _ => rfl)) pa_nil)) (by rfl))
        (pss_cons (ps_asg (pe_slice sl_list (pe_op op_cat (pe_lc (own := [("number", 13)]) (g := gName 13) (by rfl) sc_law_step.nd (pi_tup (pe_slice sl_tup (pv 6) (po_some pe_int) po_none)) (blkOk_by (own := [("number", 13)]) (N := N_law_step) (sc := defScope s_law_step) (by decide +kernel))
            (fun _ _ _ _ _ => pg_name (i := 13) sc_law_step.nd rfl (Or.inl rfl)) (fun _ _ _ _ _ => pts_nil) (fun _ _ _ _ _ => pe_ix (r := rIxL K) ix_list (pv 3) (pv 13) (fun _ _ => rfl))) (pe_lst (pa_cons pe_int (pa_cons pe_int pa_nil)))) po_none (po_some pe_int)) (pg_lst rfl (pgs_cons (pg_name (i := 9) sc_law_step.nd rfl (.inl rfl)) (pgs_cons (pg_name (i := 10) sc_law_step.nd rfl (.inl rfl)) pgs_nil))))
        (pss_cons (ps_set (i := 11) sc_law_step.nd rfl (.inl rfl) (pe_op op_mod (pe_dget2 hu (pe_disp (pps_cons pe_str pe_int (pps_cons pe_str (pv 8) (pps_cons pe_str pe_int (pps_cons pe_str (pe_op op_sub pe_int (pv 9)) (pps_cons pe_str (pe_op op_mod (pe_op op_add (pe_op op_sub pe_int (pv 9)) (pv 8)) pe_int) (pps_cons pe_str (pv 8) pps_nil)))))) (by rfl) (by rfl) (fun z => by cases z) (by decide)) (pv 7) (pe_op op_add (pe_op op_add (pv 9) (pv 10)) (pv 8)) ⟨rfl, rfl, rfl, rfl⟩) pe_int))
        (pss_mid (ps_if (pt_cmpR op_in_seq (pv 7) (pe_tup (pa_cons pe_str (pa_cons pe_str (pa_cons pe_str pa_nil)))) (by rfl)) (pss_one (ps_set (i := 11) sc_law_step.nd rfl (.inl rfl) (pe_dget hu (pe_disp (pps_cons pe_str (pe_op op_and (pv 9) (pv 10)) (pps_cons pe_str (pe_op op_or (pv 9) (pv 10)) (pps_cons pe_str (pe_op op_xor (pv 9) (pv 10)) pps_nil))) (by rfl) (by rfl) (fun z => by cases z) (by decide)) (pv 7) (fun _ _ => rfl)))) pss_nil)
        (pss_mid (ps_set (i := 12) sc_law_step.nd rfl (.inl rfl) (pe_disp (pps_cons pe_str (pe_callTy call_int1 (by rfl) mi (by decide +kernel) (pa_cons (pe_and (pe_cmpR op_eq (pv 9) pe_int (nomark _)) (pe_one (pe_cmpR op_eq (pv 8) pe_int (nomark _)))) pa_nil)) (pps_cons pe_str (pv 9) (pps_cons pe_str (pe_callTy call_int1 (by rfl) mi (by decide +kernel) (pa_cons (pe_cmpR op_gt (pe_op op_add (pe_op op_add (pv 9) (pv 10)) (pv 8)) pe_int (nomark _)) pa_nil)) (pps_cons pe_str (pe_callTy call_int1 (by rfl) mi (by decide +kernel) (pa_cons (pe_cmpR op_gt (pe_op op_add (pe_op op_add (pe_op op_sub pe_int (pv 9)) (pv 10)) (pv 8)) pe_int (nomark _)) pa_nil)) pps_nil)))) (by rfl) (by rfl) (fun z => by cases z) (by decide)))
        (pss_cons (ps_expr (pe_bm PySem.F.plainAttrs_list PySem.F.slot_list_append PySem.F.type_list_append mt_append (pv 3) (pa_cons (pv 11) pa_nil)))
        (pss_one (ps_expr (pe_bm PySem.F.plainAttrs_list PySem.F.slot_list_append PySem.F.type_list_append mt_append (pv 4) (pa_cons (pe_dget2 hu (pv 12) (pv 7) pe_int ⟨rfl, rfl, rfl, rfl⟩) pa_nil)))))))))))
      (pss_one (ps_ret (pe_tup (pa_cons (pv 3) (pa_cons (pe_callTy call_tuple_of (by rfl) mt (by decide +kernel) (pa_cons (pv 4) pa_nil)) pa_nil))))))), ?_⟩
    have l8 := hok.len
    have m3 := hok.m3
    have m1 := hok.m1
    refine ⟨.ref B, rfl, B, _, rfl, .inr (SqT.of eB), fun L hL => ?_⟩
    have sL := same_new (o := .lst (bs.map V.int)) hL
    refine ⟨Nat.zero_le _, fun G hG => ?_⟩
    have sG := same_new (o := .lst []) hG
    have nLG : L ≠ G := fun z => by rw [← z, upd_same] at hG; cases hG
    have nG : H G = none := sL.free hG
    have tl : (bts ds cs bs).length = bs.length + ds.length := bts_len hcl.symm
    have allbits : ∀ x ∈ bts ds cs bs, Bit x := bts_bits bb cb
    have sLG := sL.trans sG
    refine ⟨.ref R, rfl, R, _, 1, .ref D, rfl, rfl, SqT.of (sLG _ _ eR), rfl, D, _, rfl, SqT.of (sLG _ _ eD), for_it (walk_enumT (K := K) (a := D) (xs := rs.map V.ref)) (fun i σ H3 => ∃ y5 y6 y7 y8 y9 y10 y11 y12, σ = [some (.ref R), some (.ref C), some (.ref B), some (.ref L), some (.ref G), y5, y6, y7, y8, y9, y10, y11, y12, none] ∧ H3 L = some (.lst ((bts (ds.take i) (cs.take i) bs).map V.int)) ∧ H3 G = some (.lst (((nc ds cs bs).take i).map V.int)) ∧ Same H H3)
      ⟨none, none, none, none, none, none, none, none, rfl, ?_, upd_same, sLG⟩ (fun i σ H3 _ hp => ?_) (fun i x σ H3 H4 hi hp hy => ?_) (fun σ H3 hp => ?_)⟩
    · rw [upd_ne nLG, upd_same]
      cases ds <;> rfl
    · obtain ⟨_, _, _, _, _, _, _, _, _, _, _, sm⟩ := hp
      exact SqT.of (sm _ _ eD)
    · obtain ⟨y5, y6, y7, y8, y9, y10, y11, y12, rfl, e3, g3, sm⟩ := hp
      obtain ⟨T, x1, x2, rfl, hT, rfl, hx1, hx2⟩ := hy
      obtain rfl : V.int (i : Nat) = x1 := Option.some.inj hx1
      have hi2 : i < rs.length := by rwa [List.length_map] at hi
      have hx2' : x2 = .ref rs[i] := by
        have g2' : (rs.map V.ref)[i]? = some x2 := hx2
        rw [List.getElem?_map, List.getElem?_eq_getElem hi2] at g2'
        exact (Option.some.inj g2').symm
      subst hx2'
      obtain ⟨d, hd1, hd2⟩ := awGet hd (List.getElem?_eq_getElem hi2)
      obtain ⟨r, hr'⟩ : ∃ r, r = rs[i] := ⟨_, rfl⟩
      rw [← hr'] at hd2 ⊢
      have h2 : i < ds.length := by
        rw [← awLen hd]
        exact hi2
      obtain ⟨c, hc⟩ : ∃ c, cs[i]? = some c := ⟨_, List.getElem?_eq_getElem (by omega)⟩
      have hcb := cb c (List.mem_of_getElem? hc)
      have hlen : (bts (ds.take i) (cs.take i) bs).length = bs.length + i := by
        rw [bts_len (by rw [List.length_take, List.length_take, hcl]), List.length_take, Nat.min_eq_left (Nat.le_of_lt h2)]
      obtain ⟨told, htold⟩ : ∃ told, told = bts (ds.take i) (cs.take i) bs := ⟨_, rfl⟩
      have okd : DeedOk told.length d := by
        rw [htold, hlen]
        have := hok.deeds.each i d hd1
        rw [← hm] at this
        exact this
      have tb : ∀ x ∈ told, Bit x := by rw [htold]; exact bts_bits bb (fun x hx => cb x (List.mem_of_mem_take hx))
      have ecar : dcarAt d c (bts ds cs bs) = dcarAt d c told := by
        have e : told = (bts ds cs bs).take told.length := by
          rw [htold, bts_at hcl.symm (Nat.le_of_lt h2), List.length_take, tl, Nat.min_eq_left (by omega)]
        unfold dcarAt
        rw [e, arg_take okd (by rw [htold, hlen]; omega) (by rw [htold, hlen, tl]; omega), arg_take okd (by rw [htold, hlen]; omega) (by rw [htold, hlen, tl]; omega)]
      have e3t : H3 L = some (.lst (told.map V.int)) := by rw [htold]; exact e3
      obtain ⟨a, b, ar⟩ := args2_of okd tb
      have fwd := okd.word
      have d2 := fw_len okd
      have sT := same_new (o := .tup [.int (i : Nat), .ref r]) hT
      have er := sT _ _ (sm _ _ hd2)
      have hci : atI (cs.map V.int) ((i : Nat) : Int) = some (.int c) := atI_nat (by rw [List.getElem?_map, hc]; rfl)
      refine ⟨T, [.int (i : Nat), .ref r], rfl, .inl (.inl upd_same), rfl, .int (i : Nat), [.ref r], rfl, .ref r, [], rfl, rfl, ?_⟩
      refine ⟨.ref r, rfl, r, _, 0, .str d.1, rfl, rfl, SqT.of er, dv0 d, .ref C, rfl, .int (i : Nat), rfl, C, _, _, .int c, rfl, rfl, SqT.of (sT _ _ (sm _ _ eC)), hci, _, _, rfl, ?_⟩
      obtain ⟨H5, hH5⟩ : ∃ H5, H5 = upd H3 T (.tup [.int (i : Nat), .ref r]) := ⟨_, rfl⟩
      rw [← hH5] at er sT ⊢
      have s5 := sm.trans sT
      have eL5 := sT _ _ e3t
      have eG5 := sT _ _ g3
      clear hH5
      refine ⟨.ref r, rfl, 1, rfl, r, dV d, rfl, SqT.of er, notWhole _ _, fun T2 hT2 => ?_⟩
      have eT : cutV (dV d) (some 1) none = d.2.map V.int := cutTail _ _
      rw [eT]
      have sT2 := same_new (o := .tup (d.2.map V.int)) hT2
      obtain ⟨H6, hH6⟩ : ∃ H6, H6 = upd H5 T2 (.tup (d.2.map V.int)) := ⟨_, rfl⟩
      have eT6 : H6 T2 = some (.tup (d.2.map V.int)) := by rw [hH6]; exact upd_same
      rw [← hH6] at sT2 ⊢
      clear hH6
      refine ⟨T2, rfl, ⟨_, SqT.of eT6⟩, fun C2 hC2 => ?_⟩
      have sC2 : ∀ o, Same H6 (upd H6 C2 o) := fun o => same_new hC2
      refine lc_tup (K := K) (a := T2) (xs := d.2.map V.int) (fun j H7 => H7 = upd H6 C2 (.lst (((d.2.take j).map fun z => told.getD z.toNat 0).map V.int))) rfl (fun j H7 _ hp => ?_) (fun j x H7 hx hp => ?_) (fun H7 hp => ?_)
      · rw [hp]
        exact SqT.of (sC2 _ _ _ eT6)
      · obtain ⟨z, hz, rfl⟩ : ∃ z, d.2[j]? = some z ∧ x = .int z := by
          rw [List.getElem?_map] at hx
          cases e : d.2[j]? with
          | none => rw [e] at hx; cases hx
          | some z => rw [e] at hx; exact ⟨z, rfl, (Option.some.inj hx).symm⟩
        obtain ⟨z0, z1⟩ := okd.ahead z (List.mem_of_getElem? hz)
        subst hp
        refine ⟨rfl, .ref L, rfl, .int z, rfl, L, _, z, _, rfl, rfl, .inl (.inl (sC2 _ _ _ (sT2 _ _ eL5))), atI_ints z0 z1, _, upd_same, ?_, ?_⟩
        · rw [List.length_map, List.length_map, List.length_take]
          exact small1000 (by omega)
        · rw [upd_upd, List.take_add_one, hz]
          simp
      have eC2 : H7 C2 = some (.lst ((d.2.map fun z => told.getD z.toNat 0).map V.int)) := by
        rw [hp, upd_same, List.length_map, List.take_length]
      have s7 : Same H6 H7 := by rw [hp]; exact sC2 _
      refine ⟨(by show 2 ≤ sizeLine; decide), fun Z hZ => ?_⟩
      have sZ := same_new (o := .lst [.int 0, .int 0]) hZ
      refine ⟨C2, Z, _, _, rfl, rfl, sZ _ _ eC2, upd_same, ?_, fun U hU => ?_⟩
      · rw [List.length_map, List.length_map]
        exact Nat.le_of_lt (small1000 (by show _ + 2 ≤ 1000; omega))
      have sU := same_new (o := .lst ((d.2.map fun z => told.getD z.toNat 0).map V.int ++ [.int 0, .int 0])) hU
      refine ⟨2, rfl, U, _, rfl, .inl (.inl upd_same), fun Y hY => ?_⟩
      have eY : cutV ((d.2.map fun z => told.getD z.toNat 0).map V.int ++ [.int 0, .int 0]) none (some 2) = [.int a, .int b] := by
        have h := cutTake (xs := (d.2.map fun (z : Int) => told.getD z.toNat 0).map V.int ++ [.int 0, .int 0]) (k := 2) (by rw [List.length_append]; show 2 ≤ _ + 2; omega)
        have e2 : (d.2.map fun z => told.getD z.toNat 0).map V.int ++ [.int 0, .int 0] = ((d.2.map fun (z : Int) => told.getD z.toNat 0) ++ [0, 0]).map V.int := by
          rw [List.map_append]
          rfl
        refine h.trans ?_
        rw [e2, ← List.map_take, ar.cut]
        rfl
      rw [eY]
      have sY := same_new (o := .lst [.int a, .int b]) hY
      have s5Y := sT2.trans (s7.trans (sZ.trans (sU.trans sY)))
      obtain ⟨H8, hH8⟩ : ∃ H8, H8 = upd (upd (upd H7 Z (.lst [.int 0, .int 0])) U (.lst ((d.2.map fun z => told.getD z.toNat 0).map V.int ++ [.int 0, .int 0]))) Y (.lst [.int a, .int b]) := ⟨_, rfl⟩
      have eY8 : H8 Y = some (.lst [.int a, .int b]) := by rw [hH8]; exact upd_same
      rw [← hH8] at s5Y ⊢
      clear hH8
      refine ⟨Y, [.int a, .int b], rfl, .inl (.inl eY8), rfl, .int a, [.int b], rfl, .int b, [], rfl, rfl, ?_⟩
      have s8 := s5.trans s5Y
      have eL8 := s5Y _ _ eL5
      have eG8 := s5Y _ _ eG5
      intro p1 hp1
      have sp1 := fun o => same_new (o := o) hp1
      refine ⟨.int c, rfl, .int a, rfl, _, _, rfl, rfl, .int a, rfl, _, _, rfl, rfl, .int c, rfl, _, _, rfl, rfl, _, _, rfl, rfl, (by show (0 : Int) < 2; decide), .int c, rfl, upd_same, kv1 a c, rfl, (by show 6 ≤ 15; decide), p1, rfl, .inl ⟨_, .inl upd_same⟩, .str d.1, rfl, .int a, rfl, .int b, rfl, _, _, rfl, rfl, .int c, rfl, _, _, rfl, rfl, _, DGet.k (k := Sum.inr d.1) upd_same, ?_⟩
      rw [kv1_get fwd, upd_upd]
      refine ⟨_, 2, rfl, rfl, (by show (0 : Int) < 2; decide), ?_⟩
      have s9 := s8.trans (sp1 (.dK (mergeK [] (kv1 a c))))
      have eL9 := sp1 (.dK (mergeK [] (kv1 a c))) _ _ eL8
      have eG9 := sp1 (.dK (mergeK [] (kv1 a c))) _ _ eG8
      obtain ⟨H9, hH9⟩ : ∃ H9, H9 = upd H8 p1 (.dK (mergeK [] (kv1 a c))) := ⟨_, rfl⟩
      rw [← hH9] at s9 eL9 eG9 ⊢
      clear hH9
      refine ⟨fun σ' H' => σ' = [some (.ref R), some (.ref C), some (.ref B), some (.ref L), some (.ref G), some (.int (i : Nat)), some (.ref r), some (.str d.1), some (.int c), some (.int a), some (.int b), some (.int (dbitAt d c told)), y12, none] ∧ Same H9 H', ?_, ?_⟩
      · refine ⟨.str d.1, rfl, (by show 3 ≤ sizeLine; decide), fun T3 hT3 => ?_⟩
        have sT3 := same_new (o := .tup [.str "and", .str "or", .str "xor"]) hT3
        have hb := ar.bit c hcb
        obtain ⟨x, hxd⟩ : ∃ x, x = d.1 := ⟨_, rfl⟩
        rw [← hxd] at hb fwd ⊢
        obtain ⟨bt, hbt⟩ : ∃ bt, bt = dbitAt d c told := ⟨_, rfl⟩
        rw [← hbt] at hb ⊢
        subst hb
        rcases fw_all fwd with ⟨rfl, _⟩ | ⟨rfl, _⟩ | ⟨rfl, _⟩ | ⟨rfl, _⟩ | ⟨rfl, _⟩ | ⟨rfl, _⟩ | ⟨rfl, _⟩ | ⟨rfl, _⟩ | ⟨rfl, _⟩ | ⟨rfl, _⟩ | ⟨rfl, _⟩
        · exact ⟨T3, _, rfl, .inr (SqT.of upd_same), rfl, rfl, _, rfl, rfl, sT3⟩
        · exact ⟨T3, _, rfl, .inr (SqT.of upd_same), rfl, rfl, _, rfl, rfl, sT3⟩
        · exact ⟨T3, _, rfl, .inr (SqT.of upd_same), rfl, rfl, _, rfl, rfl, sT3⟩
        · exact ⟨T3, _, rfl, .inr (SqT.of upd_same), rfl, rfl, _, rfl, rfl, sT3⟩
        · exact ⟨T3, _, rfl, .inr (SqT.of upd_same), rfl, rfl, _, rfl, rfl, sT3⟩
        · exact ⟨T3, _, rfl, .inr (SqT.of upd_same), rfl, rfl, _, rfl, rfl, sT3⟩
        · refine ⟨T3, _, rfl, .inr (SqT.of upd_same), rfl, rfl, _, rfl, fun p2 hp2 => ?_⟩
          refine ⟨.int a, rfl, .int b, rfl, _, _, rfl, rfl, .int a, rfl, .int b, rfl, _, _, rfl, rfl, .int a, rfl, .int b, rfl, _, _, rfl, rfl, upd_same, kv2 a b, rfl, (by show 3 ≤ 15; decide), .str "and", rfl, p2, _, rfl, dget_at (k := Sum.inr "and") upd_same rfl, rfl, ?_⟩
          rw [upd_upd]
          exact sT3.trans (same_new hp2)
        · refine ⟨T3, _, rfl, .inr (SqT.of upd_same), rfl, rfl, _, rfl, fun p2 hp2 => ?_⟩
          refine ⟨.int a, rfl, .int b, rfl, _, _, rfl, rfl, .int a, rfl, .int b, rfl, _, _, rfl, rfl, .int a, rfl, .int b, rfl, _, _, rfl, rfl, upd_same, kv2 a b, rfl, (by show 3 ≤ 15; decide), .str "or", rfl, p2, _, rfl, dget_at (k := Sum.inr "or") upd_same rfl, rfl, ?_⟩
          rw [upd_upd]
          exact sT3.trans (same_new hp2)
        · refine ⟨T3, _, rfl, .inr (SqT.of upd_same), rfl, rfl, _, rfl, fun p2 hp2 => ?_⟩
          refine ⟨.int a, rfl, .int b, rfl, _, _, rfl, rfl, .int a, rfl, .int b, rfl, _, _, rfl, rfl, .int a, rfl, .int b, rfl, _, _, rfl, rfl, upd_same, kv2 a b, rfl, (by show 3 ≤ 15; decide), .str "xor", rfl, p2, _, rfl, dget_at (k := Sum.inr "xor") upd_same rfl, rfl, ?_⟩
          rw [upd_upd]
          exact sT3.trans (same_new hp2)
        · exact ⟨T3, _, rfl, .inr (SqT.of upd_same), rfl, rfl, _, rfl, rfl, sT3⟩
        · exact ⟨T3, _, rfl, .inr (SqT.of upd_same), rfl, rfl, _, rfl, rfl, sT3⟩
      · rintro σ' H10 ⟨rfl, s10⟩
        refine ⟨fun σ' H' => ∃ M, σ' = [some (.ref R), some (.ref C), some (.ref B), some (.ref L), some (.ref G), some (.int (i : Nat)), some (.ref r), some (.str d.1), some (.int c), some (.int a), some (.int b), some (.int (dbitAt d c told)), some (.ref M), none] ∧ Same H10 H' ∧ H' M = some (.dK (mergeK [] (kv3 a b c))), ?_, ?_⟩
        · intro M hM
          have hb := ar.bb
          have ha := ar.ba
          clear ar
          rcases ha with rfl | rfl
          · -- 0
            refine ⟨.int 0, rfl, rfl, _, rfl, .int c, rfl, rfl, .inr ⟨_, rfl, .int 0, rfl, .int 0, rfl, .int b, rfl, _, _, rfl, rfl, .int c, rfl, _, _, rfl, rfl, _, 1, rfl, rfl, .inr ⟨_, rfl, .int 0, rfl, _, _, rfl, rfl, .int b, rfl, _, _, rfl, rfl, .int c, rfl, _, _, rfl, rfl, _, 1, rfl, rfl, .inr ⟨_, rfl, upd_same, kv3 0 b c, ?_, (by show 4 ≤ 15; decide), M, rfl, by rw [upd_upd]; exact same_new hM, upd_same⟩⟩⟩⟩
            rcases hb with rfl | rfl <;> rcases hcb with rfl | rfl <;> rfl
          · -- 1
            refine ⟨.int 1, rfl, rfl, _, rfl, .inr ⟨_, rfl, .int 1, rfl, .int 1, rfl, .int b, rfl, _, _, rfl, rfl, .int c, rfl, _, _, rfl, rfl, _, 1, rfl, rfl, .inr ⟨_, rfl, .int 1, rfl, _, _, rfl, rfl, .int b, rfl, _, _, rfl, rfl, .int c, rfl, _, _, rfl, rfl, _, 1, rfl, rfl, .inr ⟨_, rfl, upd_same, kv3 1 b c, ?_, (by show 4 ≤ 15; decide), M, rfl, by rw [upd_upd]; exact same_new hM, upd_same⟩⟩⟩⟩
            rcases hb with rfl | rfl <;> rcases hcb with rfl | rfl <;> rfl
        · rintro σ' H11 ⟨M, rfl, s11, eM⟩
          have eL11 := s11 _ _ (s10 _ _ eL9)
          refine ⟨.ref L, rfl, .inl ⟨rfl, _, .inl (.inl eL11)⟩, .int _, rfl, L, _, _, rfl, rfl, eL11, ?_, ?_⟩
          · rw [List.length_map, htold, hlen]
            exact small1000 (by omega)
          have nML : M ≠ L := fun z => by rw [z, eL11] at eM; cases eM
          have nGL : G ≠ L := nLG.symm
          have eG12 : upd H11 L (.lst (told.map V.int ++ [.int (dbitAt d c told)])) G = some (.lst (((nc ds cs bs).take i).map V.int)) := by
            rw [upd_ne nGL]
            exact s11 _ _ (s10 _ _ eG9)
          have eM12 : upd H11 L (.lst (told.map V.int ++ [.int (dbitAt d c told)])) M = some (.dK (mergeK [] (kv3 a b c))) := by
            rw [upd_ne nML]
            exact eM
          refine ⟨.ref G, rfl, .inl ⟨rfl, _, .inl (.inl eG12)⟩, .ref M, rfl, M, rfl, .inl ⟨_, .inl eM12⟩, .str d.1, rfl, _, DGet.k (k := Sum.inr d.1) eM12, ?_⟩
          rw [kv3_get fwd, ar.car c hcb]
          refine ⟨G, _, _, rfl, rfl, eG12, ?_, _, _, _, _, _, _, _, _, rfl, ?_, ?_, ?_⟩
          · rw [List.length_map, List.length_take]
            exact small1000 (by omega)
          · rw [upd_ne nLG, upd_same, bts_next hd1 hc, List.map_append, htold]
            rfl
          · rw [upd_same]
            unfold nc
            rw [nxt_next hd1 hc, List.map_append, ecar]
            rfl
          · intro z u e
            have nzL : z ≠ L := ne_of_none e hL
            have nzG : z ≠ G := ne_of_none e nG
            rw [upd_ne nzG, upd_ne nzL]
            exact s11 _ _ (s10 _ _ (s9 _ _ e))
    · obtain ⟨y5, y6, y7, y8, y9, y10, y11, y12, rfl, e3, g3, sm⟩ := hp
      have lrs : (rs.map V.ref).length = ds.length := by rw [List.length_map, awLen hd]
      rw [lrs, List.take_length, ← hcl, List.take_length] at e3
      have nl : (nc ds cs bs).length = ds.length := nxt_len hcl.symm
      rw [lrs, ← nl, List.take_length] at g3
      refine ⟨.ref L, rfl, .ref G, rfl, G, _, rfl, .inl ⟨.inl (.inl g3), fun Z hZ => ?_⟩⟩
      have sZ := same_new (o := .tup ((nc ds cs bs).map V.int)) hZ
      refine ⟨(by show 2 ≤ sizeLine; decide), fun T hT => ?_⟩
      have sT := same_new (o := .tup [.ref L, .ref Z]) hT
      exact q _ T L Z (sm.trans (sZ.trans sT)) hL upd_same (sT _ _ (sZ _ _ e3)) (sT _ _ upd_same)
def spF1 : Sp := fun vs H Q _ => ∃ (R : Addr) (m o : Int) (ds : List Deed), vs = [.ref R] ∧ RowAt H R m ds o ∧ ds.length ≤ 100 ∧ ∀ H' C, Same H H' → H' C = some (.tup ((ds.map fcD).map V.int)) → Q (.ref C) H'
theorem ok_f1 {f : Addr} {fd : FuncData} {k : Nat} (F : Fun K "_law_first" "_law_first" s_law_first f fd) (mt : mg "tuple" = none) (mi : mg "int" = none) : FnOk P w K mg base CX0 (k + 1) f fd ["row"] spF1 := by
  refine F.ok sc_law_first (fun vs H Q E h => ?_) (fun cdv A outer s H vs Q E hr h => ?_)
  · obtain ⟨R, m, o, ds, rfl, _⟩ := h
    rfl
  · obtain ⟨R, m, o, ds, rfl, hrow, l8, q⟩ := h
    obtain ⟨D, rs, eR, eD, hd⟩ := id hrow
    refine ⟨_, pss_one (ps_ret (pe_callTy call_tuple_of (by rfl) mt (by decide +kernel) (pa_cons
      (pe_lc (own := [("deed", 1)]) (g := gName 1) (by rfl) sc_law_first.nd (pi_tup (pe_ix ix_tup (pv 0) pe_int (fun _ _ => rfl))) (blkOk_by (own := [("deed", 1)]) (N := N_law_first) (sc := defScope s_law_first) (by decide +kernel))
        (fun _ _ _ _ _ => pg_name (i := 1) sc_law_first.nd rfl (Or.inl rfl)) (fun _ _ _ _ _ => pts_nil)
        (fun _ _ _ _ _ => pe_callTy call_int1 (by rfl) mi (by decide +kernel) (pa_cons (pe_cmpR (r := rIn K false) op_in_seq (pe_ix (r := rIxT K) ix_tup (pv 1) pe_int (fun _ _ => rfl)) (pe_tup (pa_cons pe_str (pa_cons pe_str pa_nil))) (by rfl)) pa_nil))) pa_nil))), ?_⟩
    refine ⟨.ref R, rfl, R, _, 1, .ref D, rfl, rfl, SqT.of eR, rfl, D, rfl, ⟨_, SqT.of eD⟩, fun C hC => ?_⟩
    refine lc_tup (K := K) (a := D) (xs := rs.map V.ref) (fun j H4 => H4 C = some (.lst (((ds.take j).map fcD).map V.int)) ∧ Same H H4) ⟨upd_same, same_new hC⟩ (fun j H4 _ hp => SqT.of (hp.2 _ _ eD)) (fun j x H4 hx hp => ?_) (fun H4 hp => ?_)
    · obtain ⟨eC, s4⟩ := hp
      rw [List.getElem?_map] at hx
      obtain ⟨r, hr1, rfl⟩ := Option.map_eq_some_iff.mp hx
      obtain ⟨d, hd1, hd2⟩ := awGet hd hr1
      have er := s4 _ _ hd2
      refine ⟨rfl, .ref r, rfl, r, _, 0, .str d.1, rfl, rfl, SqT.of er, dv0 d, (by show 2 ≤ sizeLine; decide), fun T hT => ?_⟩
      have sT := same_new (o := .tup [.str "neg", .str "one"]) hT
      have hin := inS d.1 ["neg", "one"]
      have ev : (if inV (.str d.1) [V.str "neg", .str "one"] = true then (1 : Int) else 0) = fcD d := by
        have h2 : inV (.str d.1) [V.str "neg", .str "one"] = decide (d.1 ∈ (["neg", "one"] : List Str)) := hin
        rw [h2]
        unfold fcD
        by_cases h : d.1 ∈ (["neg", "one"] : List Str)
        · rw [decide_eq_true h, if_pos rfl, if_pos h]
        · rw [decide_eq_false h, if_neg (fun z => nomatch z), if_neg h]
      refine ⟨T, _, rfl, .inr (SqT.of upd_same), rfl, rfl, .inr ⟨_, rfl, ?_⟩⟩
      refine ⟨_, sT _ _ eC, ?_, ?_, ?_⟩
      · rw [List.length_map, List.length_map, List.length_take]
        exact small1000 (by omega)
      · rw [upd_same, List.take_add_one, hd1, List.map_append, List.map_append]
        show some (HO.lst (_ ++ [V.int (if inV (.str d.1) [V.str "neg", .str "one"] = true then (1 : Int) else 0)])) = _
        rw [ev]
        rfl
      · intro b u e
        rw [upd_ne (ne_of_none e hC)]
        exact sT _ _ (s4 _ _ e)
    · obtain ⟨eC, s4⟩ := hp
      rw [List.length_map, awLen hd, List.take_length] at eC
      refine ⟨C, _, rfl, .inl ⟨.inl (.inl eC), fun Z hZ => ?_⟩⟩
      exact q _ Z (s4.trans (same_new hZ)) upd_same
def chB : Nat → List (List Int)
  | 0 => [[]]
  | m + 1 => (chB m).map (0 :: ·) ++ (chB m).map (1 :: ·)
theorem chB_len : ∀ m, (chB m).length = 2 ^ m
  | 0 => rfl
  | m + 1 => by
    show ((chB m).map (0 :: ·) ++ (chB m).map (1 :: ·)).length = _
    rw [List.length_append, List.length_map, List.length_map, chB_len m, Nat.pow_succ]
    omega
theorem chB_elt : ∀ m, ∀ bs ∈ chB m, bs.length = m
  | 0, bs, h => by
    rw [List.mem_singleton.mp h]
    rfl
  | m + 1, bs, h => by
    rcases List.mem_append.mp h with h | h
    · obtain ⟨b, hb, rfl⟩ := List.mem_map.mp h
      rw [List.length_cons, chB_elt m b hb]
    · obtain ⟨b, hb, rfl⟩ := List.mem_map.mp h
      rw [List.length_cons, chB_elt m b hb]
theorem chB_eq {m : Nat} (h : m ≤ 3) : chB m = allB m := by
  have hm : m = 0 ∨ m = 1 ∨ m = 2 ∨ m = 3 := by omega
  rcases hm with rfl | rfl | rfl | rfl <;> rfl
def spCh : Sp := fun vs H Q _ => ∃ m : Nat, vs = [.int (m : Int)] ∧ m ≤ 3 ∧ ∀ H' p fs, Same H H' → H p = none → H' p = some (.lst (fs.map V.ref)) → TAt H' fs (allB m) → Q (.ref p) H'
set_option maxHeartbeats 1000000 in
theorem ok_ch {f : Addr} {fd : FuncData} {k : Nat} (F : Fun K "_law_choices" "_law_choices" s_law_choices f fd) (mr : mg "range" = none) : FnOk P w K mg base CX0 (k + 1) f fd ["many"] spCh := by
  refine F.ok sc_law_choices (fun vs H Q E h => ?_) (fun cdv A outer s H vs Q E hr h => ?_)
  · obtain ⟨m, rfl, _⟩ := h
    rfl
  · obtain ⟨m, rfl, m3, q⟩ := h
    refine ⟨_, pss_cons (ps_set (i := 1) sc_law_choices.nd rfl (.inl rfl) (pe_lst (pa_cons (pe_tup pa_nil) pa_nil)))
      (pss_cons (ps_for PassesOwn.never rfl (pi_range1 (by rfl) mr (pa_cons (pv 0) pa_nil)) (pg_name (i := 2) sc_law_choices.nd rfl (.inl rfl))
        (pss_one (ps_set (i := 1) sc_law_choices.nd rfl (.inl rfl) (pe_op op_cat
          (pe_lc (own := [("some", 3)]) (g := gName 3) (by rfl) sc_law_choices.nd (pi_list (pv 1)) (blkOk_by (own := [("some", 3)]) (N := N_law_choices) (sc := defScope s_law_choices) (by decide +kernel)) (fun _ _ _ _ _ => pg_name (i := 3) sc_law_choices.nd rfl (Or.inl rfl)) (fun _ _ _ _ _ => pts_nil) (fun _ _ _ _ _ => pe_op op_catZ (pe_tup (pa_cons pe_int pa_nil)) (pv 3)))
          (pe_lc (own := [("some", 3)]) (g := gName 3) (by rfl) sc_law_choices.nd (pi_list (pv 1)) (blkOk_by (own := [("some", 3)]) (N := N_law_choices) (sc := defScope s_law_choices) (by decide +kernel)) (fun _ _ _ _ _ => pg_name (i := 3) sc_law_choices.nd rfl (Or.inl rfl)) (fun _ _ _ _ _ => pts_nil) (fun _ _ _ _ _ => pe_op op_catZ (pe_tup (pa_cons pe_int pa_nil)) (pv 3)))))))
      (pss_one (ps_ret (pv 1)))), ?_⟩
    refine ⟨Nat.zero_le _, fun T0 hT0 => ⟨(by show 1 ≤ sizeLine; decide), fun L0 hL0 => ?_⟩⟩
    have sT0 := same_new (o := .tup []) hT0
    have sL0 := same_new (o := .lst [.ref T0]) hL0
    refine ⟨.int m, rfl, m, rfl, by omega, by omega, for_range (lo := 0) (n := m) (fun i σ H3 => ∃ y2 L fs, σ = [some (.int (m : Int)), some (.ref L), y2, none] ∧ H3 L = some (.lst (fs.map V.ref)) ∧ TAt H3 fs (chB i) ∧ Same H H3 ∧ H L = none) ⟨none, L0, [T0], rfl, upd_same, .cons (sL0 _ _ upd_same) .nil, sT0.trans sL0, sT0.free hL0⟩ (fun i σ H3 hi hp => ?_) (fun σ H3 hp => ?_)⟩
    · obtain ⟨y2, L, fs, rfl, eL, hf, s3, nL⟩ := hp
      have p8 : 2 ^ i ≤ 8 := Nat.le_trans (Nat.pow_le_pow_right (by decide) (show i ≤ 3 by omega)) (by decide)
      have lf := awLen hf
      rw [chB_len] at lf
      refine ⟨.ref L, rfl, L, rfl, ⟨_, .inl (.inl eL)⟩, fun C0 hC0 => ?_⟩
      refine lc_list (K := K) (a := L) (xs := fs.map V.ref) (fun j H6 => ∃ qs, H6 C0 = some (.lst (qs.map V.ref)) ∧ TAt H6 qs (((chB i).take j).map (0 :: ·)) ∧ Same H3 H6) ⟨[], upd_same, .nil, same_new hC0⟩ (fun j H6 _ hp => ?_) (fun j x H6 hx hp => ?_) (fun H4 hp => ?_)
      · obtain ⟨_, _, _, s6⟩ := hp
        exact .inl (.inl (s6 _ _ eL))
      · obtain ⟨qs, eC, hq, s6⟩ := hp
        rw [List.getElem?_map] at hx
        obtain ⟨g, hg1, rfl⟩ := Option.map_eq_some_iff.mp hx
        obtain ⟨bs, hb1, hb2⟩ := awGet hf hg1
        have hb2' : H3 g = some (.tup (bs.map V.int)) := hb2
        have eg : H6 g = some (.tup (bs.map V.int)) := s6 _ _ hb2'
        have lq := awLen hq
        rw [List.length_map, List.length_take] at lq
        have jl := (List.getElem?_eq_some_iff.mp hb1).1
        have bl := chB_elt i bs (List.mem_of_getElem? hb1)
        rw [chB_len] at jl
        refine ⟨rfl, (by show 1 ≤ sizeLine; decide), fun T hT => ?_⟩
        have sT := same_new (o := .tup [.int 0]) hT
        refine ⟨.ref g, rfl, T, g, _, _, rfl, rfl, upd_same, sT _ _ eg, ?_, fun p H7 s7 e7 => ?_⟩
        · rw [List.length_map]
          exact Nat.le_of_lt (small1000 (by show 1 + bs.length ≤ 1000; omega))
        have eC7 := s7 _ _ (sT _ _ eC)
        have e7' : H7 p = some (.tup ((0 :: bs).map V.int)) := e7
        refine ⟨_, eC7, ?_, qs ++ [p], ?_, ?_, ?_⟩
        · rw [List.length_map]
          exact small1000 (by omega)
        · rw [upd_same, List.map_append]
          rfl
        · rw [List.take_add_one, hb1, List.map_append]
          exact tat_stay (tups_put eC7) (awSnoc (F := fun (f : Addr) (b : List Int) => H7 f = some (.tup (b.map V.int))) e7' (tat_stay (Same.tups (sT.trans s7)) hq))
        · intro b u e
          rw [upd_ne (ne_of_none e hC0)]
          exact s7 _ _ (sT _ _ (s6 _ _ e))
      obtain ⟨qs0, eC0, hq0, s4⟩ := hp
      have fl0 : (fs.map V.ref).length = (chB i).length := by rw [List.length_map, lf, chB_len]
      rw [fl0, List.take_length] at hq0
      have lq0 := awLen hq0
      rw [List.length_map, chB_len] at lq0
      refine ⟨.ref L, rfl, L, rfl, ⟨_, .inl (.inl (s4 _ _ eL))⟩, fun C1 hC1 => ?_⟩
      refine lc_list (K := K) (a := L) (xs := fs.map V.ref) (fun j H6 => ∃ qs, H6 C1 = some (.lst (qs.map V.ref)) ∧ TAt H6 qs (((chB i).take j).map (1 :: ·)) ∧ Same H4 H6) ⟨[], upd_same, .nil, same_new hC1⟩ (fun j H6 _ hp => ?_) (fun j x H6 hx hp => ?_) (fun H5 hp => ?_)
      · obtain ⟨_, _, _, s6⟩ := hp
        exact .inl (.inl (s6 _ _ (s4 _ _ eL)))
      · obtain ⟨qs, eC, hq, s6⟩ := hp
        rw [List.getElem?_map] at hx
        obtain ⟨g, hg1, rfl⟩ := Option.map_eq_some_iff.mp hx
        obtain ⟨bs, hb1, hb2⟩ := awGet hf hg1
        have hb2' : H3 g = some (.tup (bs.map V.int)) := hb2
        have eg : H6 g = some (.tup (bs.map V.int)) := s6 _ _ (s4 _ _ hb2')
        have lq := awLen hq
        rw [List.length_map, List.length_take] at lq
        have jl := (List.getElem?_eq_some_iff.mp hb1).1
        have bl := chB_elt i bs (List.mem_of_getElem? hb1)
        rw [chB_len] at jl
        refine ⟨rfl, (by show 1 ≤ sizeLine; decide), fun T hT => ?_⟩
        have sT := same_new (o := .tup [.int 1]) hT
        refine ⟨.ref g, rfl, T, g, _, _, rfl, rfl, upd_same, sT _ _ eg, ?_, fun p H7 s7 e7 => ?_⟩
        · rw [List.length_map]
          exact Nat.le_of_lt (small1000 (by show 1 + bs.length ≤ 1000; omega))
        have eC7 := s7 _ _ (sT _ _ eC)
        have e7' : H7 p = some (.tup ((1 :: bs).map V.int)) := e7
        refine ⟨_, eC7, ?_, qs ++ [p], ?_, ?_, ?_⟩
        · rw [List.length_map]
          exact small1000 (by omega)
        · rw [upd_same, List.map_append]
          rfl
        · rw [List.take_add_one, hb1, List.map_append]
          exact tat_stay (tups_put eC7) (awSnoc (F := fun (f : Addr) (b : List Int) => H7 f = some (.tup (b.map V.int))) e7' (tat_stay (Same.tups (sT.trans s7)) hq))
        · intro b u e
          rw [upd_ne (ne_of_none e hC1)]
          exact s7 _ _ (sT _ _ (s6 _ _ e))
      obtain ⟨qs1, eC1, hq1, s5⟩ := hp
      have fl1 : (fs.map V.ref).length = (chB i).length := by rw [List.length_map, lf, chB_len]
      rw [fl1, List.take_length] at hq1
      have lq1 := awLen hq1
      rw [List.length_map, chB_len] at lq1
      refine ⟨C0, C1, _, _, rfl, rfl, s5 _ _ eC0, eC1, ?_, fun U hU => ?_⟩
      · rw [List.length_map, List.length_map, lq0, lq1]
        exact Nat.le_of_lt (small1000 (by omega))
      have sU := same_new (o := .lst (qs0.map V.ref ++ qs1.map V.ref)) hU
      refine ⟨_, U, qs0 ++ qs1, rfl, ?_, ?_, s3.trans (s4.trans (s5.trans sU)), (s3.trans (s4.trans s5)).free hU⟩
      · rw [upd_same, List.map_append]
      · exact awAppend (tat_stay (Same.tups (s5.trans sU)) hq0) (tat_stay (Same.tups sU) hq1)
    · obtain ⟨y2, L, fs, rfl, eL, hf, s3, nL⟩ := hp
      rw [chB_eq m3] at hf
      exact ⟨.ref L, rfl, q H3 L fs s3 nL eL hf⟩
/-! ### names, the class Book -/
abbrev sBook___init__ : Stmt := inClass c_Book 0
abbrev sBook_check_kept : Stmt := inClass c_Book 1
abbrev sBook_tell : Stmt := inClass c_Book 2
abbrev sBook_forget : Stmt := inClass c_Book 3
abbrev sBook_back : Stmt := inClass c_Book 4
abbrev sBook_row : Stmt := inClass c_Book 5
abbrev sBook_names : Stmt := inClass c_Book 6
theorem scBi : FnScope ["self"] ["self"] (defScope sBook___init__) := ⟨rfl, rfl, rfl, by decide +kernel, rfl, by decide +kernel, by decide +kernel⟩
theorem scBc : FnScope ["self", "name"] ["self", "name"] (defScope sBook_check_kept) := ⟨rfl, rfl, rfl, by decide +kernel, rfl, by decide +kernel, by decide +kernel⟩
theorem scBt : FnScope ["self", "name", "row"] ["self", "name", "row"] (defScope sBook_tell) := ⟨rfl, rfl, rfl, by decide +kernel, rfl, by decide +kernel, by decide +kernel⟩
theorem scBf : FnScope ["self", "name"] ["self", "name"] (defScope sBook_forget) := ⟨rfl, rfl, rfl, by decide +kernel, rfl, by decide +kernel, by decide +kernel⟩
theorem scBb : FnScope ["self", "name", "row"] ["self"] (defScope sBook_back) := ⟨rfl, rfl, rfl, by decide +kernel, rfl, by decide +kernel, by decide +kernel⟩
theorem scBr : FnScope ["self", "name"] ["self", "name"] (defScope sBook_row) := ⟨rfl, rfl, rfl, by decide +kernel, rfl, by decide +kernel, by decide +kernel⟩
theorem scBn : FnScope ["self"] ["self"] (defScope sBook_names) := ⟨rfl, rfl, rfl, by decide +kernel, rfl, by decide +kernel, by decide +kernel⟩
def letS : Str := "abcdefghijklmnopqrstuvwxyz"
def isLet (c : Nat) : Bool := decide (c ∈ letS.cps.toList)
def nameS (t : Str) : Bool := decide (1 ≤ t.length ∧ t.length ≤ 8) && t.cps.toList.all isLet
def nameB : PyData → Bool
  | .str t => nameS t
  | _ => false
def spIn : Sp := fun vs H Q _ => ∃ (N : Addr → Prop) (x : V) (d : PyData), vs = [x] ∧ AnyAt N H x d ∧ (∀ t, d = .str t → t.length ≤ 100000) ∧ ∀ H', Same H H' → Q (.bl (nameB d)) H'
theorem ok_in {f : Addr} {t1 t2 : Tok} {fd : FuncData} {k : Nat} (F : Fun K "is_name" "is_name" s_is_name f fd) (gF : mg "LETTERS" = some (.str letS t1)) (gM : mg "LONGEST_NAME" = some (.int 8 t2)) (mi : mg "isinstance" = none) (mS : mg "str" = none) (mn : mg "len" = none) (ma : mg "all" = none) : FnOk P w K mg base CX0 (k + 1) f fd ["thing"] spIn := by
  refine F.ok sc_is_name (fun vs H Q E h => ?_) (fun cdv A outer s H vs Q E hr h => ?_)
  · obtain ⟨N, x, d, rfl, _⟩ := h
    rfl
  · obtain ⟨N, x, d, rfl, hx, hl, q⟩ := h
    refine ⟨_, pss_cons (ps_if (PW.pt (pw_or (pt_not (pt_val (pe_callB call_isi (by rfl) mi (by decide +kernel) (pa_cons (pv 0) (pa_cons (pe_bltn (v := .ty "str") (by rfl) mS (by decide +kernel) rfl) pa_nil))))) (pw_or1 (pt_not (pt_chain op_le op_le pe_int (pe_callB call_len_str (by rfl) mn PySem.boot_len (pa_cons (pv 0) pa_nil)) (pe_glob (v := .int 8) (by rfl) gM ⟨t2, rfl⟩)))))) (pss_one (ps_ret pe_bl)) pss_nil)
      (pss_one (ps_ret (pe_callB (cr_all rfl) (by rfl) ma (by decide +kernel) (pa_cons
          (pe_lc (own := [("sign", 1)]) (g := gName 1) (by rfl) sc_is_name.nd (pi_str (pv 0)) (blkOk_by (own := [("sign", 1)]) (N := N_is_name) (sc := defScope s_is_name) (by decide +kernel))
            (fun _ _ _ _ _ => pg_name (i := 1) sc_is_name.nd rfl (Or.inl rfl)) (fun _ _ _ _ _ => pts_nil)
            (fun _ _ _ _ _ => pe_cmpR op_in_sign (pv 1) (pe_glob (v := .str letS) (by rfl) gF ⟨t1, rfl⟩) (by rfl))) pa_nil)))), ?_⟩
    refine ⟨x, rfl, isi_str hx ⟨_, rfl, ?_⟩⟩
    cases hi : isStrD d with
    | false =>
      cases d <;> first | exact q H (Same.refl H) | exact Bool.noConfusion hi
    | true =>
    obtain ⟨z, rfl⟩ : ∃ z, d = .str z := by
      cases d <;> first | exact ⟨_, rfl⟩ | exact Bool.noConfusion hi
    obtain rfl := any_str hx
    have hz := hl z rfl
    have hzs : z.length ≤ sizeLine := by rw [sizeLine_eq]; omega
    have bad : ¬ (1 ≤ z.length ∧ z.length ≤ 8) → Q (.bl false) H := fun hn => by
      have := q H (Same.refl H)
      have e : nameB (.str z) = false := by
        show (decide (1 ≤ z.length ∧ z.length ≤ 8) && _) = false
        rw [decide_eq_false hn, Bool.false_and]
      rw [e] at this
      exact this
    refine ⟨.str z, rfl, z, rfl, hzs, 1, _, rfl, rfl, _, rfl, ?_⟩
    by_cases h1 : (1 : Int) ≤ (z.length : Int)
    · rw [decide_eq_true h1]
      refine ⟨_, 8, rfl, rfl, _, rfl, ?_⟩
      by_cases h8 : (z.length : Int) ≤ 8
      · rw [decide_eq_true h8]
        have hl8 : 1 ≤ z.length ∧ z.length ≤ 8 := by omega
        refine ⟨.str z, rfl, z, rfl, fun C hC => ?_⟩
        have sC : ∀ o, Same H (upd H C o) := fun o => same_new hC
        have esz : z.cps.size = z.cps.toList.length := by simp
        have hl9 : z.cps.toList.length ≤ 8 := by rw [← esz]; exact hl8.2
        refine lc_it (walk_str (z := z)) (fun j H4 => H4 = upd H C (.lst (((z.cps.toList.take j).map isLet).map V.bl))) rfl (fun _ _ _ _ => trivial) (fun j x H4 H5 hj h4 hx => ?_) (fun H4 h4 => ?_)
        · obtain ⟨rfl, c, hc, rfl⟩ := hx
          subst h4
          have hc' : z.cps.toList[j]? = some c := by
            rw [Array.getElem?_toList]
            exact hc
          refine ⟨rfl, .str ⟨#[c]⟩, rfl, c, _, rfl, rfl, _, upd_same, ?_, ?_⟩
          · rw [List.length_map, List.length_map, List.length_take]
            exact small1000 (by omega)
          · rw [upd_upd, List.take_add_one, hc']
            simp [isLet]
        · have eC : H4 C = some (.lst ((z.cps.toList.map isLet).map V.bl)) := by rw [h4, upd_same, esz, List.take_length]
          have s4 : Same H H4 := by rw [h4]; exact sC _
          have ea : (z.cps.toList.map isLet).all id = z.cps.toList.all isLet := by rw [List.all_map]; rfl
          refine ⟨C, _, rfl, .inl (.inl eC), ?_⟩
          rw [ea]
          have := q H4 s4
          have e : nameB (.str z) = z.cps.toList.all isLet := by
            show (decide (1 ≤ z.length ∧ z.length ≤ 8) && _) = _
            rw [decide_eq_true hl8, Bool.true_and]
          rw [e] at this
          exact this
      · rw [decide_eq_false h8]
        exact bad (by omega)
    · rw [decide_eq_false h1]
      exact ⟨false, rfl, bad (by omega)⟩
/-! ### what a book's methods do where nothing is refused -/
theorem pss_neverB {X : Cx} {l : List Stmt} : PSs X l (fun _ _ _ => False) := ⟨fun _ _ _ _ _ _ h => h.elim⟩
theorem b_kd : ¬ ("kept" : Str) = "done" := by decide +kernel
theorem b_kl : ¬ ("kept" : Str) = "looks" := by decide +kernel
theorem b_dl : ¬ ("done" : Str) = "looks" := by decide +kernel
def bF (Kd Dn Lk : Addr) : List (Str × V) := putF "looks" (.ref Lk) (putF "done" (.ref Dn) (putF "kept" (.ref Kd) []))
theorem bF_kept (Kd Dn Lk : Addr) : (bF Kd Dn Lk).lookup ("kept" : Str) = some (.ref Kd) := by
  unfold bF
  rw [lookup_putF, if_neg b_kl, lookup_putF, if_neg b_kd, lookup_putF, if_pos rfl]
theorem bF_done (Kd Dn Lk : Addr) : (bF Kd Dn Lk).lookup ("done" : Str) = some (.ref Dn) := by
  unfold bF
  rw [lookup_putF, if_neg b_dl, lookup_putF, if_pos rfl]
theorem bF_looks (Kd Dn Lk : Addr) : (bF Kd Dn Lk).lookup ("looks" : Str) = some (.ref Lk) := by
  unfold bF
  rw [lookup_putF, if_pos rfl]
theorem bF_no (Kd Dn Lk : Addr) {m : Str} (h1 : ¬ m = "looks") (h2 : ¬ m = "done") (h3 : ¬ m = "kept") : (bF Kd Dn Lk).lookup m = none := by
  unfold bF
  rw [lookup_putF, if_neg h1, lookup_putF, if_neg h2, lookup_putF, if_neg h3]
  rfl
structure BCls (K : PySem.W.Frag) (mg : Str → Option Value) (C : Addr) : Prop where
  cl : Cls K C
  nK : NoAttr K C "kept"
  nD : NoAttr K C "done"
  nL : NoAttr K C "looks"
  mgC : mg "Book" = some (.ref C)
def oR : Option Addr → V
  | some r => .ref r
  | none => .non
abbrev Dn1 := Str × Option Addr
abbrev DnAt (H : Hp) : List Addr → List Dn1 → Prop := Paired fun t e => H t = some (.tup [.str e.1, oR e.2])
abbrev Kvs := List (Key × V)
def KvOk (kvs : Kvs) : Prop := ∀ e ∈ kvs, ∃ t r, e = ((Sum.inr t : Key), V.ref r)
theorem kv_put {kvs : Kvs} (h : KvOk kvs) (t : Str) (r : Addr) : KvOk (putK kvs (Sum.inr t) (.ref r)) := fun e he => by
  unfold putK at he
  by_cases hc : (kvs.any fun kv => decide (kv.1 = (Sum.inr t : Key))) = true
  · rw [if_pos hc] at he
    obtain ⟨x, hx, rfl⟩ := List.mem_map.mp he
    by_cases hk : x.1 = (Sum.inr t : Key)
    · rw [if_pos hk, hk]
      exact ⟨t, r, rfl⟩
    · rw [if_neg hk]
      exact h x hx
  · rw [if_neg hc] at he
    rcases List.mem_append.mp he with he | he
    · exact h e he
    · rw [List.mem_singleton.mp he]
      exact ⟨t, r, rfl⟩
theorem kv_drop {kvs : Kvs} (h : KvOk kvs) (t : Str) : KvOk (dropK kvs (Sum.inr t)) := fun e he => h e (List.mem_filter.mp he).1
theorem kv_get {kvs : Kvs} (h : KvOk kvs) {t : Str} {v : V} (e : valV kvs (Sum.inr t) = some v) : ∃ r, v = .ref r := by
  unfold valV at e
  obtain ⟨x, hx, rfl⟩ := Option.map_eq_some_iff.mp e
  obtain ⟨_, r, rfl⟩ := h x (List.mem_of_find?_eq_some hx)
  exact ⟨r, rfl⟩
/-- a book: its dict of names, what may be undone -/
structure BkAt (C : Addr) (H : Hp) (p Kd Dn Lk : Addr) (kvs : Kvs) (dn : List Dn1) : Prop where
  ob : ∃ dx, H p = some (.ins C dx (bF Kd Dn Lk))
  kept : H Kd = some (.dK kvs)
  done : ∃ ts, H Dn = some (.lst (ts.map V.ref)) ∧ DnAt H ts dn
  ok : KvOk kvs
  few : kvs.length ≤ 1000000
theorem BkAt.stay {C : Addr} {H H' : Hp} {p Kd Dn Lk : Addr} {kvs : Kvs} {dn : List Dn1} (h : BkAt C H p Kd Dn Lk kvs dn) (k : ∀ c o, (c = p ∨ c = Kd ∨ c = Dn) → H c = some o → H' c = some o) (t : TupsStay H H') : BkAt C H' p Kd Dn Lk kvs dn := by
  obtain ⟨⟨dx, ob⟩, kept, ⟨ts, e1, e2⟩, ok, few⟩ := h
  exact ⟨⟨dx, k _ _ (.inl rfl) ob⟩, k _ _ (.inr (.inl rfl)) kept, ⟨ts, k _ _ (.inr (.inr rfl)) e1, awMap (fun _ _ e => t _ _ e) e2⟩, ok, few⟩
theorem BkAt.same {C : Addr} {H H' : Hp} {p Kd Dn Lk : Addr} {kvs : Kvs} {dn : List Dn1} (h : BkAt C H p Kd Dn Lk kvs dn) (s : Same H H') : BkAt C H' p Kd Dn Lk kvs dn := h.stay (fun c o _ e => s c o e) (Same.tups s)
theorem any_s {N : Addr → Prop} {H : Hp} (t : Str) : AnyAt N H (.str t) (.str t) := .str t
def spCn : Sp := fun vs H Q _ => ∃ t : Str, vs = [.str t] ∧ nameS t = true ∧ ∀ H', Same H H' → Q .non H'
theorem nameS_len {t : Str} (h : nameS t = true) : t.length ≤ 8 := by
  unfold nameS at h
  rw [Bool.and_eq_true] at h
  exact (of_decide_eq_true h.1).2
theorem ok_cn {f fI : Addr} {fd fdI : FuncData} {k : Nat} (F : Fun K "check_name" "check_name" s_check_name f fd)
    (GI : FnOk P w K mg base CX0 (k + 1) fI fdI ["thing"] spIn) (kI : PySem.W.keepIn K (.ref fI) = true) (bI : Binds K fdI ["thing"] []) (gI : mg "is_name" = some (.ref fI)) : FnOk P w K mg base CX0 (k + 2) f fd ["thing"] spCn := by
  refine F.ok sc_check_name (fun vs H Q E h => ?_) (fun cdv A outer s H vs Q E hr h => ?_)
  · obtain ⟨t, rfl, _⟩ := h
    rfl
  · obtain ⟨t, rfl, ht, q⟩ := h
    refine ⟨_, pss_one (ps_if (pt_not (pt_val (pe_call GI hr (by rfl) gI kI bI .nil pass0 (pa_cons (pv 0) pa_nil)))) pss_neverB pss_nil), ?_⟩
    refine ⟨.str t, rfl, fun _ => False, .str t, .str t, rfl, .str t, fun t2 e => by injection e with e; rw [← e]; have := nameS_len ht; omega, fun H1 s1 => ⟨_, rfl, ?_⟩⟩
    have e : nameB (.str t) = true := ht
    rw [e]
    exact iteF (q H1 s1)
def spBi (P : Program) (w : World) (C : Addr) : Sp := fun vs H Q _ => ∃ (p dx : Addr), vs = [.ref p] ∧ H p = some (.ins C dx []) ∧
  ∀ H' Kd Dn Lk, BkAt C H' p Kd Dn Lk [] [] → H' Lk = some (NDO P w Lk []) → H Kd = none → H Dn = none → H Lk = none → (∀ c o, c ≠ p → H c = some o → H' c = some o) → Q .non H'
def spBc (C : Addr) : Sp := fun vs H Q _ => ∃ (p Kd Dn Lk : Addr) (kvs : Kvs) (dn : List Dn1) (t : Str), vs = [.ref p, .str t] ∧ BkAt C H p Kd Dn Lk kvs dn ∧ nameS t = true ∧ (valV kvs (Sum.inr t)).isSome = true ∧ ∀ H', Same H H' → Q .non H'
theorem ok_bc {f fN C : Addr} {fd fdN : FuncData} {k : Nat} (F : Fun K "check_kept" "Book.check_kept" sBook_check_kept f fd) (T : BCls K mg C)
    (GN : FnOk P w K mg base CX0 (k + 2) fN fdN ["thing"] spCn) (kN : PySem.W.keepIn K (.ref fN) = true) (bN : Binds K fdN ["thing"] []) (gN : mg "check_name" = some (.ref fN)) : FnOk P w K mg base CX0 (k + 3) f fd ["self", "name"] (spBc C) := by
  refine F.ok scBc (fun vs H Q E h => ?_) (fun cdv A outer s H vs Q E hr h => ?_)
  · obtain ⟨p, Kd, Dn, Lk, kvs, dn, t, rfl, _⟩ := h
    rfl
  · obtain ⟨p, Kd, Dn, Lk, kvs, dn, t, rfl, hb, ht, hk, q⟩ := h
    refine ⟨_, pss_cons (ps_expr (pe_call GN hr (by rfl) gN kN bN .nil pass0 (pa_cons (pv 1) pa_nil)))
      (pss_one (ps_if (pt_cmp (pc_dnotin (hu_of hr) (pv 1) (pe_fld (pv 0) rfl))) pss_neverB pss_nil)), ?_⟩
    refine ⟨.str t, rfl, t, rfl, ht, fun H1 s1 => ?_⟩
    have hb1 := hb.same s1
    obtain ⟨dx, ob⟩ := hb1.ob
    refine ⟨.str t, rfl, .ref p, rfl, p, C, dx, _, _, rfl, ob, T.cl, T.nK, bF_kept _ _ _, Kd, _, rfl, DGet.k (k := Sum.inr t) hb1.kept, _, rfl, ?_⟩
    rw [hk]
    exact iteF (q H1 s1)
/-! ### a book's __init__, row, names, forget, tell, back, where nothing is refused -/
theorem ok_bi {f C : Addr} {fd : FuncData} {k : Nat} (F : Fun K "__init__" "Book.__init__" sBook___init__ f fd) (T : BCls K mg C) : FnOk P w K mg base CX0 (k + 1) f fd ["self"] (spBi P w C) := by
  refine F.ok scBi (fun vs H Q E h => ?_) (fun cdv A outer s H vs Q E hr h => ?_)
  · obtain ⟨p, dx, rfl, _⟩ := h
    rfl
  · obtain ⟨p, dx, rfl, hp, q⟩ := h
    refine ⟨_, pss_cons (ps_fld (pv 0) pe_dnewK rfl) (pss_cons (ps_fld (pv 0) (pe_lst pa_nil) rfl) (pss_one (ps_fld (pv 0) (pe_ndnew rfl rfl) rfl))), ?_⟩
    intro Kd hKd
    have sK := same_new (o := .dK []) hKd
    have npK : p ≠ Kd := ne_of_none hp hKd
    refine ⟨.ref p, rfl, p, C, dx, [], rfl, sK _ _ hp, T.cl, T.nK, (by show 0 < 1000; decide), ?_⟩
    have k1 : ∀ c o, c ≠ p → H c = some o → upd (upd H Kd (.dK [])) p (.ins C dx (putF "kept" (.ref Kd) [])) c = some o := fun c o n e => by
      rw [upd_ne n]
      exact sK _ _ e
    have ep1 : upd (upd H Kd (.dK [])) p (.ins C dx (putF "kept" (.ref Kd) [])) p = some (.ins C dx (putF "kept" (.ref Kd) [])) := upd_same
    have eK1 : upd (upd H Kd (.dK [])) p (.ins C dx (putF "kept" (.ref Kd) [])) Kd = some (.dK []) := by
      rw [upd_ne npK.symm]
      exact upd_same
    generalize upd (upd H Kd (.dK [])) p (.ins C dx (putF "kept" (.ref Kd) [])) = H1 at k1 ep1 eK1
    refine ⟨Nat.zero_le _, fun Dn hDn => ?_⟩
    have sD := same_new (o := .lst []) hDn
    have npD : p ≠ Dn := ne_of_none ep1 hDn
    have hDn0 : H Dn = none := by
      cases e : H Dn with
      | none => rfl
      | some o => rw [k1 _ o npD.symm e] at hDn; cases hDn
    refine ⟨.ref p, rfl, p, C, dx, _, rfl, sD _ _ ep1, T.cl, T.nD, (by show 1 < 1000; decide), ?_⟩
    have k2 : ∀ c o, c ≠ p → H1 c = some o → upd (upd H1 Dn (.lst [])) p (.ins C dx (putF "done" (.ref Dn) (putF "kept" (.ref Kd) []))) c = some o := fun c o n e => by
      rw [upd_ne n]
      exact sD _ _ e
    have ep2 : upd (upd H1 Dn (.lst [])) p (.ins C dx (putF "done" (.ref Dn) (putF "kept" (.ref Kd) []))) p = some (.ins C dx (putF "done" (.ref Dn) (putF "kept" (.ref Kd) []))) := upd_same
    have eD2 : upd (upd H1 Dn (.lst [])) p (.ins C dx (putF "done" (.ref Dn) (putF "kept" (.ref Kd) []))) Dn = some (.lst []) := by
      rw [upd_ne npD.symm]
      exact upd_same
    generalize upd (upd H1 Dn (.lst [])) p (.ins C dx (putF "done" (.ref Dn) (putF "kept" (.ref Kd) []))) = H2 at k2 ep2 eD2
    have eK2 := k2 _ _ npK.symm eK1
    intro Lk hLk
    have sL := same_new (o := NDO P w Lk []) hLk
    have npL : p ≠ Lk := ne_of_none ep2 hLk
    have hLk0 : H Lk = none := by
      cases e : H Lk with
      | none => rfl
      | some o => rw [k2 _ o npL.symm (k1 _ o npL.symm e)] at hLk; cases hLk
    refine ⟨.ref p, rfl, p, C, dx, _, rfl, sL _ _ ep2, T.cl, T.nL, (by show 2 < 1000; decide), ?_⟩
    have k3 : ∀ c o, c ≠ p → H2 c = some o → upd (upd H2 Lk (NDO P w Lk [])) p (.ins C dx (putF "looks" (.ref Lk) (putF "done" (.ref Dn) (putF "kept" (.ref Kd) [])))) c = some o := fun c o n e => by
      rw [upd_ne n]
      exact sL _ _ e
    exact q _ Kd Dn Lk ⟨⟨dx, upd_same⟩, k3 _ _ npK.symm eK2, ⟨[], k3 _ _ npD.symm eD2, .nil⟩, (fun e h => nomatch h), Nat.zero_le _⟩ (by rw [upd_ne npL.symm]; exact upd_same) hKd hDn0 hLk0 (fun c o n e => k3 c o n (k2 c o n (k1 c o n e)))
def spBr (C : Addr) : Sp := fun vs H Q _ => ∃ (p Kd Dn Lk : Addr) (kvs : Kvs) (dn : List Dn1) (t : Str) (v : V), vs = [.ref p, .str t] ∧ BkAt C H p Kd Dn Lk kvs dn ∧ nameS t = true ∧ valV kvs (Sum.inr t) = some v ∧ ∀ H', Same H H' → Q v H'
theorem ok_br {f fC C : Addr} {fd fdC : FuncData} {k : Nat} (F : Fun K "row" "Book.row" sBook_row f fd) (T : BCls K mg C)
    (MC : Meth K C "check_kept" fC) (GC : FnOk P w K mg base CX0 (k + 3) fC fdC ["self", "name"] (spBc C)) (bC : Binds K fdC ["self", "name"] []) : FnOk P w K mg base CX0 (k + 4) f fd ["self", "name"] (spBr C) := by
  refine F.ok scBr (fun vs H Q E h => ?_) (fun cdv A outer s H vs Q E hr h => ?_)
  · obtain ⟨p, Kd, Dn, Lk, kvs, dn, t, v, rfl, _⟩ := h
    rfl
  · obtain ⟨p, Kd, Dn, Lk, kvs, dn, t, v, rfl, hb, ht, hk, q⟩ := h
    refine ⟨_, pss_cons (ps_expr (pe_meth (pv 0) T.cl MC GC hr bC .nil pass0 (pa_cons (pv 1) pa_nil)))
      (pss_one (ps_ret (pe_dget (hu_of hr) (pe_fld (pv 0) rfl) (pv 1) (fun _ _ => rfl)))), ?_⟩
    obtain ⟨dx, ob⟩ := hb.ob
    refine ⟨.ref p, rfl, p, dx, _, rfl, ob, bF_no _ _ _ (by decide +kernel) (by decide +kernel) (by decide +kernel), .str t, rfl, p, Kd, Dn, Lk, kvs, dn, t, rfl, hb, ht, by rw [hk]; rfl, fun H1 s1 => ?_⟩
    have hb1 := hb.same s1
    have dg : DGet H1 Kd (.str t) (some v) := by
      have := DGet.k (k := Sum.inr t) hb1.kept
      rw [hk] at this
      exact this
    exact ⟨.ref p, rfl, p, C, dx, _, _, rfl, s1 _ _ ob, T.cl, T.nK, bF_kept _ _ _, .str t, rfl, Kd, v, rfl, dg, q H1 s1⟩
def spBn (C : Addr) : Sp := fun vs H Q _ => ∃ (p Kd Dn Lk : Addr) (kvs : Kvs) (dn : List Dn1) (ks : List Str), vs = [.ref p] ∧ BkAt C H p Kd Dn Lk kvs dn ∧ kvs.map (·.1) = ks.map Sum.inr ∧ ks.length < 64 ∧
  ∀ ys L, ys.Perm ks → sortedS ys = true → H L = none → Q (.ref L) (upd H L (.lst (ys.map V.str)))
theorem ok_bn {f C : Addr} {fd : FuncData} {k : Nat} (F : Fun K "names" "Book.names" sBook_names f fd) (T : BCls K mg C) (ms : mg "sorted" = none) : FnOk P w K mg base CX0 (k + 1) f fd ["self"] (spBn C) := by
  refine F.ok scBn (fun vs H Q E h => ?_) (fun cdv A outer s H vs Q E hr h => ?_)
  · obtain ⟨p, Kd, Dn, Lk, kvs, dn, ks, rfl, _⟩ := h
    rfl
  · obtain ⟨p, Kd, Dn, Lk, kvs, dn, ks, rfl, hb, hks, h64, q⟩ := h
    refine ⟨_, pss_one (ps_ret (pe_callB (call_sortedD rfl) (by rfl) ms (by decide +kernel) (pa_cons (pe_fld (pv 0) rfl) pa_nil))), ?_⟩
    obtain ⟨dx, ob⟩ := hb.ob
    exact ⟨.ref p, rfl, p, C, dx, _, _, rfl, ob, T.cl, T.nK, bF_kept _ _ _, Kd, kvs, ks, rfl, .inl hb.kept, hks, h64, fun ys L h1 h2 h3 => q ys L h1 h2 h3⟩
/-- what a method that changes the book leaves -/
def KpB (p Kd Dn : Addr) (H H' : Hp) : Prop := ∀ c o, c ≠ Kd → c ≠ Dn → H c = some o → H' c = some o
def spBf (C : Addr) : Sp := fun vs H Q _ => ∃ (p Kd Dn Lk : Addr) (kvs : Kvs) (dn : List Dn1) (t : Str) (r : Addr), vs = [.ref p, .str t] ∧ BkAt C H p Kd Dn Lk kvs dn ∧ dn.length ≤ 100000 ∧ nameS t = true ∧ valV kvs (Sum.inr t) = some (.ref r) ∧
  ∀ H', BkAt C H' p Kd Dn Lk (dropK kvs (Sum.inr t)) (dn ++ [(t, some r)]) → KpB p Kd Dn H H' → Q .non H'
theorem dropK_len (kvs : Kvs) (k : Key) : (dropK kvs k).length ≤ kvs.length := List.length_filter_le _ _
theorem putK_len (kvs : Kvs) (k : Key) (v : V) : (putK kvs k v).length ≤ kvs.length + 1 := by
  unfold putK
  split
  · rw [List.length_map]; omega
  · rw [List.length_append]; simp
set_option maxHeartbeats 1000000 in
theorem ok_bf {f fC C : Addr} {fd fdC : FuncData} {k : Nat} (F : Fun K "forget" "Book.forget" sBook_forget f fd) (T : BCls K mg C)
    (MC : Meth K C "check_kept" fC) (GC : FnOk P w K mg base CX0 (k + 3) fC fdC ["self", "name"] (spBc C)) (bC : Binds K fdC ["self", "name"] []) : FnOk P w K mg base CX0 (k + 4) f fd ["self", "name"] (spBf C) := by
  refine F.ok scBf (fun vs H Q E h => ?_) (fun cdv A outer s H vs Q E hr h => ?_)
  · obtain ⟨p, Kd, Dn, Lk, kvs, dn, t, r, rfl, _⟩ := h
    rfl
  · obtain ⟨p, Kd, Dn, Lk, kvs, dn, t, r, rfl, hb, hl, ht, hk, q⟩ := h
    refine ⟨_, pss_cons (ps_expr (pe_meth (pv 0) T.cl MC GC hr bC .nil pass0 (pa_cons (pv 1) pa_nil)))
      (pss_cons (ps_expr (pe_bm PySem.F.plainAttrs_list PySem.F.slot_list_append PySem.F.type_list_append mt_append (pe_fld (pv 0) rfl) (pa_cons (pe_tup (pa_cons (pv 1) (pa_cons (pe_dget (hu_of hr) (pe_fld (pv 0) rfl) (pv 1) (fun _ _ => rfl)) pa_nil))) pa_nil)))
      (pss_one (ps_ddel (pe_fld (pv 0) rfl) (pv 1)))), ?_⟩
    obtain ⟨dx, ob⟩ := hb.ob
    refine ⟨.ref p, rfl, p, dx, _, rfl, ob, bF_no _ _ _ (by decide +kernel) (by decide +kernel) (by decide +kernel), .str t, rfl, p, Kd, Dn, Lk, kvs, dn, t, rfl, hb, ht, by rw [hk]; rfl, fun H1 s1 => ?_⟩
    have hb1 := hb.same s1
    have ob1 := s1 _ _ ob
    obtain ⟨ts, eD, ets⟩ := hb1.done
    have hlt := awLen ets
    have dg : DGet H1 Kd (.str t) (some (.ref r)) := by
      have := DGet.k (k := Sum.inr t) hb1.kept
      rw [hk] at this
      exact this
    have npK : p ≠ Kd := ne_of ob1 hb1.kept (fun z => nomatch z)
    have npD : p ≠ Dn := ne_of ob1 eD (fun z => nomatch z)
    have nKD : Kd ≠ Dn := ne_of hb1.kept eD (fun z => nomatch z)
    refine ⟨.ref p, rfl, p, C, dx, _, _, rfl, ob1, T.cl, T.nD, bF_done _ _ _, .inl ⟨rfl, _, .inl (.inl eD)⟩, .str t, rfl, .ref p, rfl, p, C, dx, _, _, rfl, ob1, T.cl, T.nK, bF_kept _ _ _, .str t, rfl, Kd, .ref r, rfl, dg, (by show 2 ≤ sizeLine; decide), fun U hU => ?_⟩
    have sU := same_new (o := .tup [.str t, .ref r]) hU
    refine ⟨Dn, _, .ref U, rfl, rfl, sU _ _ eD, by rw [List.length_map, hlt, sizeLine_eq]; omega, ?_⟩
    have k2 : ∀ c o, c ≠ Dn → H1 c = some o → upd (upd H1 U (.tup [.str t, .ref r])) Dn (.lst (ts.map V.ref ++ [.ref U])) c = some o := fun c o n e => by
      rw [upd_ne n]
      exact sU _ _ e
    have eK2 := k2 _ _ nKD hb1.kept
    have eU2 : upd (upd H1 U (.tup [.str t, .ref r])) Dn (.lst (ts.map V.ref ++ [.ref U])) U = some (.tup [.str t, .ref r]) := by
      rw [upd_ne (ne_of_none eD hU).symm]
      exact upd_same
    have eD2 : upd (upd H1 U (.tup [.str t, .ref r])) Dn (.lst (ts.map V.ref ++ [.ref U])) Dn = some (.lst ((ts ++ [U]).map V.ref)) := by
      rw [upd_same, List.map_append]
      rfl
    generalize upd (upd H1 U (.tup [.str t, .ref r])) Dn (.lst (ts.map V.ref ++ [.ref U])) = H2 at k2 eK2 eU2 eD2
    refine ⟨.ref p, rfl, p, C, dx, _, _, rfl, k2 _ _ npD ob1, T.cl, T.nK, bF_kept _ _ _, .str t, rfl, Kd, kvs, Sum.inr t, rfl, eK2, rfl, by rw [hk]; rfl, ?_⟩
    have t2 : TupsStay H1 H2 := fun c xs e => k2 c _ (ne_of e eD (fun z => nomatch z)) e
    refine q _ ⟨⟨dx, by rw [upd_ne npK]; exact k2 _ _ npD ob1⟩, upd_same, ⟨ts ++ [U], by rw [upd_ne nKD.symm]; exact eD2, ?_⟩, kv_drop hb1.ok t, Nat.le_trans (dropK_len _ _) hb1.few⟩ (fun c o n1 n2 e => by rw [upd_ne n1]; exact k2 c o n2 (s1 _ _ e))
    have tK : TupsStay H2 (upd H2 Kd (.dK (dropK kvs (Sum.inr t)))) := fun c xs e => by
      rw [upd_ne (ne_of e eK2 (fun z => nomatch z))]
      exact e
    exact awAppend (awMap (fun _ _ e => tK _ _ (t2 _ _ e)) ets) (.cons (tK _ _ eU2) .nil)
/-! ### a book's tell and back, where nothing is refused -/
def spBt (C : Addr) : Sp := fun vs H Q _ => ∃ (p Kd Dn Lk R : Addr) (kvs : Kvs) (dn : List Dn1) (t : Str) (o : Option Addr) (N : Addr → Prop) (d : PyData) (b kk : Nat), vs = [.ref p, .str t, .ref R] ∧ BkAt C H p Kd Dn Lk kvs dn ∧ dn.length ≤ 100000 ∧ kvs.length ≤ 900000 ∧ nameS t = true ∧
  AnyAt N H (.ref R) d ∧ NcB b kk d ∧ b ≤ 30000 ∧ rowA d = true ∧ valV kvs (Sum.inr t) = o.map V.ref ∧ ∀ H', BkAt C H' p Kd Dn Lk (putK kvs (Sum.inr t) (.ref R)) (dn ++ [(t, o)]) → KpB p Kd Dn H H' → Q .non H'
set_option maxHeartbeats 1000000 in
theorem ok_btl {f fN fR C : Addr} {fd fdN fdR : FuncData} {k : Nat} (F : Fun K "tell" "Book.tell" sBook_tell f fd) (T : BCls K mg C)
    (GN : FnOk P w K mg base CX0 (k + 2) fN fdN ["thing"] spCn) (kN : PySem.W.keepIn K (.ref fN) = true) (bN : Binds K fdN ["thing"] []) (gN : mg "check_name" = some (.ref fN))
    (GR : FnOk P w K mg base CX0 (k + 5) fR fdR ["thing"] spIr) (kR : PySem.W.keepIn K (.ref fR) = true) (bR : Binds K fdR ["thing"] []) (gR : mg "is_row" = some (.ref fR)) : FnOk P w K mg base CX0 (k + 6) f fd ["self", "name", "row"] (spBt C) := by
  refine F.ok scBt (fun vs H Q E h => ?_) (fun cdv A outer s H vs Q E hr h => ?_)
  · obtain ⟨p, Kd, Dn, Lk, R, kvs, dn, t, o, N, d, b, kk, rfl, _⟩ := h
    rfl
  · obtain ⟨p, Kd, Dn, Lk, R, kvs, dn, t, o, N, d, b, kk, rfl, hb, hl, hl2, ht, hx, nc, hb3, hrw, hk, q⟩ := h
    have R2 := hr.mono (show k + 2 ≤ k + 5 by omega)
    refine ⟨_, pss_cons (ps_expr (pe_call GN R2 (by rfl) gN kN bN .nil pass0 (pa_cons (pv 1) pa_nil)))
      (pss_cons (ps_if (pt_not (pt_val (pe_call GR hr (by rfl) gR kR bR .nil pass0 (pa_cons (pv 2) pa_nil)))) pss_neverB pss_nil)
      (pss_cons (ps_expr (pe_bm PySem.F.plainAttrs_list PySem.F.slot_list_append PySem.F.type_list_append mt_append (pe_fld (pv 0) rfl) (pa_cons (pe_tup (pa_cons (pv 1) (pa_cons (pe_dget1 (hu_of hr) (pe_fld (pv 0) rfl) (pv 1) ⟨rfl, rfl, rfl, rfl⟩) pa_nil))) pa_nil)))
      (pss_one (ps_dput (hu_of hr) (pe_fld (pv 0) rfl) (pv 1) (pv 2) rfl)))), ?_⟩
    refine ⟨.str t, rfl, t, rfl, ht, fun H0 s0 => ?_⟩
    refine ⟨.ref R, rfl, N, .ref R, d, b, kk, rfl, any_same s0 hx, nc, hb3, fun H1 s01 => ⟨_, rfl, ?_⟩⟩
    rw [hrw]
    refine iteF ?_
    have s1 := s0.trans s01
    have hb1 := hb.same s1
    obtain ⟨dx, ob1⟩ := hb1.ob
    obtain ⟨ts, eD, ets⟩ := hb1.done
    have hlt := awLen ets
    have dg : DGet H1 Kd (.str t) (o.map V.ref) := by
      have := DGet.k (k := Sum.inr t) hb1.kept
      rw [hk] at this
      exact this
    have npK : p ≠ Kd := ne_of ob1 hb1.kept (fun z => nomatch z)
    have npD : p ≠ Dn := ne_of ob1 eD (fun z => nomatch z)
    have nKD : Kd ≠ Dn := ne_of hb1.kept eD (fun z => nomatch z)
    refine ⟨.ref p, rfl, p, C, dx, _, _, rfl, ob1, T.cl, T.nD, bF_done _ _ _, .inl ⟨rfl, _, .inl (.inl eD)⟩, .str t, rfl, .ref p, rfl, p, C, dx, _, _, rfl, ob1, T.cl, T.nK, bF_kept _ _ _, Kd, rfl, .inl ⟨kvs, .inl hb1.kept⟩, .str t, rfl, _, dg, ?_⟩
    have eo : (o.map V.ref).getD .non = oR o := by cases o <;> rfl
    rw [eo]
    refine ⟨(by show 2 ≤ sizeLine; decide), fun U hU => ?_⟩
    have sU := same_new (o := .tup [.str t, oR o]) hU
    refine ⟨Dn, _, .ref U, rfl, rfl, sU _ _ eD, by rw [List.length_map, hlt, sizeLine_eq]; omega, ?_⟩
    have k2 : ∀ c o', c ≠ Dn → H1 c = some o' → upd (upd H1 U (.tup [.str t, oR o])) Dn (.lst (ts.map V.ref ++ [.ref U])) c = some o' := fun c o' n e => by
      rw [upd_ne n]
      exact sU _ _ e
    have eK2 := k2 _ _ nKD hb1.kept
    have eU2 : upd (upd H1 U (.tup [.str t, oR o])) Dn (.lst (ts.map V.ref ++ [.ref U])) U = some (.tup [.str t, oR o]) := by
      rw [upd_ne (ne_of_none eD hU).symm]
      exact upd_same
    have eD2 : upd (upd H1 U (.tup [.str t, oR o])) Dn (.lst (ts.map V.ref ++ [.ref U])) Dn = some (.lst ((ts ++ [U]).map V.ref)) := by
      rw [upd_same, List.map_append]
      rfl
    generalize upd (upd H1 U (.tup [.str t, oR o])) Dn (.lst (ts.map V.ref ++ [.ref U])) = H2 at k2 eK2 eU2 eD2
    have hl3 : kvs.length < sizeLine := by rw [sizeLine_eq]; omega
    refine ⟨.ref R, rfl, .ref p, rfl, p, C, dx, _, _, rfl, k2 _ _ npD ob1, T.cl, T.nK, bF_kept _ _ _, .str t, rfl, Kd, _, rfl, DPut.k (k := Sum.inr t) eK2 hl3, ?_⟩
    have t2 : TupsStay H1 H2 := fun c xs e => k2 c _ (ne_of e eD (fun z => nomatch z)) e
    have tK : TupsStay H2 (upd H2 Kd (.dK (putK kvs (Sum.inr t) (.ref R)))) := fun c xs e => by
      rw [upd_ne (ne_of e eK2 (fun z => nomatch z))]
      exact e
    refine q _ ⟨⟨dx, by rw [upd_ne npK]; exact k2 _ _ npD ob1⟩, upd_same, ⟨ts ++ [U], by rw [upd_ne nKD.symm]; exact eD2, ?_⟩, kv_put hb1.ok t R, Nat.le_trans (putK_len _ _ _) (by omega)⟩ (fun c o n1 n2 e => by rw [upd_ne n1]; exact k2 c o n2 (s1 _ _ e))
    exact awAppend (awMap (fun _ _ e => tK _ _ (t2 _ _ e)) ets) (.cons (tK _ _ eU2) .nil)
theorem prTake {α β : Type} {F : α → β → Prop} : ∀ {l : List α} {k : List β} (n : Nat), Paired F l k → Paired F (l.take n) (k.take n)
  | _, _, 0, _ => .nil
  | _, _, _ + 1, .nil => .nil
  | _, _, n + 1, .cons h t => .cons h (prTake n t)
def undo (kvs : Kvs) (e : Dn1) : Kvs := match e.2 with
  | none => dropK kvs (Sum.inr e.1)
  | some r => putK kvs (Sum.inr e.1) (.ref r)
def spBb (C : Addr) : Sp := fun vs H Q _ => ∃ (p Kd Dn Lk : Addr) (kvs : Kvs) (dn : List Dn1) (e : Dn1), vs = [.ref p] ∧ BkAt C H p Kd Dn Lk kvs (dn ++ [e]) ∧ kvs.length ≤ 900000 ∧ (e.2 = none → (valV kvs (Sum.inr e.1)).isSome = true) ∧
  ∀ H', BkAt C H' p Kd Dn Lk (undo kvs e) dn → KpB p Kd Dn H H' → Q .non H'
set_option maxHeartbeats 1000000 in
theorem ok_bb {f C : Addr} {fd : FuncData} {k : Nat} (F : Fun K "back" "Book.back" sBook_back f fd) (T : BCls K mg C) : FnOk P w K mg base CX0 (k + 1) f fd ["self"] (spBb C) := by
  refine F.ok scBb (fun vs H Q E h => ?_) (fun cdv A outer s H vs Q E hr h => ?_)
  · obtain ⟨p, Kd, Dn, Lk, kvs, dn, e, rfl, _⟩ := h
    rfl
  · obtain ⟨p, Kd, Dn, Lk, kvs, dn, e, rfl, hb, hl2, hk, q⟩ := h
    refine ⟨_, pss_cons (ps_if (pt_not (pt_truth (pe_fld (pv 0) rfl) (fun _ => rfl))) pss_neverB pss_nil)
      (pss_cons (ps_asg (pe_bm0 PySem.F.plainAttrs_list PySem.F.slot_list_pop PySem.F.type_list_pop mt_pop (pe_fld (pv 0) rfl)) (pg_tup rfl (pgs_cons (pg_name (i := 1) scBb.nd rfl (.inl rfl)) (pgs_cons (pg_name (i := 2) scBb.nd rfl (.inl rfl)) pgs_nil))))
      (pss_one (ps_if (pt_cmpR op_isN (pv 2) pe_non (nomark _)) (pss_one (ps_ddel (pe_fld (pv 0) rfl) (pv 1))) (pss_one (ps_dput (hu_of hr) (pe_fld (pv 0) rfl) (pv 1) (pv 2) rfl))))), ?_⟩
    obtain ⟨dx, ob⟩ := hb.ob
    obtain ⟨ts, eD, ets⟩ := hb.done
    obtain ⟨ts0, U, rfl, ets0, eU⟩ : ∃ ts0 U, ts = ts0 ++ [U] ∧ DnAt H ts0 dn ∧ H U = some (.tup [.str e.1, oR e.2]) := by
      have hlt := awLen ets
      rw [List.length_append] at hlt
      have hne : ts ≠ [] := by
        intro z
        rw [z] at hlt
        simp at hlt
      refine ⟨ts.dropLast, ts.getLast hne, (List.dropLast_concat_getLast hne).symm, ?_, ?_⟩
      · have h1 := prTake dn.length ets
        rw [List.take_left] at h1
        have h2 : ts.take dn.length = ts.dropLast := by
          rw [List.dropLast_eq_take]
          congr 1
          simp at hlt
          omega
        rw [h2] at h1
        exact h1
      · have hl : dn.length < ts.length := by simp at hlt; omega
        obtain ⟨e2, h1, h2⟩ := awGet ets (List.getElem?_eq_getElem hl)
        rw [List.getElem?_append_right (Nat.le_refl _), Nat.sub_self] at h1
        obtain rfl : e = e2 := by simpa using h1
        have : ts.getLast hne = ts[dn.length] := by
          rw [List.getLast_eq_getElem]
          congr 1
          simp at hlt
          omega
        rw [this]
        exact h2
    have npK : p ≠ Kd := ne_of ob hb.kept (fun z => nomatch z)
    have npD : p ≠ Dn := ne_of ob eD (fun z => nomatch z)
    have nKD : Kd ≠ Dn := ne_of hb.kept eD (fun z => nomatch z)
    refine ⟨.ref p, rfl, p, C, dx, _, _, rfl, ob, T.cl, T.nD, bF_done _ _ _, true, .inl ⟨_, .inl (.inl eD), by rw [List.map_append]; simp⟩, iteF ?_⟩
    refine ⟨.ref p, rfl, p, C, dx, _, _, rfl, ob, T.cl, T.nD, bF_done _ _ _, .inl ⟨rfl, _, .inl (.inl eD)⟩, Dn, _, .ref U, rfl, rfl, eD, by rw [List.map_append, List.length_append]; simp, ?_⟩
    have ed : ((ts0 ++ [U]).map V.ref).dropLast = ts0.map V.ref := by rw [List.map_append]; simp
    rw [ed]
    have k2 : ∀ c o', c ≠ Dn → H c = some o' → upd H Dn (.lst (ts0.map V.ref)) c = some o' := fun c o' n e => by
      rw [upd_ne n]
      exact e
    have eD2 : upd H Dn (.lst (ts0.map V.ref)) Dn = some (.lst (ts0.map V.ref)) := upd_same
    have eU2 := k2 U _ (ne_of eU eD (fun z => nomatch z)) eU
    have eK2 := k2 _ _ nKD hb.kept
    have ob2 := k2 _ _ npD ob
    have t2 : TupsStay H (upd H Dn (.lst (ts0.map V.ref))) := fun c xs e => k2 c _ (ne_of e eD (fun z => nomatch z)) e
    generalize upd H Dn (.lst (ts0.map V.ref)) = H2 at k2 eD2 eU2 eK2 ob2 t2
    refine ⟨U, _, rfl, SqT.of eU2, rfl, _, _, rfl, _, _, rfl, rfl, ?_⟩
    have fin : ∀ kv', KvOk kv' → kv'.length ≤ 1000000 → BkAt C (upd H2 Kd (.dK kv')) p Kd Dn Lk kv' dn ∧ KpB p Kd Dn H (upd H2 Kd (.dK kv')) := fun kv' h1 h2 => by
      have tK : TupsStay H2 (upd H2 Kd (.dK kv')) := fun c xs e => by
        rw [upd_ne (ne_of e eK2 (fun z => nomatch z))]
        exact e
      exact ⟨⟨⟨dx, by rw [upd_ne npK]; exact ob2⟩, upd_same, ⟨ts0, by rw [upd_ne nKD.symm]; exact eD2, awMap (fun _ _ e => tK _ _ (t2 _ _ e)) ets0⟩, h1, h2⟩, fun c o n1 n2 e => by rw [upd_ne n1]; exact k2 c o n2 e⟩
    obtain ⟨t, o⟩ := e
    cases o with
    | none =>
      refine ⟨.non, rfl, rfl, _, rfl, iteT ?_⟩
      obtain ⟨h1, h2⟩ := fin (dropK kvs (Sum.inr t)) (kv_drop hb.ok t) (Nat.le_trans (dropK_len _ _) hb.few)
      exact ⟨.ref p, rfl, p, C, dx, _, _, rfl, ob2, T.cl, T.nK, bF_kept _ _ _, .str t, rfl, Kd, kvs, Sum.inr t, rfl, eK2, rfl, hk rfl, q _ h1 h2⟩
    | some r =>
      refine ⟨.ref r, rfl, rfl, _, rfl, iteF ?_⟩
      obtain ⟨h1, h2⟩ := fin (putK kvs (Sum.inr t) (.ref r)) (kv_put hb.ok t r) (Nat.le_trans (putK_len _ _ _) (by omega))
      have hl3 : kvs.length < sizeLine := by rw [sizeLine_eq]; omega
      exact ⟨.ref r, rfl, .ref p, rfl, p, C, dx, _, _, rfl, ob2, T.cl, T.nK, bF_kept _ _ _, .str t, rfl, Kd, _, rfl, DPut.k (k := Sum.inr t) eK2 hl3, q _ h1 h2⟩
/-! ### refusals raised -/
theorem app_len (x y : Str) : (x ++ y).length = x.length + y.length := by
  rw [TL.len_tl, TL.tl_append, List.length_append, ← TL.len_tl, ← TL.len_tl]
theorem js_len {acc y : Str} {a b : Nat} (h1 : acc.length ≤ a) (h2 : y.length ≤ b) (h : a + b ≤ 1000) : (acc ++ y).length ≤ sizeLine ∧ (acc ++ y).length ≤ a + b := by
  rw [app_len, sizeLine_eq]
  omega
theorem iX_len {i : Int} (h : i.natAbs < 10 ^ 3) : (Str.ofString (toString i)).length ≤ 4 := by
  rw [PySem.ofString_length]
  exact int_text_length_le10 (k := 3) (by decide) h
theorem log_small {i : Int} (h : i.natAbs < 1000) : i.natAbs.log2 < 1920 := by
  by_cases e : i.natAbs = 0
  · rw [e]; decide
  · have := (Nat.log2_lt (k := 10) e).mpr (Nat.lt_trans h (by decide))
    omega
theorem neT {x y : Int} (h : (!decide (V.int x = V.int y)) = true) : ¬ x = y := fun e => by
  rw [decide_eq_true (congrArg V.int e)] at h
  cases h
theorem neF {x y : Int} (h : ¬ (!decide (V.int x = V.int y)) = true) : x = y := by
  by_cases e : x = y
  · exact e
  · exfalso
    apply h
    rw [decide_eq_false (fun z => e (V.int.inj z))]
    rfl
/-- a class of the program whose instances are raised -/
structure Rai (K : PySem.W.Frag) (mg : Str → Option Value) (x : Str) (C : Addr) : Prop where
  q : PySem.W.excIn K C [.type "ValueError", .type "Exception", .type "BaseException", .type "object"] "ValueError.__new__" = true
  g : mg x = some (.ref C)
  k : PySem.W.keepIn K (.ref C) = true
  s : PySem.W.subIn K (.ref C) (.type "BaseException") = some true
  t : PySem.W.typeIn K (.ref C) = some (.type "type")
/-! ### a method whose exceptions are told at the slots; back of a book with nothing to undo -/
section mths
variable {X : Cx} {CX : CXT} {k : Nat} {f C : Addr} {fd : FuncData} {ps : List Str} {sp : Sp} {E : L2.St → XK} {m : Str} {pos apos : Pos} {e o : Expr} {es : List Expr} {ta : TE} {t : TA}
def tMethS (m : Str) (C : Addr) (sp : Sp) (E : L2.St → XK) (ta : TE) (t : TA) : TE := fun σ H Q => ta σ H fun x H1 => ∃ a dx fs, x = .ref a ∧ H1 a = some (.ins C dx fs) ∧ fs.lookup m = none ∧ t σ H1 fun vs H2 => sp (x :: vs) H2 Q (E σ)
theorem pe_methS {pl : Sem Bool} (he : PE X o ta) (c : Cls X.K C) (hm : Meth X.K C m f) (F : FnOk X.prog X.w X.K X.mg X.base CX k f fd ps sp) (hr : Room k X.A) (hb : Binds X.K fd ps []) (hx : ∀ σ, PassesAt CX X σ (E σ)) (ha : PA X (e :: es) t)
    (hst : starEach (e :: es) X.env = (false, eval e X.env) :: starEach es X.env := by rfl) (hpl : (backTo pos (starEach es X.env)).any (·.1) = false := by rfl)
    (ht : eval (.Call (.Attribute o m apos) (e :: es) [] pos) X.env = (do
      let ov ← eval o X.env
      standAt apos.atName
      let (f, first) ← holding [ov] (getMethod ov m pl)
      callWith pos f first (backTo pos (starEach (e :: es) X.env)) (backToKw pos (keywordEach [] X.env))) := by rfl) :
    PE X (.Call (.Attribute o m apos) (e :: es) [] pos) (tMethS m C sp E ta t) := by
  refine ⟨fun pins s σ H Q I h => ?_⟩
  refine PySem.W.methodCall_KW (pl := pl) (thn (he.run pins s σ H _ I h) fun u s1 ⟨x, H1, I1, rx, a, dx, fs, ex, ea, l, q⟩ => ?_) ht
  subst ex
  obtain rfl : u = Value.ref a := rx
  refine getmeth_ok I1 ea c hm l ?_
  refine PySem.W.callWith_K (first := [.ref a]) (h₀ := X.base) I.ok.mod.kin hm.kp (thn (ha.run pos pins s1 σ H1 _ I1 q) fun us s2 ⟨vs, H2, I2, r, q2⟩ => ⟨I2.kIn, ?_⟩) hst hpl
  exact run_fnS (us := .ref a :: us) (vs := .ref a :: vs) F hr hb (hx σ) I2 (.cons rfl r) q2
theorem pe_meth0S {pl : Sem Bool} (he : PE X o ta) (c : Cls X.K C) (hm : Meth X.K C m f) (F : FnOk X.prog X.w X.K X.mg X.base CX k f fd ps sp) (hr : Room k X.A) (hb : Binds X.K fd ps []) (hx : ∀ σ, PassesAt CX X σ (E σ))
    (ht : eval (.Call (.Attribute o m apos) [] [] pos) X.env = (do
      let ov ← eval o X.env
      standAt apos.atName
      let (f, first) ← holding [ov] (getMethod ov m pl)
      callWith pos f first (backTo pos (starEach [] X.env)) (backToKw pos (keywordEach [] X.env))) := by rfl) :
    PE X (.Call (.Attribute o m apos) [] [] pos) (tMethS m C sp E ta tNil) := by
  refine ⟨fun pins s σ H Q I h => ?_⟩
  refine PySem.W.methodCall_KW (pl := pl) (thn (he.run pins s σ H _ I h) fun u s1 ⟨x, H1, I1, rx, a, dx, fs, ex, ea, l, q⟩ => ?_) ht
  subst ex
  obtain rfl : u = Value.ref a := rx
  refine getmeth_ok I1 ea c hm l ?_
  exact PySem.W.callWith_K0 (first := [.ref a]) I1.kIn hm.kp (run_fnS (us := [.ref a]) (vs := [.ref a]) F hr hb (hx σ) I1 (.cons rfl .nil) q)
end mths
def spBbN (C cN : Addr) : Sp := fun vs H Q E => ∃ (p Kd Dn Lk : Addr) (kvs : Kvs), vs = [.ref p] ∧ BkAt C H p Kd Dn Lk kvs [] ∧ E (.ref cN) none H
theorem ok_bbN {f C cN : Addr} {fd : FuncData} {k : Nat} (F : Fun K "back" "Book.back" sBook_back f fd) (T : BCls K mg C) (rN : Rai K mg "Nothing" cN) : FnOk P w K mg base (L2.CX P w) (k + 1) f fd ["self"] (spBbN C cN) := by
  refine F.okX scBb (fun vs H Q E h => ?_) (fun cdv A outer s H vs Q E hr h => ?_)
  · obtain ⟨p, Kd, Dn, Lk, kvs, rfl, _⟩ := h
    rfl
  · obtain ⟨p, Kd, Dn, Lk, kvs, rfl, hb, q⟩ := h
    refine ⟨_, pss_cons (ps_if (pt_not (pt_truth (pe_fld (pv 0) rfl) (fun _ => rfl)))
      (pss_one (ps_raise rfl (takes_of rfl rfl rfl rfl) (SkE.pmk_own1 PySem.F.excBase_ValueError rN.q rN.g rN.k (raises_own rN.s rN.t) (by rfl) pe_str))) pss_nil) pss_neverB, ?_⟩
    obtain ⟨dx, ob⟩ := hb.ob
    obtain ⟨ts, eD, ets⟩ := hb.done
    cases ets
    exact ⟨.ref p, rfl, p, C, dx, _, _, rfl, ob, T.cl, T.nD, bF_done _ _ _, false, .inl ⟨_, .inl (.inl eD), rfl⟩, iteT q⟩
/-! ### an exception that was caught, held beyond the clause -/
section excs
/-- an exception object of the class cls at a, raised or not -/
def ExR (cls : Value) (a : Addr) : HO := .ext fun h => ∃ (oe : Obj) (vs : Array Value), h.get? a = some oe ∧ Zc cls none oe ∧ oe.data = .fields vs
theorem exR_ok {P : Program} {w : World} {H : Hp} {h : Heap} {a : Addr} {cls : Value} {oe : Obj} {vs : Array Value} (e : h.get? a = some oe) (z : Zc cls none oe) (d : oe.data = .fields vs) : ObjOk P w H h a (ExR cls a) :=
  ⟨⟨oe, vs, e, z, d⟩, ⟨oe, e⟩, fun _ _ ⟨o, v, q, r⟩ k => ⟨o, v, k o q, r⟩⟩
theorem inv_track {X : Cx} {pins : List (Addr × Obj)} {σ : L2.St} {H : Hp} {s : Shared} {a : Addr} {cls : Value} {oe : Obj} {vs : Array Value} (I : Inv X pins σ H s) (na : H a = none) (ha : s.heap.get? a = some oe) (hz : Zc cls none oe) (hd : oe.data = .fields vs)
    (nL : a ≠ X.env.locals) (n0 : ∀ o, X.s_0.heap.get? a = some o → a ∈ X.ex) (np : ∀ p ∈ X.pn ++ pins, p.1 ≠ a) : Inv X pins σ (upd H a (ExR cls a)) s := by
  refine ⟨I.ok, I.os, I.bare, ⟨I.base.keep, I.base.slot, fun b o e n hx => ?_, I.base.there, fun b xs e => ?_, fun b o u e => ?_, fun b ps e => ?_⟩, I.loc, I.cell, ?_, fun x c e => ?_, fun p hp => ?_, fun b u e => ?_, I.len⟩
  · have nb : b ≠ a := fun z => by
      subst z
      exact hx (n0 o e)
    rw [upd_ne nb]
    exact I.base.free b o e n hx
  · have z := I.base.tups b xs e
    rw [upd_ne (ne_of_none z na)]
    exact z
  · have z := I.base.frzs b o u e
    rw [upd_ne (ne_of_none z na)]
    exact z
  · obtain ⟨more, z⟩ := I.base.tbls b ps e
    exact ⟨more, by rw [upd_ne (ne_of_none z na)]; exact z⟩
  · rw [upd_ne nL.symm]
    exact I.free
  · have nc : c ≠ a := fun z => by
      subst z
      obtain ⟨v, o, h1, h2⟩ := I.cell x c e
      rw [ha] at h1
      cases h1
      rw [hd] at h2
      cases h2
    rw [upd_ne nc]
    exact I.freeC x c e
  · obtain ⟨h1, h2, h3⟩ := I.pin p hp
    exact ⟨h1, by rw [upd_ne (np p hp)]; exact h2, h3⟩
  · by_cases hb : b = a
    · subst hb
      rw [upd_same] at e
      cases e
      exact exR_ok ha hz hd
    · rw [upd_ne hb] at e
      exact (I.hok b u e).stay (fun c v _ q => q) (fun c q => by rw [upd_ne (ne_of_none q na)]; exact q) fun c xs q => by rw [upd_ne (ne_of_none q na)]; exact q
def wAsT (K : PySem.W.Frag) (c : Value) (i : Nat) (ts : Addr → Value → Option Addr → TS) (Wout : WX) (D : Ends) : WX := fun cls d σ H =>
  ∃ b, PySem.W.exmOne K cls c = some b ∧ (b = true → d = none ∧ ∀ a, H a = none → ts a cls d { nx := fun σ' H' => D.nx (σ'.set i none) (upd H' a (ExR cls a)), rt := D.rt, bk := fun σ' H' => D.bk (σ'.set i none) H', ct := fun σ' H' => D.ct (σ'.set i none) H' } (σ.set i (some (.ref a))) H) ∧
    (b = false → Wout cls d σ H)
theorem ps_try_asT {X : Cx} {x n : Str} {c : Value} {i : Nat} {body suite : List Stmt} {b₀ : Stmt} {np pos pos' : Pos} {tb : WX → TS} {ts : Addr → Value → Option Addr → TS} {Wout : WX} (hs : X.stack = X.env :: X.outer) (hf : X.env.frame = some X.env.locals) (hN : X.N.Nodup) (hi : X.N[i]? = some n) (hln : X.env.kindOf n = some .local) (hc : Names X x c) (tk : Takes X Wout)
    (hb : ∀ (W : WX) (pn : List (Addr × Obj)) (xe : Value → Shared → Prop), Takes (X.tr pn xe) W → PassesOwn (model X.prog X.w) X.A X.env xe → PSs (X.tr pn xe) body (tb W))
    (hsu : ∀ (a : Addr) (oe : Obj) (cls : Value) (d : Option Addr) (pn : List (Addr × Obj)), Zc cls d oe → (∃ vs, oe.data = .fields vs) → PSs (X.suite a ((a, oe) :: pn)) (b₀ :: suite) (ts a cls d)) :
    PS X (.Try body [.ExceptHandler (some (.Name x np)) (some n) (b₀ :: suite) pos'] [] [] pos) (fun D σ H => tb (wAsT X.K c i ts Wout D) D σ H) := by
  refine ⟨fun pins s σ H D I h => ?_⟩
  have ok := I.ok
  have hfr : X.A.frames = some (X.env :: X.outer) := by rw [ok.frames, hs]
  have hloc : Loc X.env.scope n := .inl hln
  refine wpAny_Try_except ?_
  refine wpAny_mono ((hb (wAsT X.K c i ts Wout D) (X.pn ++ pins) (fun e s₁ => wpAny (model X.prog X.w) X.A (noteFrame e X.env) (fun _ s₂ => wpAny (model X.prog X.w) X.A (setFlight e none) (fun _ s₃ =>
    wpAny (model X.prog X.w) X.A (handleBy e X.env [.ExceptHandler (some (.Name x np)) (some n) (b₀ :: suite) pos']) (SP X pins D) X.xe s₃) X.xe s₂) X.xe s₁) (fun u s' xx => ?_) PassesOwn.looking).run [] s σ H D (I.toTry _) h) (fun f s1 hsp => ?_) (fun e s1 he => he)
  · obtain ⟨a, B, sI, pins', σ', H', cls, d, rfl, J', nb, up, sky, na, os, ag, b, hb1, hyes, hno⟩ := xx
    have J : Inv X pins σ' H' sI := J'.ofTry ok
    have sky' : Sky B (X.env :: X.outer) a (Zc cls d) X.env.locals s'.heap := by rw [← hs]; exact sky
    show wpAny (model X.prog X.w) X.A (noteFrame (.ref a) X.env) _ _ _
    refine Sky.land Zc.steady hfr hf sky' fun h3 fl3 up3 => ?_
    have J3 : Inv X pins σ' H' { s' with heap := h3 } := J.landed nb fl3.1 (up.trans up3) os ag
    obtain ⟨oe3, vs3, he3, hz3, hd3⟩ := fl3.there
    have notFr : ∀ {h : Heap} {o : Obj} {vs : Array Value}, h.FunFrames B (X.env :: X.outer) → h.get? a = some o → o.data = .fields vs → a ∉ frs (X.env :: X.outer) := fun {h o vs} ff e dd hm => by
      obtain ⟨_, o', e', hnf⟩ := ff.mem hm
      rw [e] at e'; cases e'
      exact hnf _ dd
    have nfr := notFr fl3.2.2.1 he3 hd3
    have nL : a ≠ X.env.locals := fun z => nfr (List.mem_filterMap.mpr ⟨X.env, List.mem_cons_self, by rw [hf, z]⟩)
    have nF : a ∉ X.fs := fun hm => by
      obtain ⟨e, he, q⟩ := List.mem_filterMap.mp hm
      exact nfr (List.mem_filterMap.mpr ⟨e, List.mem_cons_of_mem _ he, q⟩)
    have nI : ∀ o, sI.heap.get? a = some o → False := fun o e => by
      have z := nb a o e (by rw [hs]; exact nfr)
      have z2 : B.get? a = none := fl3.2.1
      rw [z2] at z
      cases z
    have n0 : ∀ o, X.s_0.heap.get? a = some o → a ∈ X.ex := fun o e => by
      by_cases hx : a ∈ X.ex
      · exact hx
      · obtain ⟨o', e'⟩ := J.base.there a o e hx
        exact (nI o' e').elim
    have np' : ∀ p ∈ X.pn ++ pins, p.1 ≠ a := fun p hp z => by
      have := (J.pin p hp).1
      rw [z] at this
      exact nI _ this
    have S3 := J3.suite he3 hd3 na nL nF
    refine wpAny_handleBy_cons (codeAny_handlers_test ?_) (by intro q; cases q)
    have LT : PySem.W.Looks (model X.prog X.w) h3 (typeOf (.ref a)) cls := fun A Q E s k q => wpAny_typeOf_ref (k _ _ he3) (by rw [hz3.1]; exact q)
    have LM := PySem.W.exm_one (M := model X.prog X.w) (J3.kIn) LT hb1
    have test : ∀ {Q : Value → Shared → Prop} {E : Value → Shared → Prop}, Q c { s' with heap := h3 } → wpAny (model X.prog X.w) (X.A.mark (some (.ref a))) (eval (.Name x np) X.env) Q E { s' with heap := h3 } := fun {Q E} q => by
      obtain ⟨hg, hdbg, hm | ⟨hm, hv, hnn⟩⟩ := hc
      · exact ld_glob (X := X.suite a ((a, oe3) :: (X.pn ++ pins))) S3 hg hm q hdbg
      · exact ld_blt (X := X.suite a ((a, oe3) :: (X.pn ++ pins))) S3 hg hm hv q hnn hdbg
    refine test (LM.here ?_)
    cases b with
    | true =>
      obtain ⟨dn, hyes⟩ := hyes rfl
      refine codeAny_handlers_suite_as ?_
      refine HandSPX.lands_againZ fl3 fun h4 fl4 up4 => ?_
      have J4 : Inv X pins σ' H' { s' with heap := h4 } := J.landed nb fl4.1 ((up.trans up3).trans up4) os ag
      obtain ⟨oe4, vs4, he4, hz4, hd4⟩ := fl4.there
      have S4 := J4.suite he4 hd4 na nL nF
      refine store_ok (X := X.suite a ((a, oe4) :: (X.pn ++ pins))) (v := .ref a) S4 hN hi hloc rfl (fun s5 S5 => ?_) (.inr hln)
      refine wpAny_mono ((hsu a oe4 cls d (X.pn ++ pins) hz4 ⟨_, hd4⟩).run [] s5 _ H' _ S5 (hyes a na)) (fun f s6 hsp => ?_) (fun _ _ z => False.elim z)
      have end_ : ∀ {σ6 : L2.St} {H6 : Hp} {Q : Shared → Prop}, Inv (X.suite a ((a, oe4) :: (X.pn ++ pins))) [] σ6 H6 s6 → (∀ s7, Inv X pins (σ6.set i none) H6 s7 → Q s7) →
          wpAny (model X.prog X.w) X.A (do bindName X.env n .none; unbindBehindTheSuite X.env n pos') (fun _ s7 => Q s7) X.xe s6 := fun {σ6 H6 Q} S6 hq => gone_ok (S6.unsuite ok) hN hi hln hq
      cases f with
      | next =>
        obtain ⟨σ6, H6, S6, q6⟩ := hsp
        obtain ⟨p1, p2, _⟩ := S6.pin (a, oe4) (List.mem_append_left _ List.mem_cons_self)
        have T6 : Inv X pins σ6 (upd H6 a (ExR cls a)) s6 := inv_track (S6.unsuite ok) p2 p1 (by rw [dn] at hz4; exact hz4) hd4 nL n0 np'
        exact gone_ok T6 hN hi hln fun s7 J7 => ⟨_, _, J7, q6⟩
      | brk =>
        obtain ⟨σ6, H6, S6, q6⟩ := hsp
        exact end_ S6 fun s7 J7 => ⟨_, _, J7, q6⟩
      | cont =>
        obtain ⟨σ6, H6, S6, q6⟩ := hsp
        exact end_ S6 fun s7 J7 => ⟨_, _, J7, q6⟩
      | ret u =>
        obtain ⟨v6, σ6, H6, S6, r6, q6⟩ := hsp
        exact end_ S6 fun s7 J7 => ⟨_, _, _, J7, r6, q6⟩
    | false =>
      show wpAny _ X.A (handleBy (.ref a) X.env []) _ _ _
      refine wpAny_handleBy_nil ?_
      obtain ⟨k1, k2, k3, oe, vs, T, oT, ts', he, hz, hd, h1, hr⟩ := id fl3
      unfold PySem.passOn
      refine wpAny_bind (wpAny_field he hd h1 ?_)
      rw [if_neg (show ¬ ((Value.ref T == Value.none) = true) from by simp)]
      have fin : wpAny (model X.prog X.w) X.A (setFlight (.ref a) X.env.frame) (fun _ s4 => wpAny (model X.prog X.w) X.A (throw (.ref a) : Sem Flow) (SP X pins D) X.xe s4) X.xe { s' with heap := h3 } := by
        rw [hf]
        refine HandSPX.setFlight_upZ fl3 fun h4 hh4 up4 => wpAny_throw (tk _ _ ?_)
        exact ⟨a, B, sI, pins, σ', H', cls, d, rfl, J, nb, (up.trans up3).trans up4, .inr (.inr (by rw [hs]; exact hh4)), na, os, ag, hno rfl⟩
      first
        | exact wpAny_bind (wpAny_pure (wpAny_bind fin))
        | exact wpAny_bind fin
  · cases f with
    | next =>
      obtain ⟨σ', H', J', q⟩ := hsp
      exact wpAny_execs_nil ⟨σ', H', J'.ofTry ok, q⟩
    | brk =>
      obtain ⟨σ', H', J', q⟩ := hsp
      exact ⟨σ', H', J'.ofTry ok, q⟩
    | cont =>
      obtain ⟨σ', H', J', q⟩ := hsp
      exact ⟨σ', H', J'.ofTry ok, q⟩
    | ret u =>
      obtain ⟨v, σ', H', J', r, q⟩ := hsp
      exact ⟨v, σ', H', J'.ofTry ok, r, q⟩
/-- isinstance of a caught exception -/
def rIsR (K : PySem.W.Frag) : List V → Hp → VK → Prop := fun xs H Q => ∃ (a D : Addr) (c : V) (cv : Value) (b : Bool), xs = [.ref a, c] ∧ H a = some (ExR (.ref D) a) ∧ ExcC K D ∧ ClsV c cv ∧ PySem.W.kitOne K (.ref D) cv = some b ∧ Q (.bl b) H
theorem inst_at {X : Cx} {pins : List (Addr × Obj)} {σ : L2.St} {H : Hp} {s : Shared} {a D : Addr} (I : Inv X pins σ H s) (ha : H a = some (ExR (.ref D) a)) : ∃ oe, PySem.W.InstAt s.heap a oe D none := by
  obtain ⟨⟨oe, vs, hget, ⟨z1, z2⟩, hv⟩, _, _⟩ := I.hok a _ ha
  refine ⟨oe, ?_⟩
  obtain ⟨oc, od, oda, osl⟩ := oe
  dsimp only at z1 z2 hv
  subst z1 z2 hv
  exact ⟨hget, rfl, rfl, trivial⟩
theorem call_isR {X : Cx} : CallR X (.builtin "isinstance") (rIsR X.K) := by
  intro pins s σ H xs us Q I r h
  obtain ⟨a, D, c, cv, b, rfl, ha, hD, hc, hk, q⟩ := h
  obtain ⟨oe, J⟩ := inst_at I ha
  obtain ⟨u1, u2, rfl, r1, r2⟩ := vals2 r
  cases (show u1 = Value.ref a from r1)
  obtain rfl := ClsV.eq hc r2
  exact PySem.W.kia_one (PySem.W.handS_kitx_exc hD.hg hD.hk hD.hs hD.hd hD.ha hD.hn hD.ht hD.hm) I.kIn J hk (fun z => nomatch z) fun tk => ⟨.bl b, H, I.kept (t' := tk) fun _ _ z => z, rfl, q⟩
def rIsRT (K : PySem.W.Frag) : List V → Hp → VK → Prop := fun xs H Q => ∃ (a D tp : Addr) (cs : List V) (ws : List Value) (b : Bool), xs = [.ref a, .ref tp] ∧ H a = some (ExR (.ref D) a) ∧ ExcC K D ∧ H tp = some (.tup cs) ∧ Paired ClsV cs ws ∧ PySem.W.kitAny K (.ref D) ws = some b ∧ Q (.bl b) H
theorem call_isRT {X : Cx} : CallR X (.builtin "isinstance") (rIsRT X.K) := by
  intro pins s σ H xs us Q I r h
  obtain ⟨a, D, tp, cs, ws, b, rfl, ha, hD, hT, k, e, q⟩ := h
  obtain ⟨oe, J⟩ := inst_at I ha
  obtain ⟨u1, u2, rfl, r1, r2⟩ := vals2 r
  cases (show u1 = Value.ref a from r1)
  cases (show u2 = Value.ref tp from r2)
  obtain ⟨_, its, rv, o, h1, h2, n, h3⟩ := (show ObjOk X.prog X.w H s.heap tp (.tup cs) from I.hok tp _ hT)
  have e3 := ClsV.all k rv
  subst e3
  obtain ⟨oc, od, dt, sl⟩ := o
  simp only at h2 h3
  subst h2 h3
  exact PySem.W.kia_tup (PySem.W.handS_kitx_exc hD.hg hD.hk hD.hs hD.hd hD.ha hD.hn hD.ht hD.hm) I.kIn J h1 e (fun z => nomatch z) fun tk => ⟨.bl b, H, I.tok tk, rfl, q⟩
end excs
/-! ### a book's methods where something is refused -/
def NmOk (d : PyData) : Prop := ∀ t, d = .str t → t.length ≤ 100000
def spCnX (cN : Addr) : Sp := fun vs H Q E => ∃ (N : Addr → Prop) (x : V) (d : PyData), vs = [x] ∧ AnyAt N H x d ∧ NmOk d ∧ (nameB d = true → ∀ H', Same H H' → Q .non H') ∧ (nameB d = false → ∀ H', Same H H' → E (.ref cN) none H')
theorem ok_cnX {f fI cN : Addr} {fd fdI : FuncData} {k : Nat} (F : Fun K "check_name" "check_name" s_check_name f fd) (rN : Rai K mg "NoName" cN)
    (GI : FnOk P w K mg base CX0 (k + 1) fI fdI ["thing"] spIn) (kI : PySem.W.keepIn K (.ref fI) = true) (bI : Binds K fdI ["thing"] []) (gI : mg "is_name" = some (.ref fI)) : FnOk P w K mg base (L2.CX P w) (k + 2) f fd ["thing"] (spCnX cN) := by
  refine F.okX sc_check_name (fun vs H Q E h => ?_) (fun cdv A outer s H vs Q E hr h => ?_)
  · obtain ⟨N, x, d, rfl, _⟩ := h
    rfl
  · obtain ⟨N, x, d, rfl, hx, hl, q, qE⟩ := h
    refine ⟨_, pss_one (ps_if (pt_not (pt_val (pe_call GI hr (by rfl) gI kI bI .nil pass0 (pa_cons (pv 0) pa_nil))))
      (pss_one (ps_raise rfl (takes_of rfl rfl rfl rfl) (SkE.pmk_own1 PySem.F.excBase_ValueError rN.q rN.g rN.k (raises_own rN.s rN.t) (by rfl) pe_str))) pss_nil), ?_⟩
    refine ⟨x, rfl, N, x, d, rfl, hx, hl, fun H1 s1 => ⟨_, rfl, ?_⟩⟩
    cases e : nameB d with
    | true => exact iteF (q e H1 s1)
    | false => exact iteT (qE e H1 s1)
/-- a thing by which a row isn't kept -/
def BadN (kvs : Kvs) (d : PyData) : Prop := ∀ t, d = .str t → nameS t = true → (valV kvs (Sum.inr t)).isSome = false
def spBcX (C cN : Addr) : Sp := fun vs H _ E => ∃ (p Kd Dn Lk : Addr) (kvs : Kvs) (dn : List Dn1) (N : Addr → Prop) (x : V) (d : PyData), vs = [.ref p, x] ∧ BkAt C H p Kd Dn Lk kvs dn ∧ AnyAt N H x d ∧ NmOk d ∧ BadN kvs d ∧ ∀ H', Same H H' → E (.ref cN) none H'
theorem ok_bcX {f fN C cN : Addr} {fd fdN : FuncData} {k : Nat} (F : Fun K "check_kept" "Book.check_kept" sBook_check_kept f fd) (T : BCls K mg C) (rN : Rai K mg "NoName" cN)
    (GN : FnOk P w K mg base (L2.CX P w) (k + 2) fN fdN ["thing"] (spCnX cN)) (kN : PySem.W.keepIn K (.ref fN) = true) (bN : Binds K fdN ["thing"] []) (gN : mg "check_name" = some (.ref fN)) : FnOk P w K mg base (L2.CX P w) (k + 3) f fd ["self", "name"] (spBcX C cN) := by
  refine F.okX scBc (fun vs H Q E h => ?_) (fun cdv A outer s H vs Q E hr h => ?_)
  · obtain ⟨p, Kd, Dn, Lk, kvs, dn, N, x, d, rfl, _⟩ := h
    rfl
  · obtain ⟨p, Kd, Dn, Lk, kvs, dn, N, x, d, rfl, hb, hx, hl, bad, q⟩ := h
    refine ⟨_, pss_cons (ps_expr (pe_callS (E := WE (fun cls d _ H => E cls d H)) GN hr (by rfl) gN kN bN (fun σ => passAt (takes_of rfl rfl rfl rfl) σ) (pa_cons (pv 1) pa_nil)))
      (pss_one (ps_if (pt_cmp (pc_dnotin (hu_of hr) (pv 1) (pe_fld (pv 0) rfl)))
        (pss_one (ps_raise rfl (takes_of rfl rfl rfl rfl) (SkE.pmk_own1 PySem.F.excBase_ValueError rN.q rN.g rN.k (raises_own rN.s rN.t) (by rfl) (pe_joined (.cons (pe_fmt (pv 1)) (.cons pe_str .nil)))))) pss_nil)), ?_⟩
    refine ⟨x, rfl, N, x, d, rfl, hx, hl, fun hn H1 s1 => ?_, fun _ => q⟩
    obtain ⟨t, rfl⟩ : ∃ t, d = .str t := by
      cases d <;> first | exact ⟨_, rfl⟩ | exact Bool.noConfusion hn
    obtain rfl := any_str hx
    have hb1 := hb.same s1
    obtain ⟨dx, ob⟩ := hb1.ob
    have ht := nameS_len (t := t) hn
    refine ⟨.str t, rfl, .ref p, rfl, p, C, dx, _, _, rfl, ob, T.cl, T.nK, bF_kept _ _ _, Kd, _, rfl, DGet.k (k := Sum.inr t) hb1.kept, _, rfl, ?_⟩
    rw [bad t rfl hn]
    have l1 : (Str.empty ++ t).length ≤ 8 := by rw [app_len]; show 0 + t.length ≤ 8; omega
    have l2 : (Str.ofString " is not kept").length = 12 := by decide +kernel
    refine iteT ⟨.str t, rfl, .inl ⟨t, rfl, by rw [sizeLine_eq]; omega, _, rfl, by rw [sizeLine_eq]; omega, _, rfl, ?_, q H1 s1⟩⟩
    rw [app_len, l2, sizeLine_eq]
    omega
def spBfX (C cN : Addr) : Sp := spBcX C cN
theorem ok_bfX {f fC C cN : Addr} {fd fdC : FuncData} {k : Nat} (F : Fun K "forget" "Book.forget" sBook_forget f fd) (T : BCls K mg C)
    (MC : Meth K C "check_kept" fC) (GC : FnOk P w K mg base (L2.CX P w) (k + 3) fC fdC ["self", "name"] (spBcX C cN)) (bC : Binds K fdC ["self", "name"] []) : FnOk P w K mg base (L2.CX P w) (k + 4) f fd ["self", "name"] (spBfX C cN) := by
  refine F.okX scBf (fun vs H Q E h => ?_) (fun cdv A outer s H vs Q E hr h => ?_)
  · obtain ⟨p, Kd, Dn, Lk, kvs, dn, N, x, d, rfl, _⟩ := h
    rfl
  · obtain ⟨p, Kd, Dn, Lk, kvs, dn, N, x, d, rfl, hb, hx, hl, bad, q⟩ := h
    refine ⟨_, pss_cons (ps_expr (pe_methS (E := WE (fun cls d _ H => E cls d H)) (pv 0) T.cl MC GC hr bC (fun σ => passAt (takes_of rfl rfl rfl rfl) σ) (pa_cons (pv 1) pa_nil))) pss_neverB, ?_⟩
    obtain ⟨dx, ob⟩ := hb.ob
    exact ⟨.ref p, rfl, p, dx, _, rfl, ob, bF_no _ _ _ (by decide +kernel) (by decide +kernel) (by decide +kernel), x, rfl, p, Kd, Dn, Lk, kvs, dn, N, x, d, rfl, hb, hx, hl, bad, q⟩
theorem ok_brX {f fC C cN : Addr} {fd fdC : FuncData} {k : Nat} (F : Fun K "row" "Book.row" sBook_row f fd) (T : BCls K mg C)
    (MC : Meth K C "check_kept" fC) (GC : FnOk P w K mg base (L2.CX P w) (k + 3) fC fdC ["self", "name"] (spBcX C cN)) (bC : Binds K fdC ["self", "name"] []) : FnOk P w K mg base (L2.CX P w) (k + 4) f fd ["self", "name"] (spBfX C cN) := by
  refine F.okX scBr (fun vs H Q E h => ?_) (fun cdv A outer s H vs Q E hr h => ?_)
  · obtain ⟨p, Kd, Dn, Lk, kvs, dn, N, x, d, rfl, _⟩ := h
    rfl
  · obtain ⟨p, Kd, Dn, Lk, kvs, dn, N, x, d, rfl, hb, hx, hl, bad, q⟩ := h
    refine ⟨_, pss_cons (ps_expr (pe_methS (E := WE (fun cls d _ H => E cls d H)) (pv 0) T.cl MC GC hr bC (fun σ => passAt (takes_of rfl rfl rfl rfl) σ) (pa_cons (pv 1) pa_nil))) pss_neverB, ?_⟩
    obtain ⟨dx, ob⟩ := hb.ob
    exact ⟨.ref p, rfl, p, dx, _, rfl, ob, bF_no _ _ _ (by decide +kernel) (by decide +kernel) (by decide +kernel), x, rfl, p, Kd, Dn, Lk, kvs, dn, N, x, d, rfl, hb, hx, hl, bad, q⟩
def spBtX (C cN cR : Addr) : Sp := fun vs H _ E => ∃ (p Kd Dn Lk : Addr) (kvs : Kvs) (dn : List Dn1) (N : Addr → Prop) (x y : V) (d : PyData), vs = [.ref p, x, y] ∧ BkAt C H p Kd Dn Lk kvs dn ∧ AnyAt N H x d ∧ NmOk d ∧
  ((nameB d = false ∧ ∀ H', Same H H' → E (.ref cN) none H') ∨ (nameB d = true ∧ ∃ (dy : PyData) (b kk : Nat), AnyAt N H y dy ∧ NcB b kk dy ∧ b ≤ 30000 ∧ rowA dy = false ∧ ∀ H', Same H H' → E (.ref cR) none H'))
theorem ok_btX {f fN fR C cN cR : Addr} {fd fdN fdR : FuncData} {k : Nat} (F : Fun K "tell" "Book.tell" sBook_tell f fd) (rR : Rai K mg "NoRow" cR)
    (GN : FnOk P w K mg base (L2.CX P w) (k + 2) fN fdN ["thing"] (spCnX cN)) (kN : PySem.W.keepIn K (.ref fN) = true) (bN : Binds K fdN ["thing"] []) (gN : mg "check_name" = some (.ref fN))
    (GR : FnOk P w K mg base CX0 (k + 5) fR fdR ["thing"] spIr) (kR : PySem.W.keepIn K (.ref fR) = true) (bR : Binds K fdR ["thing"] []) (gR : mg "is_row" = some (.ref fR)) : FnOk P w K mg base (L2.CX P w) (k + 6) f fd ["self", "name", "row"] (spBtX C cN cR) := by
  refine F.okX scBt (fun vs H Q E h => ?_) (fun cdv A outer s H vs Q E hr h => ?_)
  · obtain ⟨p, Kd, Dn, Lk, kvs, dn, N, x, y, d, rfl, _⟩ := h
    rfl
  · obtain ⟨p, Kd, Dn, Lk, kvs, dn, N, x, y, d, rfl, hb, hx, hl, h⟩ := h
    have R2 := hr.mono (show k + 2 ≤ k + 5 by omega)
    refine ⟨_, pss_cons (ps_expr (pe_callS (E := WE (fun cls d _ H => E cls d H)) GN R2 (by rfl) gN kN bN (fun σ => passAt (takes_of rfl rfl rfl rfl) σ) (pa_cons (pv 1) pa_nil)))
      (pss_cons (ps_if (pt_not (pt_val (pe_call GR hr (by rfl) gR kR bR .nil pass0 (pa_cons (pv 2) pa_nil))))
        (pss_one (ps_raise rfl (takes_of rfl rfl rfl rfl) (SkE.pmk_own1 PySem.F.excBase_ValueError rR.q rR.g rR.k (raises_own rR.s rR.t) (by rfl) pe_str))) pss_nil) pss_neverB), ?_⟩
    refine ⟨x, rfl, N, x, d, rfl, hx, hl, fun hn H1 s1 => ?_, fun hn => ?_⟩
    · rcases h with ⟨h, _⟩ | ⟨_, dy, b, kk, hy, nc, hb3, hrw, q⟩
      · rw [h] at hn
        cases hn
      · refine ⟨y, rfl, N, y, dy, b, kk, rfl, any_same s1 hy, nc, hb3, fun H2 s2 => ⟨_, rfl, ?_⟩⟩
        rw [hrw]
        exact iteT (q H2 (s1.trans s2))
    · rcases h with ⟨_, q⟩ | ⟨h, _⟩
      · exact q
      · rw [h] at hn
        cases hn
/-! ### _law_names -/
def Lt (t : Str) : Prop := ∀ c ∈ t.cps.toList, isLet c = true
theorem lt_cut {t : Str} (h : Lt t) (lo hi : Option Int) : Lt (cutS t lo hi) := fun c hc => by
  have hc' : c ∈ ((t.cps.toList.drop (HT.sIx t.length 0 lo)).take (HT.sIx t.length t.length hi - HT.sIx t.length 0 lo)).toArray.toList := hc
  rw [List.toList_toArray] at hc'
  exact h c (List.mem_of_mem_drop (List.mem_of_mem_take hc'))
theorem lt_app {a b : Str} (h : Lt a) (k : Lt b) : Lt (a ++ b) := fun c hc => by
  have hc' : c ∈ (a.cps ++ b.cps).toList := hc
  rw [Array.toList_append] at hc'
  exact (List.mem_append.mp hc').elim (h c) (k c)
theorem cut_len (t : Str) (lo hi : Option Int) : (cutS t lo hi).length = min (HT.sIx t.length t.length hi - HT.sIx t.length 0 lo) (t.length - HT.sIx t.length 0 lo) := by
  show ((t.cps.toList.drop (HT.sIx t.length 0 lo)).take (HT.sIx t.length t.length hi - HT.sIx t.length 0 lo)).toArray.size = _
  rw [List.size_toArray, List.length_take, List.length_drop]
  rfl
theorem name_of {t : Str} (h : Lt t) (h1 : 1 ≤ t.length) (h8 : t.length ≤ 8) : nameS t = true := by
  unfold nameS
  rw [decide_eq_true ⟨h1, h8⟩, Bool.true_and]
  exact List.all_eq_true.mpr h
theorem let_len : letS.length = 26 := by decide +kernel
theorem lt_let {i : Nat} (h : i < letS.cps.size) : Lt ⟨#[letS.cps[i]]⟩ := fun c hc => by
  have hc' : c ∈ [letS.cps[i]] := hc
  rw [List.mem_singleton.mp hc']
  exact decide_eq_true (Array.getElem_mem_toList h)
theorem join_nil (ys : List Str) : (Txt.join "" ys).cps.toList = (ys.map fun y => y.cps.toList).flatten := by
  have h : TL.tl (Txt.join "" ys) = TL.joinL (TL.tl "") (ys.map TL.tl) := by rw [TL.join_eq, TL.tl_join]
  have e0 : TL.tl "" = [] := by decide +kernel
  rw [e0] at h
  have key : ∀ l : List (List Nat), TL.joinL [] l = l.flatten := by
    intro l
    induction l with
    | nil => rfl
    | cons p r ih =>
      cases r with
      | nil => show p = _; simp
      | cons q r => show p ++ ([] ++ TL.joinL [] (q :: r)) = _; rw [ih]; simp
  rw [key] at h
  exact h
theorem join_ones {ys : List Str} (h1 : ∀ y ∈ ys, y.length = 1) (h2 : ∀ y ∈ ys, Lt y) : (Txt.join "" ys).length = ys.length ∧ Lt (Txt.join "" ys) := by
  have e := join_nil ys
  refine ⟨?_, fun c hc => ?_⟩
  · have : (Txt.join "" ys).length = (Txt.join "" ys).cps.toList.length := by simp [Str.length]
    rw [this, e, List.length_flatten, List.map_map]
    clear e this
    induction ys with
    | nil => rfl
    | cons y ys ih =>
      rw [List.map_cons, List.sum_cons, ih (fun z hz => h1 z (List.mem_cons_of_mem _ hz)) (fun z hz => h2 z (List.mem_cons_of_mem _ hz)), List.length_cons]
      have : y.cps.toList.length = 1 := by
        have := h1 y List.mem_cons_self
        simpa [Str.length] using this
      show y.cps.toList.length + _ = _
      omega
  · rw [e] at hc
    obtain ⟨l, hl, hc⟩ := List.mem_flatten.mp hc
    obtain ⟨y, hy, rfl⟩ := List.mem_map.mp hl
    exact h2 y hy c hc
/-! ### _law_rows: five small rows -/
theorem prDrop {α β : Type} {F : α → β → Prop} : ∀ {l : List α} {k : List β} (n : Nat), Paired F l k → Paired F (l.drop n) (k.drop n)
  | _, _, 0, h => h
  | _, _, _ + 1, .nil => .nil
  | _, _, n + 1, .cons _ t => prDrop n t
def spRws : Sp := fun vs H Q _ => ∃ a c : Addr, vs = [.ref a] ∧ WL H a c ∧ ∀ (H' : Hp) (L : Addr) (Rs : List Addr) (rws : List Rw), H' L = some (.lst (Rs.map V.ref)) → Rs.length = 5 → RwsAt H' Rs rws → (∀ r ∈ rws, RwOk r) → L ≠ a → L ≠ c → WL H' a c → Kp a c H H' → Q (.ref L) H'
set_option maxHeartbeats 4000000 in
theorem ok_rws {f fD fR : Addr} {fd fdD fdR : FuncData} {k : Nat} (F : Fun K "_law_rows" "_law_rows" s_law_rows f fd)
    (GD : FnOk P w K mg base CX0 (k + 1) fD fdD ["well", "many"] spDraw) (kD : PySem.W.keepIn K (.ref fD) = true) (bD : Binds K fdD ["well", "many"] []) (gD : mg "_law_draw" = some (.ref fD))
    (GR : FnOk P w K mg base CX0 (k + 3) fR fdR ["well", "many", "most"] spRow) (kR : PySem.W.keepIn K (.ref fR) = true) (bR : Binds K fdR ["well", "many", "most"] []) (gR : mg "_law_row" = some (.ref fR))
    (mn : mg "len" = none) (mt : mg "tuple" = none)
    : FnOk P w K mg base CX0 (k + 4) f fd ["well"] spRws := by
  refine F.ok sc_law_rows (fun vs H Q E h => ?_) (fun cdv A outer s H vs Q E hr h => ?_)
  · obtain ⟨a, c, rfl, _⟩ := h
    rfl
  · obtain ⟨a, c, rfl, hw, q⟩ := h
    have R1 := hr.mono (show k + 1 ≤ k + 3 by omega)
    refine ⟨_, pss_cons (ps_set (i := 1) sc_law_rows.nd rfl (.inl rfl) (pe_op op_add pe_int (pe_call GD R1 (by rfl) gD kD bD .nil pass0 (pa_cons (pv 0) (pa_cons pe_int pa_nil)))))
      (pss_cons (ps_set (i := 2) sc_law_rows.nd rfl (.inl rfl) (pe_call GD R1 (by rfl) gD kD bD .nil pass0 (pa_cons (pv 0) (pa_cons pe_int pa_nil))))
      (pss_cons (ps_set (i := 3) sc_law_rows.nd rfl (.inl rfl) (pe_call GR hr (by rfl) gR kR bR .nil pass0 (pa_cons (pv 0) (pa_cons (pv 1) (pa_cons pe_int pa_nil)))))
      (pss_cons (ps_set (i := 4) sc_law_rows.nd rfl (.inl rfl) (pe_call GR hr (by rfl) gR kR bR .nil pass0 (pa_cons (pv 0) (pa_cons (pv 1) (pa_cons pe_int pa_nil)))))
      (pss_cons (ps_set (i := 5) sc_law_rows.nd rfl (.inl rfl) (pe_op op_add (pv 1) (pe_callB call_len_seq (by rfl) mn PySem.boot_len (pa_cons (pe_ix ix_tup (pv 3) pe_int (fun _ _ => rfl)) pa_nil))))
      (pss_cons (ps_par (i := 6) (j := 7) rfl sc_law_rows.nd rfl rfl (by decide) rfl rfl (pa_cons (pe_call GD R1 (by rfl) gD kD bD .nil pass0 (pa_cons (pv 0) (pa_cons (pv 5) pa_nil))) (pa_cons (pe_call GD R1 (by rfl) gD kD bD .nil pass0 (pa_cons (pv 0) (pa_cons (pv 5) pa_nil))) pa_nil)) (by rfl))
      (pss_cons (ps_set (i := 8) sc_law_rows.nd rfl (.inl rfl) (pe_ix ix_list (pe_lst (pa_cons (pe_tup (pa_cons pe_str (pa_cons (pv 6) (pa_cons (pv 7) pa_nil)))) (pa_cons (pe_tup (pa_cons pe_str (pa_cons (pv 6) (pa_cons (pv 7) pa_nil)))) (pa_cons (pe_tup (pa_cons pe_str (pa_cons (pv 6) pa_nil))) (pa_cons (pe_tup (pa_cons pe_str (pa_cons (pv 6) pa_nil))) pa_nil))))) (pv 2) (fun _ _ => rfl)))
      (pss_cons (ps_set (i := 9) sc_law_rows.nd rfl (.inl rfl) (pe_ix ix_list (pe_lst (pa_cons (pe_lst (pa_cons (pe_tup (pa_cons pe_str (pa_cons (pv 7) (pa_cons (pv 6) pa_nil)))) pa_nil)) (pa_cons (pe_lst (pa_cons (pe_tup (pa_cons pe_str (pa_cons (pv 7) pa_nil))) (pa_cons (pe_tup (pa_cons pe_str (pa_cons (pv 6) (pa_cons (pv 5) pa_nil)))) pa_nil))) (pa_cons (pe_lst (pa_cons (pe_tup (pa_cons pe_str pa_nil)) (pa_cons (pe_tup (pa_cons pe_str (pa_cons (pv 5) (pa_cons (pv 6) pa_nil)))) pa_nil))) (pa_cons (pe_lst (pa_cons (pe_tup (pa_cons pe_str (pa_cons (pv 6) (pa_cons (pv 6) pa_nil)))) pa_nil)) pa_nil))))) (pv 2) (fun _ _ => rfl)))
      (pss_cons (ps_set (i := 10) sc_law_rows.nd rfl (.inl rfl) (pe_lst (pa_cons (pv 3) (pa_cons (pv 4) (pa_cons (pe_tup (pa_cons (pv 1) (pa_cons (pe_op op_catZ (pe_ix ix_tup (pv 3) pe_int (fun _ _ => rfl)) (pe_tup (pa_cons (pv 8) pa_nil))) (pa_cons (pv 5) pa_nil)))) (pa_cons (pe_tup (pa_cons (pv 1) (pa_cons (pe_op op_catZ (pe_ix ix_tup (pv 3) pe_int (fun _ _ => rfl)) (pe_callTy call_tuple_of (by rfl) mt (by decide +kernel) (pa_cons (pv 9) pa_nil))) (pa_cons (pe_op op_sub (pe_op op_add (pv 5) (pe_callB call_len_seq (by rfl) mn PySem.boot_len (pa_cons (pv 9) pa_nil))) pe_int) pa_nil)))) pa_nil))))))
      (pss_cons (ps_set (i := 11) sc_law_rows.nd rfl (.inl rfl) (pe_ix ix_list (pe_lst (pa_cons (pe_op op_add (pv 1) pe_int) (pa_cons (pe_op op_add pe_int (pe_op op_mod (pe_op op_add (pv 1) pe_int) pe_int)) pa_nil))) (pe_call GD R1 (by rfl) gD kD bD .nil pass0 (pa_cons (pv 0) (pa_cons pe_int pa_nil))) (fun _ _ => rfl)))
      (pss_cons (ps_expr (pe_bm PySem.F.plainAttrs_list PySem.F.slot_list_append PySem.F.type_list_append mt_append (pv 10) (pa_cons (pe_tup (pa_cons (pv 11) (pa_cons (pe_tup pa_nil) (pa_cons (pe_op op_sub (pv 11) pe_int) pa_nil)))) pa_nil)))
      (pss_cons (ps_set (i := 12) sc_law_rows.nd rfl (.inl rfl) (pe_call GD R1 (by rfl) gD kD bD .nil pass0 (pa_cons (pv 0) (pa_cons pe_int pa_nil))))
      (pss_one (ps_ret (pe_op op_cat (pe_slice sl_list (pv 10) (po_some (pv 12)) po_none) (pe_slice sl_list (pv 10) po_none (po_some (pv 12))))))))))))))))), ?_⟩
    refine ⟨.ref a, rfl, a, c, 2, rfl, by decide, by decide, hw, fun H1 m0 m00 m01 w1 k1 => ⟨1, m0, rfl, rfl, ?_⟩⟩
    refine ⟨.ref a, rfl, a, c, 4, rfl, by decide, by decide, w1, fun H2 wy wy0 wy1 w2 k2 => ?_⟩
    refine ⟨.ref a, rfl, .int (1 + m0), rfl, a, c, 1 + m0, 1, rfl, by omega, by omega, by decide, by decide, w2, fun H3 R0 ds0 o0 hrow0 ok0 hl0 w3 k3 => ?_⟩
    refine ⟨.ref a, rfl, .int (1 + m0), rfl, a, c, 1 + m0, 3, rfl, by omega, by omega, by decide, by decide, w3, fun H4 R1 ds1 o1 hrow1 ok1' hl1 w4 k4 => ?_⟩
    obtain ⟨D0, rs0, eR0, eD0, hd0⟩ := (k4.tups w3).row hrow0
    have lr0 := awLen hd0
    refine ⟨.int (1 + m0), rfl, .ref R0, rfl, R0, _, 1, .ref D0, rfl, rfl, SqT.of eR0, atI_nat (j := 1) rfl, D0, _, rfl, .inr (SqT.of eD0), 1 + m0, _, rfl, rfl, ?_⟩
    have hat9 : (1 + m0 + ((rs0.map V.ref).length : Nat)) = 1 + m0 + (ds0.length : Int) := by rw [List.length_map, lr0]
    refine ⟨.ref a, rfl, .int (1 + m0 + ((rs0.map V.ref).length : Nat)), rfl, a, c, (1 + m0 + ((rs0.map V.ref).length : Nat)), rfl, by omega, by omega, w4, fun H5 i i0 i1 w5 k5 => ⟨.ref a, rfl, .int (1 + m0 + ((rs0.map V.ref).length : Nat)), rfl, a, c, (1 + m0 + ((rs0.map V.ref).length : Nat)), rfl, by omega, by omega, w5, fun H6 j j0 j1 w6 k6 => ⟨_, _, rfl, ?_⟩⟩⟩
    have ok2 : ∀ x : Str, (x, (2 : Int)) ∈ fwL → DeedOk (1 + m0 + ((rs0.map V.ref).length : Nat)) (x, [i, j]) := fun x h => ⟨h, fun y hy => by
      simp only [List.mem_cons, List.not_mem_nil, or_false] at hy
      rcases hy with rfl | rfl <;> omega⟩
    have ok1 : ∀ x : Str, (x, (1 : Int)) ∈ fwL → DeedOk (1 + m0 + ((rs0.map V.ref).length : Nat)) (x, [i]) := fun x h => ⟨h, fun y hy => by
      rw [List.mem_singleton.mp hy]
      omega⟩
    refine ⟨.int i, rfl, .int j, rfl, (by show 3 ≤ sizeLine; decide), fun A0 hA0 => ?_⟩
    obtain ⟨G0, hG0⟩ : ∃ G, G = upd H6 A0 (.tup [V.str "add", .int i, .int j]) := ⟨_, rfl⟩
    have s0 : Same H6 G0 := by rw [hG0]; exact same_new hA0
    have eA0 : G0 A0 = some (.tup [V.str "add", .int i, .int j]) := by rw [hG0]; exact upd_same
    rw [← hG0]
    refine ⟨.int i, rfl, .int j, rfl, (by show 3 ≤ sizeLine; decide), fun A1 hA1 => ?_⟩
    obtain ⟨G1, hG1⟩ : ∃ G, G = upd G0 A1 (.tup [V.str "sub", .int i, .int j]) := ⟨_, rfl⟩
    have s1 : Same G0 G1 := by rw [hG1]; exact same_new hA1
    have eA1 : G1 A1 = some (.tup [V.str "sub", .int i, .int j]) := by rw [hG1]; exact upd_same
    rw [← hG1]
    refine ⟨.int i, rfl, (by show 2 ≤ sizeLine; decide), fun A2 hA2 => ?_⟩
    obtain ⟨G2, hG2⟩ : ∃ G, G = upd G1 A2 (.tup [V.str "not", .int i]) := ⟨_, rfl⟩
    have s2 : Same G1 G2 := by rw [hG2]; exact same_new hA2
    have eA2 : G2 A2 = some (.tup [V.str "not", .int i]) := by rw [hG2]; exact upd_same
    rw [← hG2]
    refine ⟨.int i, rfl, (by show 2 ≤ sizeLine; decide), fun A3 hA3 => ?_⟩
    obtain ⟨G3, hG3⟩ : ∃ G, G = upd G2 A3 (.tup [V.str "twice", .int i]) := ⟨_, rfl⟩
    have s3 : Same G2 G3 := by rw [hG3]; exact same_new hA3
    have eA3 : G3 A3 = some (.tup [V.str "twice", .int i]) := by rw [hG3]; exact upd_same
    rw [← hG3]
    refine ⟨(by show 4 ≤ sizeLine; decide), fun LH hLH => ?_⟩
    obtain ⟨G4, hG4⟩ : ∃ G, G = upd G3 LH (.lst [V.ref A0, .ref A1, .ref A2, .ref A3]) := ⟨_, rfl⟩
    have s4 : Same G3 G4 := by rw [hG4]; exact same_new hLH
    have eLH : G4 LH = some (.lst [V.ref A0, .ref A1, .ref A2, .ref A3]) := by rw [hG4]; exact upd_same
    rw [← hG4]
    have S4 := Same.refl G4
    have S3 := s4.trans S4
    have S2 := s3.trans S3
    have S1 := s2.trans S2
    have S0 := s1.trans S1
    obtain ⟨Ah, dh, hath, eAh, okh⟩ : ∃ A dh, atI [V.ref A0, .ref A1, .ref A2, .ref A3] wy = some (.ref A) ∧ G4 A = some (.tup (dV dh)) ∧ DeedOk (1 + m0 + ((rs0.map V.ref).length : Nat)) dh := by
      have hj : wy = 0 ∨ wy = 1 ∨ wy = 2 ∨ wy = 3 := by omega
      rcases hj with rfl | rfl | rfl | rfl
      · exact ⟨A0, ("add", [i, j]), atI_nat (j := 0) rfl, S0 _ _ eA0, ok2 "add" (by decide +kernel)⟩
      · exact ⟨A1, ("sub", [i, j]), atI_nat (j := 1) rfl, S1 _ _ eA1, ok2 "sub" (by decide +kernel)⟩
      · exact ⟨A2, ("not", [i]), atI_nat (j := 2) rfl, S2 _ _ eA2, ok1 "not" (by decide +kernel)⟩
      · exact ⟨A3, ("twice", [i]), atI_nat (j := 3) rfl, S3 _ _ eA3, ok1 "twice" (by decide +kernel)⟩
    refine ⟨.int wy, rfl, LH, _, wy, .ref Ah, rfl, rfl, .inl (.inl eLH), hath, ?_⟩
    refine ⟨.int j, rfl, .int i, rfl, (by show 3 ≤ sizeLine; decide), fun B0 hB0 => ?_⟩
    obtain ⟨G5, hG5⟩ : ∃ G, G = upd G4 B0 (.tup [V.str "add", .int j, .int i]) := ⟨_, rfl⟩
    have s5 : Same G4 G5 := by rw [hG5]; exact same_new hB0
    have eB0 : G5 B0 = some (.tup [V.str "add", .int j, .int i]) := by rw [hG5]; exact upd_same
    rw [← hG5]
    refine ⟨(by show 1 ≤ sizeLine; decide), fun Z0 hZ0 => ?_⟩
    obtain ⟨G6, hG6⟩ : ∃ G, G = upd G5 Z0 (.lst [V.ref B0]) := ⟨_, rfl⟩
    have s6 : Same G5 G6 := by rw [hG6]; exact same_new hZ0
    have eZ0 : G6 Z0 = some (.lst [V.ref B0]) := by rw [hG6]; exact upd_same
    rw [← hG6]
    refine ⟨.int j, rfl, (by show 2 ≤ sizeLine; decide), fun B1 hB1 => ?_⟩
    obtain ⟨G7, hG7⟩ : ∃ G, G = upd G6 B1 (.tup [V.str "neg", .int j]) := ⟨_, rfl⟩
    have s7 : Same G6 G7 := by rw [hG7]; exact same_new hB1
    have eB1 : G7 B1 = some (.tup [V.str "neg", .int j]) := by rw [hG7]; exact upd_same
    rw [← hG7]
    refine ⟨.int i, rfl, .int (1 + m0 + ((rs0.map V.ref).length : Nat)), rfl, (by show 3 ≤ sizeLine; decide), fun B2 hB2 => ?_⟩
    obtain ⟨G8, hG8⟩ : ∃ G, G = upd G7 B2 (.tup [V.str "add", .int i, .int (1 + m0 + ((rs0.map V.ref).length : Nat))]) := ⟨_, rfl⟩
    have s8 : Same G7 G8 := by rw [hG8]; exact same_new hB2
    have eB2 : G8 B2 = some (.tup [V.str "add", .int i, .int (1 + m0 + ((rs0.map V.ref).length : Nat))]) := by rw [hG8]; exact upd_same
    rw [← hG8]
    refine ⟨(by show 2 ≤ sizeLine; decide), fun Z1 hZ1 => ?_⟩
    obtain ⟨G9, hG9⟩ : ∃ G, G = upd G8 Z1 (.lst [V.ref B1, .ref B2]) := ⟨_, rfl⟩
    have s9 : Same G8 G9 := by rw [hG9]; exact same_new hZ1
    have eZ1 : G9 Z1 = some (.lst [V.ref B1, .ref B2]) := by rw [hG9]; exact upd_same
    rw [← hG9]
    refine ⟨(by show 1 ≤ sizeLine; decide), fun B3 hB3 => ?_⟩
    obtain ⟨G10, hG10⟩ : ∃ G, G = upd G9 B3 (.tup [V.str "all"]) := ⟨_, rfl⟩
    have s10 : Same G9 G10 := by rw [hG10]; exact same_new hB3
    have eB3 : G10 B3 = some (.tup [V.str "all"]) := by rw [hG10]; exact upd_same
    rw [← hG10]
    refine ⟨.int (1 + m0 + ((rs0.map V.ref).length : Nat)), rfl, .int i, rfl, (by show 3 ≤ sizeLine; decide), fun B4 hB4 => ?_⟩
    obtain ⟨G11, hG11⟩ : ∃ G, G = upd G10 B4 (.tup [V.str "xor", .int (1 + m0 + ((rs0.map V.ref).length : Nat)), .int i]) := ⟨_, rfl⟩
    have s11 : Same G10 G11 := by rw [hG11]; exact same_new hB4
    have eB4 : G11 B4 = some (.tup [V.str "xor", .int (1 + m0 + ((rs0.map V.ref).length : Nat)), .int i]) := by rw [hG11]; exact upd_same
    rw [← hG11]
    refine ⟨(by show 2 ≤ sizeLine; decide), fun Z2 hZ2 => ?_⟩
    obtain ⟨G12, hG12⟩ : ∃ G, G = upd G11 Z2 (.lst [V.ref B3, .ref B4]) := ⟨_, rfl⟩
    have s12 : Same G11 G12 := by rw [hG12]; exact same_new hZ2
    have eZ2 : G12 Z2 = some (.lst [V.ref B3, .ref B4]) := by rw [hG12]; exact upd_same
    rw [← hG12]
    refine ⟨.int i, rfl, .int i, rfl, (by show 3 ≤ sizeLine; decide), fun B5 hB5 => ?_⟩
    obtain ⟨G13, hG13⟩ : ∃ G, G = upd G12 B5 (.tup [V.str "add", .int i, .int i]) := ⟨_, rfl⟩
    have s13 : Same G12 G13 := by rw [hG13]; exact same_new hB5
    have eB5 : G13 B5 = some (.tup [V.str "add", .int i, .int i]) := by rw [hG13]; exact upd_same
    rw [← hG13]
    refine ⟨(by show 1 ≤ sizeLine; decide), fun Z3 hZ3 => ?_⟩
    obtain ⟨G14, hG14⟩ : ∃ G, G = upd G13 Z3 (.lst [V.ref B5]) := ⟨_, rfl⟩
    have s14 : Same G13 G14 := by rw [hG14]; exact same_new hZ3
    have eZ3 : G14 Z3 = some (.lst [V.ref B5]) := by rw [hG14]; exact upd_same
    rw [← hG14]
    refine ⟨(by show 4 ≤ sizeLine; decide), fun LT hLT => ?_⟩
    obtain ⟨G15, hG15⟩ : ∃ G, G = upd G14 LT (.lst [V.ref Z0, .ref Z1, .ref Z2, .ref Z3]) := ⟨_, rfl⟩
    have s15 : Same G14 G15 := by rw [hG15]; exact same_new hLT
    have eLT : G15 LT = some (.lst [V.ref Z0, .ref Z1, .ref Z2, .ref Z3]) := by rw [hG15]; exact upd_same
    rw [← hG15]
    have S15 := Same.refl G15
    have S14 := s15.trans S15
    have S13 := s14.trans S14
    have S12 := s13.trans S13
    have S11 := s12.trans S12
    have S10 := s11.trans S11
    have S9 := s10.trans S10
    have S8 := s9.trans S9
    have S7 := s8.trans S8
    have S6 := s7.trans S7
    have S5 := s6.trans S6
    have S4 := s5.trans S5
    obtain ⟨Zw, Bs, dts, hatt, eZw, hBs, okt, lt0⟩ : ∃ Z Bs dts, atI [V.ref Z0, .ref Z1, .ref Z2, .ref Z3] wy = some (.ref Z) ∧ G15 Z = some (.lst (Bs.map V.ref)) ∧ DsAt G15 Bs dts ∧ DsOk (1 + m0 + ((rs0.map V.ref).length : Nat)) dts ∧ (dts.length = 1 ∨ dts.length = 2) := by
      have one : ∀ {B : Addr} {d : Deed}, G15 B = some (.tup (dV d)) → DeedOk (1 + m0 + ((rs0.map V.ref).length : Nat)) d → DsAt G15 [B] [d] ∧ DsOk (1 + m0 + ((rs0.map V.ref).length : Nat)) [d] := fun e ok => ⟨.cons e .nil, ⟨fun k x hx => by
        match k, hx with
        | 0, hx =>
          obtain rfl := Option.some.inj hx
          simpa using ok
        | _ + 1, hx => simp at hx⟩⟩
      have two : ∀ {B C : Addr} {d e : Deed}, G15 B = some (.tup (dV d)) → G15 C = some (.tup (dV e)) → DeedOk (1 + m0 + ((rs0.map V.ref).length : Nat)) d → DeedOk ((1 + m0 + ((rs0.map V.ref).length : Nat)) + 1) e → DsAt G15 [B, C] [d, e] ∧ DsOk (1 + m0 + ((rs0.map V.ref).length : Nat)) [d, e] := fun e1 e2 k1 k2 => ⟨.cons e1 (.cons e2 .nil), ⟨fun k x hx => by
        match k, hx with
        | 0, hx =>
          obtain rfl := Option.some.inj hx
          simpa using k1
        | 1, hx =>
          obtain rfl := Option.some.inj hx
          exact k2
        | _ + 2, hx => simp at hx⟩⟩
      have hj : wy = 0 ∨ wy = 1 ∨ wy = 2 ∨ wy = 3 := by omega
      have okm : ∀ (x : Str) (l : List Int), (x, (l.length : Int)) ∈ fwL → (∀ y ∈ l, 0 ≤ y ∧ y ≤ (1 + m0 + ((rs0.map V.ref).length : Nat))) → DeedOk ((1 + m0 + ((rs0.map V.ref).length : Nat)) + 1) (x, l) := fun x l h h2 => ⟨h, fun y hy => by
        have := h2 y hy
        omega⟩
      rcases hj with rfl | rfl | rfl | rfl
      · obtain ⟨x1, x2⟩ := one (B := B0) (d := ("add", [j, i])) (S5 _ _ eB0) ⟨by show (("add" : Str), (2 : Int)) ∈ fwL; decide +kernel, fun y hy => by
          simp only [List.mem_cons, List.not_mem_nil, or_false] at hy
          rcases hy with rfl | rfl <;> omega⟩
        exact ⟨Z0, [B0], _, atI_nat (j := 0) rfl, S6 _ _ eZ0, x1, x2, .inl rfl⟩
      · obtain ⟨x1, x2⟩ := two (B := B1) (C := B2) (d := ("neg", [j])) (e := ("add", [i, (1 + m0 + ((rs0.map V.ref).length : Nat))])) (S7 _ _ eB1) (S8 _ _ eB2) ⟨by show (("neg" : Str), (1 : Int)) ∈ fwL; decide +kernel, fun y hy => by rw [List.mem_singleton.mp hy]; omega⟩ (okm "add" [i, (1 + m0 + ((rs0.map V.ref).length : Nat))] (by show (("add" : Str), (2 : Int)) ∈ fwL; decide +kernel) fun y hy => by
          simp only [List.mem_cons, List.not_mem_nil, or_false] at hy
          rcases hy with rfl | rfl <;> omega)
        exact ⟨Z1, [B1, B2], _, atI_nat (j := 1) rfl, S9 _ _ eZ1, x1, x2, .inr rfl⟩
      · obtain ⟨x1, x2⟩ := two (B := B3) (C := B4) (d := ("all", [])) (e := ("xor", [(1 + m0 + ((rs0.map V.ref).length : Nat)), i])) (S10 _ _ eB3) (S11 _ _ eB4) ⟨by show (("all" : Str), (0 : Int)) ∈ fwL; decide +kernel, fun y hy => nomatch hy⟩ (okm "xor" [(1 + m0 + ((rs0.map V.ref).length : Nat)), i] (by show (("xor" : Str), (2 : Int)) ∈ fwL; decide +kernel) fun y hy => by
          simp only [List.mem_cons, List.not_mem_nil, or_false] at hy
          rcases hy with rfl | rfl <;> omega)
        exact ⟨Z2, [B3, B4], _, atI_nat (j := 2) rfl, S12 _ _ eZ2, x1, x2, .inr rfl⟩
      · obtain ⟨x1, x2⟩ := one (B := B5) (d := ("add", [i, i])) (S13 _ _ eB5) ⟨by show (("add" : Str), (2 : Int)) ∈ fwL; decide +kernel, fun y hy => by
          simp only [List.mem_cons, List.not_mem_nil, or_false] at hy
          rcases hy with rfl | rfl <;> omega⟩
        exact ⟨Z3, [B5], _, atI_nat (j := 3) rfl, S14 _ _ eZ3, x1, x2, .inl rfl⟩
    refine ⟨.int wy, rfl, LT, _, wy, .ref Zw, rfl, rfl, .inl (.inl eLT), hatt, ?_⟩
    have k6H := ((((k1.trans k2).trans k3).trans k4).trans k5).trans k6
    have sA : Same H6 G15 := s0.trans (S0.trans S4)
    have kG : Kp a c H G15 := k6H.trans (Same.kp sA)
    have wG := w6.same sA
    have toG : ∀ {b : Addr} {xs : List V}, H4 b = some (.tup xs) → G15 b = some (.tup xs) := fun e => sA _ _ (k6.tup w5 (k5.tup w4 e))
    have eR0g := toG eR0
    have eD0g := toG eD0
    have tG4 : TupsStay H4 G15 := fun b xs e => toG e
    have hd0g : DsAt G15 rs0 ds0 := awMap (fun _ _ e => tG4 _ _ e) hd0
    have eAhg := S4 _ _ eAh
    refine ⟨.ref R0, rfl, .ref R1, rfl, .int (1 + m0), rfl, .ref R0, rfl, R0, _, 1, .ref D0, rfl, rfl, SqT.of eR0g, atI_nat (j := 1) rfl, .ref Ah, rfl, (by show 1 ≤ sizeLine; decide), fun U hU => ?_⟩
    have sU := same_new (o := .tup [.ref Ah]) hU
    refine ⟨D0, U, _, _, rfl, rfl, sU _ _ eD0g, upd_same, by rw [List.length_map, lr0, sizeLine_eq]; simp only [List.length_cons, List.length_nil]; omega, fun P Ha sP eP => ?_⟩
    refine ⟨.int (1 + m0 + ((rs0.map V.ref).length : Nat)), rfl, (by show 3 ≤ sizeLine; decide), fun F1 hF1 => ?_⟩
    have sF1 := same_new (o := .tup [.int (1 + m0), .ref P, .int (1 + m0 + ((rs0.map V.ref).length : Nat))]) hF1
    have eF1 : upd Ha F1 (.tup [.int (1 + m0), .ref P, .int (1 + m0 + ((rs0.map V.ref).length : Nat))]) F1 = some (.tup [.int (1 + m0), .ref P, .int (1 + m0 + ((rs0.map V.ref).length : Nat))]) := upd_same
    have sB := (sU.trans sP).trans sF1
    generalize upd Ha F1 (.tup [.int (1 + m0), .ref P, .int (1 + m0 + ((rs0.map V.ref).length : Nat))]) = Hb at sF1 eF1 sB
    refine ⟨.int (1 + m0), rfl, .ref R0, rfl, R0, _, 1, .ref D0, rfl, rfl, SqT.of (sB _ _ eR0g), atI_nat (j := 1) rfl, .ref Zw, rfl, Zw, _, rfl, .inl ⟨.inl (.inl (sB _ _ eZw)), fun T hT => ?_⟩⟩
    have sT := same_new (o := .tup (Bs.map V.ref)) hT
    have lB := awLen hBs
    refine ⟨D0, T, _, _, rfl, rfl, sT _ _ (sB _ _ eD0g), upd_same, by rw [List.length_map, List.length_map, lr0, lB, sizeLine_eq]; omega, fun P2 Hc sP2 eP2 => ?_⟩
    have sC := (sB.trans sT).trans sP2
    refine ⟨.int (1 + m0 + ((rs0.map V.ref).length : Nat)), rfl, .ref Zw, rfl, Zw, _, rfl, .inl (.inl (.inl (sC _ _ eZw))), (1 + m0 + ((rs0.map V.ref).length : Nat)), _, rfl, rfl, _, 1, rfl, rfl, (by show 3 ≤ sizeLine; decide), fun F2 hF2 => ⟨(by show 4 ≤ sizeLine; decide), fun L hL => ?_⟩⟩
    have eF2 : upd Hc F2 (.tup [.int (1 + m0), .ref P2, .int ((1 + m0 + ((rs0.map V.ref).length : Nat)) + ((Bs.map V.ref).length : Nat) - 1)]) F2 = some (.tup [.int (1 + m0), .ref P2, .int ((1 + m0 + ((rs0.map V.ref).length : Nat)) + ((Bs.map V.ref).length : Nat) - 1)]) := upd_same
    have sF2 := same_new (o := .tup [.int (1 + m0), .ref P2, .int ((1 + m0 + ((rs0.map V.ref).length : Nat)) + ((Bs.map V.ref).length : Nat) - 1)]) hF2
    have sL := same_new (o := .lst ([R0, R1, F1, F2].map V.ref)) hL
    have sD := (sC.trans sF2).trans sL
    have wD := wG.same sD
    obtain ⟨nLa, nLc⟩ := (wG.same (sC.trans sF2)).ne_new hL
    refine ⟨.int (1 + m0), rfl, 1 + m0, 1, rfl, rfl, .int (1 + m0), rfl, 1 + m0, 1, rfl, rfl, 1 + m0 + 1, 3, rfl, rfl, (by show (0 : Int) < 3; decide), 1, (1 + m0 + 1) % 3, rfl, rfl, (by show 2 ≤ sizeLine; decide), fun Mo hMo => ?_⟩
    have sM := same_new (o := .lst [V.int (1 + m0 + 1), .int (1 + (1 + m0 + 1) % 3)]) hMo
    obtain ⟨nMa, nMc⟩ := wD.ne_new hMo
    refine ⟨.ref a, rfl, a, c, 2, rfl, by decide, by decide, wD.same sM, fun He y y0 y1 we ke => ?_⟩
    obtain ⟨mo, hmo, mo1, mo3⟩ : ∃ mo : Int, atI [V.int (1 + m0 + 1), .int (1 + (1 + m0 + 1) % 3)] y = some (.int mo) ∧ 1 ≤ mo ∧ mo ≤ 3 := by
      have hj : y = 0 ∨ y = 1 := by omega
      rcases hj with rfl | rfl
      · exact ⟨_, atI_nat (j := 0) rfl, by omega, by omega⟩
      · exact ⟨_, atI_nat (j := 1) rfl, by omega, by omega⟩
    have eMe := ke _ _ nMa nMc (show upd _ Mo (.lst [V.int (1 + m0 + 1), .int (1 + (1 + m0 + 1) % 3)]) Mo = some _ from upd_same)
    have eLe := ke _ _ nLa nLc (sM _ _ (show upd _ L (.lst ([R0, R1, F1, F2].map V.ref)) L = some _ from upd_same))
    refine ⟨Mo, _, y, .int mo, rfl, rfl, .inl (.inl eMe), hmo, .ref L, rfl, .inl ⟨rfl, _, .inl (.inl eLe)⟩, .int mo, rfl, (by show 0 ≤ sizeLine; decide), fun E0 hE0 => ⟨.int mo, rfl, mo, 1, rfl, rfl, (by show 3 ≤ sizeLine; decide), fun F3 hF3 => ?_⟩⟩
    have sE := same_new (o := .tup []) hE0
    have sF3 := same_new (o := .tup [.int mo, .ref E0, .int (mo - 1)]) hF3
    refine ⟨L, _, .ref F3, rfl, rfl, (sE.trans sF3) _ _ eLe, (by show 4 < sizeLine; rw [sizeLine_eq]; decide), ?_⟩
    have sEF := sE.trans sF3
    have wf := (we.same sEF)
    have eLe2 := sEF _ _ eLe
    have eF3 : upd (upd He E0 (.tup [])) F3 (.tup [.int mo, .ref E0, .int (mo - 1)]) F3 = some (.tup [.int mo, .ref E0, .int (mo - 1)]) := upd_same
    have eE0 := sF3 _ _ (show upd He E0 (.tup []) E0 = some (.tup []) from upd_same)
    generalize upd (upd He E0 (.tup [])) F3 (.tup [.int mo, .ref E0, .int (mo - 1)]) = Hf at sEF wf eLe2 eF3 eE0
    have tL : TupsStay Hf (upd Hf L (.lst ([R0, R1, F1, F2].map V.ref ++ [.ref F3]))) := fun b xs e => by
      rw [upd_ne (ne_of e eLe2 (fun z => nomatch z))]
      exact e
    have wg := wf.upd (o := .lst ([R0, R1, F1, F2].map V.ref ++ [.ref F3])) nLa nLc
    have kL : ∀ b o', b ≠ a → b ≠ c → b ≠ L → Hf b = some o' → upd Hf L (.lst ([R0, R1, F1, F2].map V.ref ++ [.ref F3])) b = some o' := fun b o' _ _ n3 e => by
      rw [upd_ne n3]
      exact e
    have eLg : upd Hf L (.lst ([R0, R1, F1, F2].map V.ref ++ [.ref F3])) L = some (.lst ([R0, R1, F1, F2, F3].map V.ref)) := upd_same
    generalize upd Hf L (.lst ([R0, R1, F1, F2].map V.ref ++ [.ref F3])) = Hg at tL wg kL eLg
    refine ⟨.ref a, rfl, a, c, 5, rfl, by decide, by decide, wg, fun Hh tu tu0 tu1 wh kh => ?_⟩
    have eLh := kh _ _ nLa nLc eLg
    obtain ⟨tn, rfl⟩ : ∃ tn : Nat, tu = tn := ⟨tu.toNat, by omega⟩
    refine ⟨.ref L, rfl, .int (tn : Int), rfl, (tn : Int), rfl, L, _, rfl, .inl (.inl eLh), fun X1 hX1 => ?_⟩
    have sX1 := same_new (o := .lst (cutV ([R0, R1, F1, F2, F3].map V.ref) (some (tn : Int)) none)) hX1
    refine ⟨.ref L, rfl, .int (tn : Int), rfl, (tn : Int), rfl, L, _, rfl, .inl (.inl (sX1 _ _ eLh)), fun X2 hX2 => ?_⟩
    have sX2 := same_new (o := .lst (cutV ([R0, R1, F1, F2, F3].map V.ref) none (some (tn : Int)))) hX2
    refine ⟨X1, X2, _, _, rfl, rfl, sX2 _ _ upd_same, upd_same, ?_, fun Y hY => ?_⟩
    · rw [cut_drop, cut_take, List.length_drop, List.length_take, sizeLine_eq]
      simp only [List.length_map, List.length_cons, List.length_nil]
      omega
    have sY := same_new (o := .lst (cutV ([R0, R1, F1, F2, F3].map V.ref) (some (tn : Int)) none ++ cutV ([R0, R1, F1, F2, F3].map V.ref) none (some (tn : Int)))) hY
    have wX2 := (wh.same sX1).same sX2
    obtain ⟨nYa, nYc⟩ := wX2.ne_new hY
    have sXY := sX1.trans (sX2.trans sY)
    have tD : ∀ {b : Addr} {xs : List V}, upd (upd Hc F2 (.tup [.int (1 + m0), .ref P2, .int ((1 + m0 + ((rs0.map V.ref).length : Nat)) + ((Bs.map V.ref).length : Nat) - 1)])) L (.lst ([R0, R1, F1, F2].map V.ref)) b = some (.tup xs) → upd (upd (upd Hh X1 (.lst (cutV ([R0, R1, F1, F2, F3].map V.ref) (some (tn : Int)) none))) X2 (.lst (cutV ([R0, R1, F1, F2, F3].map V.ref) none (some (tn : Int))))) Y (.lst (cutV ([R0, R1, F1, F2, F3].map V.ref) (some (tn : Int)) none ++ cutV ([R0, R1, F1, F2, F3].map V.ref) none (some (tn : Int)))) b = some (.tup xs) := fun e => sXY _ _ (kh.tup wg (tL _ _ (sEF _ _ (ke.tup (wD.same sM) (sM _ _ e)))))
    have t4 : TupsStay H4 _ := fun b xs e => tD (sD _ _ (toG e))
    have row0 := t4.row ((k4.tups w3).row hrow0)
    have row1 := t4.row hrow1
    have hd0z := awMap (fun _ _ e => t4 _ _ e) hd0
    have sCL := sF2.trans sL
    have sBL := (sT.trans sP2).trans sCL
    have row2 := (show RowAt _ F1 (1 + m0) (ds0 ++ [dh]) (1 + m0 + ((rs0.map V.ref).length : Nat)) from ⟨P, rs0 ++ [Ah], tD (sBL _ _ eF1), by rw [List.map_append]; exact tD ((sF1.trans sBL) _ _ eP), awAppend hd0z (.cons (tD (sD _ _ eAhg)) .nil)⟩)
    have row3 := (show RowAt _ F2 (1 + m0) (ds0 ++ dts) ((1 + m0 + ((rs0.map V.ref).length : Nat)) + ((Bs.map V.ref).length : Nat) - 1) from ⟨P2, rs0 ++ Bs, tD (sL _ _ eF2), by rw [List.map_append]; exact tD (sCL _ _ eP2), awAppend hd0z (awMap (fun _ _ e => tD (sD _ _ e)) hBs)⟩)
    have row4 := (show RowAt _ F3 mo [] (mo - 1) from ⟨E0, [], sXY _ _ (kh.tup wg (tL _ _ eF3)), sXY _ _ (kh.tup wg (tL _ _ eE0)), .nil⟩)
    have lBm : ((Bs.map V.ref).length : Int) = dts.length := by rw [List.length_map, lB]
    have g2 : RowOk (1 + m0) (ds0 ++ [dh]) (1 + m0 + ((rs0.map V.ref).length : Nat)) := ⟨by omega, by omega, by rw [List.length_append]; simp only [List.length_cons, List.length_nil]; omega, dsOk_snoc ok0.deeds (by rw [← hat9]; exact okh), by omega, by rw [List.length_append]; simp only [List.length_cons, List.length_nil]; omega⟩
    have g3 : RowOk (1 + m0) (ds0 ++ dts) ((1 + m0 + ((rs0.map V.ref).length : Nat)) + ((Bs.map V.ref).length : Nat) - 1) := ⟨by omega, by omega, by rw [List.length_append]; omega, dsOk_append ok0.deeds okt hat9, by omega, by rw [List.length_append]; omega⟩
    have g4 : RowOk mo [] (mo - 1) := ⟨mo1, mo3, Nat.zero_le _, ⟨fun k d h => by simp at h⟩, by omega, by show mo - 1 < mo + ((0 : Nat) : Int); omega⟩
    have all5 : RwsAt _ [R0, R1, F1, F2, F3] [⟨1 + m0, ds0, o0⟩, ⟨1 + m0, ds1, o1⟩, ⟨1 + m0, ds0 ++ [dh], (1 + m0 + ((rs0.map V.ref).length : Nat))⟩, ⟨1 + m0, ds0 ++ dts, (1 + m0 + ((rs0.map V.ref).length : Nat)) + ((Bs.map V.ref).length : Nat) - 1⟩, ⟨mo, [], mo - 1⟩] := .cons row0 (.cons row1 (.cons row2 (.cons row3 (.cons row4 .nil))))
    refine q _ Y ([R0, R1, F1, F2, F3].drop tn ++ [R0, R1, F1, F2, F3].take tn) (List.drop tn [(⟨1 + m0, ds0, o0⟩ : Rw), ⟨1 + m0, ds1, o1⟩, ⟨1 + m0, ds0 ++ [dh], (1 + m0 + ((rs0.map V.ref).length : Nat))⟩, ⟨1 + m0, ds0 ++ dts, (1 + m0 + ((rs0.map V.ref).length : Nat)) + ((Bs.map V.ref).length : Nat) - 1⟩, ⟨mo, [], mo - 1⟩] ++ List.take tn [(⟨1 + m0, ds0, o0⟩ : Rw), ⟨1 + m0, ds1, o1⟩, ⟨1 + m0, ds0 ++ [dh], (1 + m0 + ((rs0.map V.ref).length : Nat))⟩, ⟨1 + m0, ds0 ++ dts, (1 + m0 + ((rs0.map V.ref).length : Nat)) + ((Bs.map V.ref).length : Nat) - 1⟩, ⟨mo, [], mo - 1⟩]) ?_ ?_ (awAppend (prDrop tn all5) (prTake tn all5)) (fun r hr2 => ?_) nYa nYc (wX2.same sY) (fun b o' n1 n2 e => ?_)
    · rw [upd_same, cut_drop, cut_take, List.map_append, List.map_drop, List.map_take]
    · rw [List.length_append, List.length_drop, List.length_take]
      simp only [List.length_cons, List.length_nil]
      omega
    · have : r ∈ [(⟨1 + m0, ds0, o0⟩ : Rw), ⟨1 + m0, ds1, o1⟩, ⟨1 + m0, ds0 ++ [dh], (1 + m0 + ((rs0.map V.ref).length : Nat))⟩, ⟨1 + m0, ds0 ++ dts, (1 + m0 + ((rs0.map V.ref).length : Nat)) + ((Bs.map V.ref).length : Nat) - 1⟩, ⟨mo, [], mo - 1⟩] := (List.mem_append.mp hr2).elim List.mem_of_mem_drop List.mem_of_mem_take
      simp only [List.mem_cons, List.not_mem_nil, or_false] at this
      rcases this with rfl | rfl | rfl | rfl | rfl
      · exact ok0
      · exact ok1'
      · exact g2
      · exact g3
      · exact g4
    · have e1 := (sC.trans sF2) _ _ (kG b o' n1 n2 e)
      have nbL := ne_of_none e1 hL
      exact sXY _ _ (kh b o' n1 n2 (kL b o' n1 n2 nbL (sEF _ _ (ke b o' n1 n2 (sM _ _ (sL _ _ e1))))))
/-! ### xs != [] -/
def rNeL0 : R2 := fun x y H Q => ∃ (a b : Addr) (xs : List V), x = .ref a ∧ y = .ref b ∧ H a = some (.lst xs) ∧ H b = some (.lst []) ∧ Q (.bl (!xs.isEmpty)) H
theorem op_neL0 {X : Cx} (hu : X.A.units + 64 < cLine) : OpR X (compareOp .NotEq) rNeL0 := by
  intro pins s σ H x y v u Q I rx ry h
  obtain ⟨a, b, xs, rfl, rfl, ea, eb, q⟩ := h
  cases rx
  cases ry
  obtain ⟨i1, rv1, h1, _⟩ := I.list (.inl (.inl ea))
  obtain ⟨i2, rv2, h2, _⟩ := I.list (.inl (.inl eb))
  cases rv2
  cases rv1 with
  | nil =>
    have r := SeqAt.RcNeAt.lists (A := X.A) (s := s) (e := fun _ => true) h1.isList h2.isList rfl (by omega) (fun j j1 _ => absurd j1 (by simp))
    exact r _ _ _ _ ⟨.bl false, H, I, rfl, q⟩
  | cons r rs =>
    have r := SeqAt.RcNeAt.lists_lengths (A := X.A) (s := s) h1.isList h2.isList (by simp) (by omega)
    exact r _ _ _ _ ⟨.bl true, H, I, rfl, q⟩
/-! ### _law_alike: by all pairs of carries that come -/
theorem rtS_ok {m : Nat} {ds1 ds2 : List Deed} : ∀ {t : Nat} {q : PC}, RtS m ds1 ds2 t q → PcOk ds1 ds2 q
  | 0, q, h => by
    have h' : q = _ := h
    rw [h']
    exact pc_first ds1 ds2
  | t + 1, q, ⟨q0, bs, h, hb, e⟩ => by
    rw [e]
    exact nx2_ok (rtS_ok h) hb
/-- both tell one bit, and the pairs behind are there -/
def GoodP (m : Nat) (ds1 : List Deed) (o1 : Int) (ds2 : List Deed) (o2 : Int) (q : PC) (bl : List (List Int)) (ms : List PC) : Prop := ∀ bs ∈ bl, ob ds1 o1 q.1 bs = ob ds2 o2 q.2 bs ∧ nx2 ds1 ds2 q bs ∈ ms
theorem GoodP.mono {m : Nat} {ds1 ds2 : List Deed} {o1 o2 : Int} {q : PC} {bl : List (List Int)} {ms ms' : List PC} (h : GoodP m ds1 o1 ds2 o2 q bl ms) (s : ∀ x ∈ ms, x ∈ ms') : GoodP m ds1 o1 ds2 o2 q bl ms' := fun bs hb => ⟨(h bs hb).1, s _ (h bs hb).2⟩
structure AkW (m : Nat) (ds1 : List Deed) (o1 : Int) (ds2 : List Deed) (o2 : Int) (ms ws : List PC) (z : Option PC) : Prop where
  nd : ms.Nodup
  sub : ∀ q ∈ ws, q ∈ ms
  rch : ∀ q ∈ ms, ∃ t, RtS m ds1 ds2 t q
  fst : (ds1.map fcD, ds2.map fcD) ∈ ms
  wl : ws.length ≤ ms.length
  done : ∀ q ∈ ms, z = some q ∨ q ∈ ws ∨ GoodP m ds1 o1 ds2 o2 q (allB m) ms
theorem AkW.never {m : Nat} {ds1 ds2 : List Deed} {o1 o2 : Int} {ms : List PC} (h : AkW m ds1 o1 ds2 o2 ms [] none) (t : Nat) : ¬ PrtS m ds1 o1 ds2 o2 t := by
  have gd : ∀ q ∈ ms, GoodP m ds1 o1 ds2 o2 q (allB m) ms := fun q hq => by
    rcases h.done q hq with z | z | z
    · cases z
    · cases z
    · exact z
  have all : ∀ (t : Nat) q, RtS m ds1 ds2 t q → q ∈ ms := by
    intro t
    induction t with
    | zero =>
      intro q hq
      have hq' : q = _ := hq
      rw [hq']
      exact h.fst
    | succ t ih =>
      rintro q ⟨q0, bs, h0, hb, rfl⟩
      exact (gd q0 (ih q0 h0) bs hb).2
  rintro ⟨q, bs, hq, hb, hne⟩
  exact hne (gd q (all t q hq) bs hb).1
theorem AkW.few {m : Nat} {ds1 ds2 : List Deed} {o1 o2 : Int} {ms ws : List PC} {z : Option PC} (h : AkW m ds1 o1 ds2 o2 ms ws z) (l1 : ds1.length ≤ 8) (l2 : ds2.length ≤ 8) : ms.length ≤ 65536 :=
  few_pairs h.nd (fun q hq => by obtain ⟨t, ht⟩ := h.rch q hq; exact rtS_ok ht) l1 l2
def KsN (xs : List NE) (ms : List PC) : Prop := xs.map (·.1) = ms.map fun q => kP q.1 q.2
theorem ksn_none {xs : List NE} {ms : List PC} (h : KsN xs ms) (q : PC) : getN xs (kP q.1 q.2) = none ↔ q ∉ ms := by
  rw [getN_none]
  have e : (∀ p ∈ xs, p.1 ≠ kP q.1 q.2) ↔ kP q.1 q.2 ∉ xs.map (·.1) := by
    rw [List.mem_map]
    exact ⟨fun z y => by obtain ⟨p, h1, h2⟩ := y; exact z p h1 h2, fun z p hp e => z ⟨p, hp, e⟩⟩
  rw [e, h, List.mem_map]
  refine ⟨fun z y => z ⟨q, y, rfl⟩, fun z y => ?_⟩
  obtain ⟨r, h1, h2⟩ := y
  obtain ⟨a, b⟩ := kP_inj h2
  exact z (by rw [show q = r from Prod.ext a.symm b.symm]; exact h1)
theorem ksn_len {xs : List NE} {ms : List PC} (h : KsN xs ms) : xs.length = ms.length := by
  have := congrArg List.length h
  rwa [List.length_map, List.length_map] at this
theorem ksn_snoc {xs : List NE} {ms : List PC} (h : KsN xs ms) (q : PC) (b : Addr) (v : V) : KsN (xs ++ [(kP q.1 q.2, b, v)]) (ms ++ [q]) := by
  unfold KsN at *
  rw [List.map_append, List.map_append, h]
  rfl
def AlkB (r s : Rw) : Prop := r.m = s.m ∧ ∀ t, ¬ PrtS r.m.toNat r.ds r.o s.ds s.o t
def spAk : Sp := fun vs H Q _ => ∃ (R S : Addr) (r s : Rw), vs = [.ref R, .ref S] ∧ RwAt H R r ∧ RwAt H S s ∧ RwOk r ∧ RwOk s ∧ ∀ H' (b : Bool), Same H H' → (b = true ↔ AlkB r s) → Q (.bl b) H'
theorem ob_at {ds : List Deed} {o : Int} {c bs : List Int} {m : Nat} (hok : RowOk m ds o) (hc : c.length = ds.length) (hb : bs.length = m) : atI ((bts ds c bs).map V.int) o = some (.int (ob ds o c bs)) := by
  have l : (bts ds c bs).length = m + ds.length := by rw [bts_len hc.symm, hb]
  have o1 := hok.o1
  exact atI_ints hok.o0 (by rw [l]; omega)
theorem ptLast {H : Hp} {ts : List Addr} {ws : List PC} (h : PtAt H ts ws) (hne : ts ≠ []) : ∃ T q, ts = ts.dropLast ++ [T] ∧ ws = ws.dropLast ++ [q] ∧ PtAt H ts.dropLast ws.dropLast ∧ PrC H T q := by
  have hl := awLen h
  have hw : ws ≠ [] := fun z => by
    rw [z] at hl
    exact hne (List.eq_nil_of_length_eq_zero hl)
  refine ⟨ts.getLast hne, ws.getLast hw, (List.dropLast_concat_getLast hne).symm, (List.dropLast_concat_getLast hw).symm, ?_, ?_⟩
  · have := prTake (ts.length - 1) h
    rw [← List.dropLast_eq_take] at this
    rwa [hl, ← List.dropLast_eq_take] at this
  · have lp : 0 < ts.length := List.length_pos_iff.mpr hne
    obtain ⟨q, h1, h2⟩ := awGet h (show ts[ts.length - 1]? = some (ts.getLast hne) by rw [List.getLast_eq_getElem, List.getElem?_eq_getElem (by omega)])
    rw [hl, List.getElem?_eq_getElem (by omega)] at h1
    rw [List.getLast_eq_getElem (h := hw)]
    rw [Option.some.inj h1]
    exact h2
def AkI (P : Program) (w : World) (R S Be Me Wt : Addr) (m : Nat) (ds1 : List Deed) (o1 : Int) (ds2 : List Deed) (o2 : Int) (H0 : Hp) (n : Nat) (σ : L2.St) (H : Hp) : Prop := ∃ (y5 y6 y7 y8 : Option V) (xs : List NE) (ts : List Addr) (ms ws : List PC),
  σ = [some (.ref R), some (.ref S), some (.ref Be), some (.ref Me), some (.ref Wt), y5, y6, y7, y8] ∧ ND P w H Me xs ∧ KsN xs ms ∧ H Wt = some (.lst (ts.map V.ref)) ∧ PtAt H ts ws ∧ AkW m ds1 o1 ds2 o2 ms ws none ∧ Same H0 H ∧ n = 2 * (65536 - ms.length) + ws.length
set_option maxHeartbeats 4000000 in
theorem ok_ak {f fF fC fS : Addr} {fd fdF fdC fdS : FuncData} {k : Nat} (F : Fun K "_law_alike" "_law_alike" s_law_alike f fd)
    (GF : FnOk P w K mg base CX0 (k + 1) fF fdF ["row"] spF1) (kF : PySem.W.keepIn K (.ref fF) = true) (bF : Binds K fdF ["row"] []) (gF : mg "_law_first" = some (.ref fF))
    (GC : FnOk P w K mg base CX0 (k + 1) fC fdC ["many"] spCh) (kC' : PySem.W.keepIn K (.ref fC) = true) (bC : Binds K fdC ["many"] []) (gC : mg "_law_choices" = some (.ref fC))
    (GS : FnOk P w K mg base CX0 (k + 1) fS fdS ["row", "carry", "bits"] spL1) (kS : PySem.W.keepIn K (.ref fS) = true) (bS : Binds K fdS ["row", "carry", "bits"] []) (gS : mg "_law_step" = some (.ref fS))
    : FnOk P w K mg base CX0 (k + 2) f fd ["row", "other"] spAk := by
  refine F.ok sc_law_alike (fun vs H Q E h => ?_) (fun cdv A outer s H vs Q E hr h => ?_)
  · obtain ⟨R, S, r, s, rfl, _⟩ := h
    rfl
  · obtain ⟨R, S, ⟨m1, ds1, o1⟩, ⟨m2, ds2, o2⟩, rfl, hr1, hr2, ok1, ok2, qq⟩ := h
    have hu := hr.units
    refine ⟨_, pss_cons (ps_if (pt_cmpR op_ne (pe_ix ix_tup (pv 0) pe_int (fun _ _ => rfl)) (pe_ix ix_tup (pv 1) pe_int (fun _ _ => rfl)) (nomark _)) (pss_one (ps_ret pe_bl)) pss_nil)
      (pss_cons (ps_set (i := 2) sc_law_alike.nd rfl (.inl rfl) (pe_tup (pa_cons (pe_call GF hr (by rfl) gF kF bF .nil pass0 (pa_cons (pv 0) pa_nil)) (pa_cons (pe_call GF hr (by rfl) gF kF bF .nil pass0 (pa_cons (pv 1) pa_nil)) pa_nil))))
      (pss_cons (ps_set (i := 3) sc_law_alike.nd rfl (.inl rfl) (pe_ndisp (P := P) (w := w) rfl rfl hu (pv 2) pe_bl))
      (pss_cons (ps_set (i := 4) sc_law_alike.nd rfl (.inl rfl) (pe_lst (pa_cons (pv 2) pa_nil)))
      (pss_cons (ps_while PassesOwn.never (pt_cmpR (op_neL0 hu) (pv 4) (pe_lst pa_nil) (nomark _))
        (pss_cons (ps_set (i := 5) sc_law_alike.nd rfl (.inl rfl) (pe_bm0 PySem.F.plainAttrs_list PySem.F.slot_list_pop PySem.F.type_list_pop mt_pop (pv 4)))
        (pss_one (ps_for PassesOwn.never rfl (pi_list (pe_call GC hr (by rfl) gC kC' bC .nil pass0 (pa_cons (pe_ix ix_tup (pv 0) pe_int (fun _ _ => rfl)) pa_nil))) (pg_name (i := 6) sc_law_alike.nd rfl (.inl rfl))
          (pss_cons (ps_set (i := 7) sc_law_alike.nd rfl (.inl rfl) (pe_call GS hr (by rfl) gS kS bS .nil pass0 (pa_cons (pv 0) (pa_cons (pe_ix ix_tup (pv 5) pe_int (fun _ _ => rfl)) (pa_cons (pv 6) pa_nil)))))
          (pss_cons (ps_set (i := 8) sc_law_alike.nd rfl (.inl rfl) (pe_call GS hr (by rfl) gS kS bS .nil pass0 (pa_cons (pv 1) (pa_cons (pe_ix ix_tup (pv 5) pe_int (fun _ _ => rfl)) (pa_cons (pv 6) pa_nil)))))
          (pss_cons (ps_if (pt_cmpR op_ne (pe_ix ix_list (pe_ix ix_tup (pv 7) pe_int (fun _ _ => rfl)) (pe_ix ix_tup (pv 0) pe_int (fun _ _ => rfl)) (fun _ _ => rfl)) (pe_ix ix_list (pe_ix ix_tup (pv 8) pe_int (fun _ _ => rfl)) (pe_ix ix_tup (pv 1) pe_int (fun _ _ => rfl)) (fun _ _ => rfl)) (nomark _)) (pss_one (ps_ret pe_bl)) pss_nil)
          (pss_one (ps_if (pt_cmp (pc_ndnotin (P := P) (w := w) rfl rfl hu (pe_tup (pa_cons (pe_ix ix_tup (pv 7) pe_int (fun _ _ => rfl)) (pa_cons (pe_ix ix_tup (pv 8) pe_int (fun _ _ => rfl)) pa_nil))) (pv 3)))
            (pss_cons (ps_ndput (P := P) (w := w) rfl rfl hu (pv 3) (pe_tup (pa_cons (pe_ix ix_tup (pv 7) pe_int (fun _ _ => rfl)) (pa_cons (pe_ix ix_tup (pv 8) pe_int (fun _ _ => rfl)) pa_nil))) pe_bl rfl)
            (pss_one (ps_expr (pe_bm PySem.F.plainAttrs_list PySem.F.slot_list_append PySem.F.type_list_append mt_append (pv 4) (pa_cons (pe_tup (pa_cons (pe_ix ix_tup (pv 7) pe_int (fun _ _ => rfl)) (pa_cons (pe_ix ix_tup (pv 8) pe_int (fun _ _ => rfl)) pa_nil))) pa_nil))))) pss_nil)))))))))
      (pss_one (ps_ret pe_bl)))))), ?_⟩
    obtain ⟨D1, rs1, eR, eD1, hd1⟩ := id hr1
    obtain ⟨D2, rs2, eS, eD2, hd2⟩ := id hr2
    refine ⟨.ref R, rfl, R, _, 0, .int m1, rfl, rfl, SqT.of eR, rfl, .ref S, rfl, S, _, 0, .int m2, rfl, rfl, SqT.of eS, rfl, rfl, _, rfl, ite2 (fun e => ?_) (fun e => ?_)⟩
    · refine qq H false (Same.refl H) ⟨(fun z => nomatch z), fun z => ?_⟩
      have : ¬ m1 = m2 := by simpa using e
      exact absurd z.1 this
    obtain rfl : m1 = m2 := by simpa using e
    obtain ⟨m, rfl⟩ : ∃ m : Nat, m1 = (m : Int) := ⟨m1.toNat, by have : (1 : Int) ≤ m1 := ok1.m1; omega⟩
    have ok1 : RowOk m ds1 o1 := ok1
    have ok2 : RowOk m ds2 o2 := ok2
    have hr1 : RowAt H R m ds1 o1 := hr1
    have hr2 : RowAt H S m ds2 o2 := hr2
    have qT : ∀ H', Same H H' → (∀ t, ¬ PrtS m ds1 o1 ds2 o2 t) → Q (.bl true) H' := fun H' s h => qq H' true s ⟨fun _ => ⟨rfl, h⟩, fun _ => rfl⟩
    have qF : ∀ H', Same H H' → (∃ t, PrtS m ds1 o1 ds2 o2 t) → Q (.bl false) H' := fun H' s h => qq H' false s ⟨(fun z => nomatch z), fun z => by obtain ⟨t, h⟩ := h; exact absurd h (z.2 t)⟩
    clear qq
    have l1 := ok1.len
    have l2 := ok2.len
    have m3 := ok1.m3
    refine ⟨.ref R, rfl, R, _, o1, ds1, rfl, hr1, by omega, fun H1 C1 s1 eC1 => ?_⟩
    refine ⟨.ref S, rfl, S, _, o2, ds2, rfl, (Same.tups s1).row hr2, by omega, fun H2 C2 s2 eC2 => ?_⟩
    refine ⟨(by show 2 ≤ sizeLine; decide), fun Be hBe => ?_⟩
    have sBe := same_new (o := .tup [.ref C1, .ref C2]) hBe
    have s03 := s1.trans (s2.trans sBe)
    have pBe : PrC (upd H2 Be (.tup [.ref C1, .ref C2])) Be (ds1.map fcD, ds2.map fcD) := ⟨C1, C2, upd_same, sBe _ _ (s2 _ _ eC1), sBe _ _ eC2⟩
    generalize upd H2 Be (.tup [.ref C1, .ref C2]) = H3 at s03 pBe
    intro Me hMe
    have sMe := same_new (o := NDO P w Me []) hMe
    refine ⟨.ref Be, rfl, Be, _, rfl, keyP (pBe.stay (Same.tups sMe)), upd_same, ?_⟩
    rw [upd_upd]
    have sM1 : Same H3 (upd H3 Me (NDO P w Me [(kP (ds1.map fcD) (ds2.map fcD), Be, V.bl true)])) := same_new hMe
    have ndM : ND P w (upd H3 Me (NDO P w Me [(kP (ds1.map fcD) (ds2.map fcD), Be, V.bl true)])) Me [(kP (ds1.map fcD) (ds2.map fcD), Be, V.bl true)] := ⟨upd_same, fun p hp => by
      rw [List.mem_singleton.mp hp]
      have := keyP (pBe.stay (Same.tups sM1))
      exact ⟨this.1, this.2.1⟩⟩
    generalize upd H3 Me (NDO P w Me [(kP (ds1.map fcD) (ds2.map fcD), Be, V.bl true)]) = H4 at sM1 ndM
    refine ⟨.ref Be, rfl, (by show 1 ≤ sizeLine; decide), fun Wt hWt => ?_⟩
    have sWt := same_new (o := .lst [.ref Be]) hWt
    have ndM5 := nd_same ndM sWt
    have s05 := s03.trans (sM1.trans sWt)
    have hMe0 : H Me = none := s03.free hMe
    have hWt0 : H Wt = none := (s03.trans sM1).free hWt
    have nMW : Me ≠ Wt := ne_of_none ndM.ob hWt
    have p05 : PrC (upd H4 Wt (.lst [.ref Be])) Be (ds1.map fcD, ds2.map fcD) := pBe.stay (Same.tups (sM1.trans sWt))
    have eW5 : upd H4 Wt (.lst [.ref Be]) Wt = some (.lst [.ref Be]) := upd_same
    generalize upd H4 Wt (.lst [.ref Be]) = H5 at ndM5 s05 p05 eW5
    refine ⟨AkI P w R S Be Me Wt m ds1 o1 ds2 o2 H, ⟨_, none, none, none, none, _, [Be], [(ds1.map fcD, ds2.map fcD)], [(ds1.map fcD, ds2.map fcD)], rfl, ndM5, rfl, eW5, .cons p05 .nil, ⟨by simp, (fun _ z => z), (fun q hq => by rw [List.mem_singleton.mp hq]; exact ⟨0, rfl⟩), List.mem_cons_self, Nat.le_refl _, (fun q hq => .inr (.inl hq))⟩, s05, rfl⟩, fun n σ H6 hp => ?_⟩
    obtain ⟨y5, y6, y7, y8, xs, ts, ms, ws, rfl, nd6, ks6, eW6, pt6, aw6, s6, rfl⟩ := hp
    refine ⟨.ref Wt, rfl, (by show 0 ≤ sizeLine; decide), fun Z hZ => ?_⟩
    have sZ := same_new (o := .lst []) hZ
    refine ⟨Wt, Z, _, rfl, rfl, sZ _ _ eW6, upd_same, _, rfl, ite2 (fun e => ?_) (fun e => ?_)⟩
    · have hne : ts ≠ [] := fun z => by
        rw [z] at e
        cases e
      obtain ⟨T, q, et, ew, pt7, pT⟩ := ptLast pt6 hne
      have few := aw6.few l1 l2
      have qm : q ∈ ms := aw6.sub q (by rw [ew]; simp)
      obtain ⟨tq, rq⟩ := aw6.rch q qm
      have pok := rtS_ok rq
      have wl : ws.length = ws.dropLast.length + 1 := by
        have := congrArg List.length ew
        rw [List.length_append] at this
        exact this
      refine ⟨fun σ' H' => ∃ m', m' < 2 * (65536 - ms.length) + ws.length ∧ AkI P w R S Be Me Wt m ds1 o1 ds2 o2 H m' σ' H', fun σ' H' z => z, ?_⟩
      refine ⟨.ref Wt, rfl, .inl ⟨rfl, _, .inl (.inl (sZ _ _ eW6))⟩, Wt, _, .ref T, rfl, rfl, sZ _ _ eW6, (by rw [et, List.map_append, List.length_append]; simp), ?_⟩
      have ed : (ts.map V.ref).dropLast = ts.dropLast.map V.ref := by rw [List.map_dropLast]
      rw [ed]
      have k7 : ∀ c o, c ≠ Wt → H6 c = some o → upd (upd H6 Z (.lst [])) Wt (.lst (ts.dropLast.map V.ref)) c = some o := fun c o n e => by
        rw [upd_ne n]
        exact sZ _ _ e
      have eW7 : upd (upd H6 Z (.lst [])) Wt (.lst (ts.dropLast.map V.ref)) Wt = some (.lst (ts.dropLast.map V.ref)) := upd_same
      generalize upd (upd H6 Z (.lst [])) Wt (.lst (ts.dropLast.map V.ref)) = H7 at k7 eW7
      have t7 : TupsStay H6 H7 := fun c xs e => k7 c _ (ne_of e eW6 (fun z => nomatch z)) e
      have s7 : Same H H7 := fun c o e => k7 c o (ne_of_none e hWt0) (s6 _ _ e)
      have nd7 : ND P w H7 Me xs := nd_stay nd6 (k7 _ _ nMW nd6.ob) t7
      have pt7 := ptat_stay t7 pt7
      have pT := pT.stay t7
      clear k7 t7 sZ hZ nd6 eW6 s6 pt6
      refine ⟨.ref R, rfl, R, _, 0, .int m, rfl, rfl, SqT.of (s7 _ _ eR), rfl, m, rfl, by omega, fun H8 Bl fs s8 nB eB hfs => ?_⟩
      have nBW : Bl ≠ Wt := fun z => by rw [z, eW7] at nB; cases nB
      have nBM : Bl ≠ Me := fun z => by rw [z, nd7.ob] at nB; cases nB
      have fl : fs.length = 2 ^ m := by rw [awLen hfs, allB_len]
      have p8 : 2 ^ m ≤ 8 := Nat.le_trans (Nat.pow_le_pow_right (by decide) (show m ≤ 3 by omega)) (by decide)
      refine ⟨Bl, rfl, ⟨_, .inl (.inl eB)⟩, for_list (K := K) (a := Bl) (xs := fs.map V.ref) (fun j σ H9 => ∃ (y6 y7 y8 : Option V) (xs : List NE) (ts : List Addr) (ms' ws' : List PC),
        σ = [some (.ref R), some (.ref S), some (.ref Be), some (.ref Me), some (.ref Wt), some (.ref T), y6, y7, y8] ∧ ND P w H9 Me xs ∧ KsN xs ms' ∧ H9 Wt = some (.lst (ts.map V.ref)) ∧ PtAt H9 ts ws' ∧ AkW m ds1 o1 ds2 o2 ms' ws' (some q) ∧ GoodP m ds1 o1 ds2 o2 q ((allB m).take j) ms' ∧
        2 * (65536 - ms'.length) + ws'.length < 2 * (65536 - ms.length) + ws.length ∧ ∀ b u, b ≠ Wt → b ≠ Me → H8 b = some u → H9 b = some u)
        ⟨y6, y7, y8, xs, ts.dropLast, ms, ws.dropLast, rfl, nd_same nd7 s8, ks6, s8 _ _ eW7, ptat_stay (Same.tups s8) pt7, ⟨aw6.nd, (fun x hx => aw6.sub x (List.dropLast_subset _ hx)), aw6.rch, aw6.fst, (by have := aw6.wl; omega), (fun x hx => by
            rcases aw6.done x hx with z | z | z
            · cases z
            · rw [ew] at z
              rcases List.mem_append.mp z with z | z
              · exact .inr (.inl z)
              · rw [List.mem_singleton.mp z]
                exact .inl rfl
            · exact .inr (.inr z))⟩, (fun bs hb => by rw [List.take_zero] at hb; cases hb), by omega, fun _ _ _ _ z => z⟩ (fun j σ H9 _ hp => ?_) (fun j x σ H9 hx hp => ?_) (fun σ H9 hp => ?_)⟩
      · obtain ⟨_, _, _, _, _, _, _, _, _, _, _, _, _, _, _, st⟩ := hp
        exact .inl (.inl (st _ _ nBW nBM eB))
      · obtain ⟨y6, y7, y8, xs9, ts9, ms9, ws9, rfl, nd9, ks9, eW9, pt9, aw9, gp9, mz9, st⟩ := hp
        rw [List.getElem?_map] at hx
        obtain ⟨b, hb, rfl⟩ := Option.map_eq_some_iff.mp hx
        obtain ⟨bs, hbs, eb⟩ := awGet hfs hb
        have hbm := List.mem_of_getElem? hbs
        obtain ⟨bl, bb⟩ := allB_ok m bs hbm
        have ts89 : TupsStay H8 H9 := fun c xs z => st c _ (ne_of z (s8 _ _ eW7) (fun y => nomatch y)) (ne_of z (s8 _ _ nd7.ob) (fun y => nomatch y)) z
        have s09 : Same H H9 := fun c o z => st c o (ne_of_none z hWt0) (ne_of_none z hMe0) (s8 _ _ (s7 _ _ z))
        obtain ⟨A, B, eT, eA, eBc⟩ := (pT.stay (Same.tups s8)).stay ts89
        have few9 := aw9.few l1 l2
        have eb9 : H9 b = some (.tup (bs.map V.int)) := ts89 _ _ eb
        refine ⟨.ref R, rfl, .ref T, rfl, T, _, 0, .ref A, rfl, rfl, SqT.of eT, rfl, .ref b, rfl, R, A, b, m, o1, ds1, q.1, bs, rfl, (Same.tups s09).row hr1, ok1, eA, pok.l1, eb9, bl, pok.b1, bb, fun H10 P1 L1 C1' s10 _ eP1 eL1 eC1' => ?_⟩
        have s010 := s09.trans s10
        refine ⟨.ref S, rfl, .ref T, rfl, T, _, 1, .ref B, rfl, rfl, SqT.of (s10 _ _ eT), rfl, .ref b, rfl, S, B, b, m, o2, ds2, q.2, bs, rfl, (Same.tups s010).row hr2, ok2, s10 _ _ eBc, pok.l2, s10 _ _ eb9, bl, pok.b2, bb, fun H11 P2 L2' C2' s11 _ eP2 eL2 eC2' => ?_⟩
        have s011 := s010.trans s11
        have eP1 := s11 _ _ eP1
        have eL1 := s11 _ _ eL1
        have eC1' := s11 _ _ eC1'
        refine ⟨.ref P1, rfl, P1, _, 0, .ref L1, rfl, rfl, SqT.of eP1, rfl, .ref R, rfl, R, _, 2, .int o1, rfl, rfl, SqT.of (s011 _ _ eR), rfl, L1, _, o1, .int (ob ds1 o1 q.1 bs), rfl, rfl, .inl (.inl eL1), ob_at ok1 pok.l1 bl,
          .ref P2, rfl, P2, _, 0, .ref L2', rfl, rfl, SqT.of eP2, rfl, .ref S, rfl, S, _, 2, .int o2, rfl, rfl, SqT.of (s011 _ _ eS), rfl, L2', _, o2, .int (ob ds2 o2 q.2 bs), rfl, rfl, .inl (.inl eL2), ob_at ok2 pok.l2 bl, rfl, _, rfl, ite2 (fun e1 => ?_) (fun e1 => ?_)⟩
        · refine qF H11 s011 ⟨tq, q, bs, rq, hbm, fun z => ?_⟩
          rw [z] at e1
          simp at e1
        have eob : ob ds1 o1 q.1 bs = ob ds2 o2 q.2 bs := by simpa using e1
        obtain ⟨nx, hnx⟩ : ∃ nx, nx = nx2 ds1 ds2 q bs := ⟨_, rfl⟩
        have rnx : RtS m ds1 ds2 (tq + 1) nx := ⟨q, bs, rq, hbm, hnx⟩
        have tk : (allB m).take (j + 1) = (allB m).take j ++ [bs] := by
          rw [List.take_add_one, hbs]
          rfl
        have grow : ∀ ms2 : List PC, (∀ c ∈ ms9, c ∈ ms2) → nx ∈ ms2 → GoodP m ds1 o1 ds2 o2 q ((allB m).take (j + 1)) ms2 := fun ms2 sub hn b2 hb2 => by
          rw [tk] at hb2
          rcases List.mem_append.mp hb2 with hb2 | hb2
          · exact ⟨(gp9 b2 hb2).1, sub _ (gp9 b2 hb2).2⟩
          · rw [List.mem_singleton.mp hb2, ← hnx]
            exact ⟨eob, hn⟩
        refine ⟨.ref P1, rfl, P1, _, 1, .ref C1', rfl, rfl, SqT.of eP1, rfl, .ref P2, rfl, P2, _, 1, .ref C2', rfl, rfl, SqT.of eP2, rfl, (by show 2 ≤ sizeLine; decide), fun U hU => ?_⟩
        have sU := same_new (o := .tup [.ref C1', .ref C2']) hU
        have pU : PrC (upd H11 U (.tup [.ref C1', .ref C2'])) U nx := by
          rw [hnx]
          exact ⟨C1', C2', upd_same, sU _ _ eC1', sU _ _ eC2'⟩
        have s912 := s10.trans (s11.trans sU)
        have eP1 := sU _ _ eP1
        have eP2 := sU _ _ eP2
        have eC1' := sU _ _ eC1'
        have eC2' := sU _ _ eC2'
        generalize upd H11 U (.tup [.ref C1', .ref C2']) = H12 at pU s912 eP1 eP2 eC1' eC2'
        have nd12 := nd_same nd9 s912
        have eW12 := s912 _ _ eW9
        have pt12 := ptat_stay (Same.tups s912) pt9
        have st12 : ∀ b u, b ≠ Wt → b ≠ Me → H8 b = some u → H12 b = some u := fun b u n1 n2 z => s912 _ _ (st b u n1 n2 z)
        refine ⟨.ref Me, rfl, Me, _, _, rfl, nd12, keyP pU, _, rfl, ?_⟩
        by_cases hin : nx ∈ ms9
        · have : (getN xs9 (kP nx.1 nx.2)).isSome = true := by
            cases e2 : getN xs9 (kP nx.1 nx.2) with
            | none => exact absurd hin ((ksn_none ks9 nx).mp e2)
            | some _ => rfl
          rw [this]
          exact iteF ⟨_, _, _, xs9, ts9, ms9, ws9, rfl, nd12, ks9, eW12, pt12, aw9, grow ms9 (fun _ z => z) hin, mz9, st12⟩
        · have hn := (ksn_none ks9 nx).mpr hin
          have : (getN xs9 (kP nx.1 nx.2)).isSome = false := by rw [hn]; rfl
          rw [this]
          refine iteT ?_
          have lk := ksn_len ks9
          refine ⟨.ref Me, rfl, .ref P1, rfl, P1, _, 1, .ref C1', rfl, rfl, SqT.of eP1, rfl, .ref P2, rfl, P2, _, 1, .ref C2', rfl, rfl, SqT.of eP2, rfl, (by show 2 ≤ sizeLine; decide), fun U2 hU2 => ?_⟩
          have sU2 := same_new (o := .tup [.ref C1', .ref C2']) hU2
          have pU2 : PrC (upd H12 U2 (.tup [.ref C1', .ref C2'])) U2 nx := ⟨C1', C2', upd_same, by rw [hnx] at *; exact sU2 _ _ eC1', by rw [hnx] at *; exact sU2 _ _ eC2'⟩
          have nd13 := nd_same nd12 sU2
          have eW13 := sU2 _ _ eW12
          have pt13 := ptat_stay (Same.tups sU2) pt12
          have eP1 := sU2 _ _ eP1
          have eP2 := sU2 _ _ eP2
          have eC1' := sU2 _ _ eC1'
          have eC2' := sU2 _ _ eC2'
          have st13 : ∀ b u, b ≠ Wt → b ≠ Me → H8 b = some u → upd H12 U2 (.tup [.ref C1', .ref C2']) b = some u := fun b u n1 n2 z => sU2 _ _ (st12 b u n1 n2 z)
          generalize upd H12 U2 (.tup [.ref C1', .ref C2']) = H13 at pU2 nd13 eW13 pt13 eP1 eP2 eC1' eC2' st13
          have few10 : ms9.length + 1 ≤ 65536 := by
            have := few_pairs (ds1 := ds1) (ds2 := ds2) (ps := ms9 ++ [nx]) (List.nodup_append.mpr ⟨aw9.nd, by simp, fun x hx y hy e => hin (by rw [List.mem_singleton.mp hy] at e; exact e ▸ hx)⟩) (fun x hx => by
              rcases List.mem_append.mp hx with hx | hx
              · obtain ⟨t, ht⟩ := aw9.rch x hx
                exact rtS_ok ht
              · rw [List.mem_singleton.mp hx]
                exact rtS_ok rnx) l1 l2
            rw [List.length_append] at this
            exact this
          refine ⟨Me, _, _, U2, rfl, nd13, rfl, keyP pU2, hn, by rw [lk, sizeLine_eq]; omega, ?_⟩
          have nd14 := nd_put (v := V.bl true) nd13 (keyP pU2)
          have k14 : ∀ c o, c ≠ Me → H13 c = some o → upd H13 Me (NDO P w Me (xs9 ++ [(kP nx.1 nx.2, U2, V.bl true)])) c = some o := fun c o n e => by
            rw [upd_ne n]
            exact e
          generalize upd H13 Me (NDO P w Me (xs9 ++ [(kP nx.1 nx.2, U2, V.bl true)])) = H14 at nd14 k14
          have t14 : TupsStay H13 H14 := fun c xs e => k14 c _ (ne_of e nd13.ob (fun z => nomatch z)) e
          have eW14 := k14 _ _ nMW.symm eW13
          refine ⟨.ref Wt, rfl, .inl ⟨rfl, _, .inl (.inl eW14)⟩, .ref P1, rfl, P1, _, 1, .ref C1', rfl, rfl, SqT.of (t14 _ _ eP1), rfl, .ref P2, rfl, P2, _, 1, .ref C2', rfl, rfl, SqT.of (t14 _ _ eP2), rfl, (by show 2 ≤ sizeLine; decide), fun U3 hU3 => ?_⟩
          have sU3 := same_new (o := .tup [.ref C1', .ref C2']) hU3
          have pU3 : PrC (upd H14 U3 (.tup [.ref C1', .ref C2'])) U3 nx := ⟨C1', C2', upd_same, by rw [hnx] at *; exact sU3 _ _ (t14 _ _ eC1'), by rw [hnx] at *; exact sU3 _ _ (t14 _ _ eC2')⟩
          have tl := awLen pt13
          have wl9 := aw9.wl
          refine ⟨Wt, _, .ref U3, rfl, rfl, sU3 _ _ eW14, by rw [List.length_map, sizeLine_eq]; omega, ?_⟩
          have k15 : ∀ c o, c ≠ Wt → H14 c = some o → upd (upd H14 U3 (.tup [.ref C1', .ref C2'])) Wt (.lst (ts9.map V.ref ++ [.ref U3])) c = some o := fun c o n e => by
            rw [upd_ne n]
            exact sU3 _ _ e
          have t15 : TupsStay (upd H14 U3 (.tup [.ref C1', .ref C2'])) (upd (upd H14 U3 (.tup [.ref C1', .ref C2'])) Wt (.lst (ts9.map V.ref ++ [.ref U3]))) := tups_put (sU3 _ _ eW14)
          refine ⟨_, _, _, _, ts9 ++ [U3], ms9 ++ [nx], ws9 ++ [nx], rfl, nd_stay nd14 (k15 _ _ nMW nd14.ob) (fun c xs e => t15 _ _ (sU3 _ _ e)), ksn_snoc ks9 nx U2 _, by rw [upd_same, List.map_append]; rfl, awAppend (ptat_stay (fun c xs e => t15 _ _ (sU3 _ _ (t14 _ _ e))) pt13) (.cons (pU3.stay t15) .nil), ⟨List.nodup_append.mpr ⟨aw9.nd, by simp, fun x hx y hy e => hin (by rw [List.mem_singleton.mp hy] at e; exact e ▸ hx)⟩, fun x hx => ?_, fun x hx => ?_, List.mem_append_left _ aw9.fst, by rw [List.length_append, List.length_append]; exact Nat.add_le_add_right wl9 1, fun x hx => ?_⟩, grow _ (fun c z => List.mem_append_left _ z) (List.mem_append_right _ List.mem_cons_self), ?_, fun b u n1 n2 z => k15 _ _ n1 (k14 _ _ n2 (st13 b u n1 n2 z))⟩
          · rcases List.mem_append.mp hx with hx | hx
            · exact List.mem_append_left _ (aw9.sub x hx)
            · exact List.mem_append_right _ hx
          · rcases List.mem_append.mp hx with hx | hx
            · exact aw9.rch x hx
            · rw [List.mem_singleton.mp hx]
              exact ⟨_, rnx⟩
          · rcases List.mem_append.mp hx with hx | hx
            · rcases aw9.done x hx with z | z | z
              · exact .inl z
              · exact .inr (.inl (List.mem_append_left _ z))
              · exact .inr (.inr (z.mono fun c hc => List.mem_append_left _ hc))
            · exact .inr (.inl (List.mem_append_right _ hx))
          · rw [List.length_append, List.length_append, List.length_singleton]
            omega
      · obtain ⟨y6, y7, y8, xs9, ts9, ms9, ws9, rfl, nd9, ks9, eW9, pt9, aw9, gp9, mz9, st⟩ := hp
        rw [List.length_map, fl, ← allB_len m, List.take_length] at gp9
        refine ⟨_, mz9, _, y6, y7, y8, xs9, ts9, ms9, ws9, rfl, nd9, ks9, eW9, pt9, ⟨aw9.nd, aw9.sub, aw9.rch, aw9.fst, aw9.wl, fun x hx => ?_⟩, fun c o z => st c o (ne_of_none z hWt0) (ne_of_none z hMe0) (s8 _ _ (s7 _ _ z)), rfl⟩
        rcases aw9.done x hx with z | z | z
        · rw [← Option.some.inj z]
          exact .inr (.inr gp9)
        · exact .inr (.inl z)
        · exact .inr (.inr z)
    · have hts : ts = [] := by
        cases ts with
        | nil => rfl
        | cons _ _ => exact absurd rfl e
      subst hts
      have hws : ws = [] := List.eq_nil_of_length_eq_zero (awLen pt6).symm
      subst hws
      exact qT _ (s6.trans sZ) aw6.never
/-! ### which rows are alike is an equivalence; _law_classes -/
theorem rtS_self {m : Nat} {ds : List Deed} : ∀ {t : Nat} {q : PC}, RtS m ds ds t q → q.1 = q.2
  | 0, q, h => by
    have h' : q = _ := h
    rw [h']
  | t + 1, q, ⟨q0, bs, h, _, e⟩ => by
    have := rtS_self h
    rw [e]
    show nc ds q0.1 bs = nc ds q0.2 bs
    rw [this]
theorem alkB_refl (r : Rw) : AlkB r r := ⟨rfl, fun t h => by
  obtain ⟨q, bs, h1, _, h3⟩ := h
  rw [rtS_self h1] at h3
  exact h3 rfl⟩
theorem alkB_symm {r s : Rw} (h : AlkB r s) : AlkB s r := ⟨h.1.symm, fun t z => h.2 t (by
  have := prtS_swap z
  rw [← h.1] at this
  exact this)⟩
theorem rtS_mid {m : Nat} {ds1 ds2 ds3 : List Deed} : ∀ {t : Nat} {q : PC}, RtS m ds1 ds3 t q → ∃ c, RtS m ds1 ds2 t (q.1, c) ∧ RtS m ds2 ds3 t (c, q.2)
  | 0, q, h => by
    have h' : q = _ := h
    rw [h']
    exact ⟨ds2.map fcD, rfl, rfl⟩
  | t + 1, q, ⟨q0, bs, h, hb, e⟩ => by
    obtain ⟨c, h1, h2⟩ := rtS_mid (ds2 := ds2) h
    rw [e]
    exact ⟨nc ds2 c bs, ⟨_, bs, h1, hb, rfl⟩, ⟨_, bs, h2, hb, rfl⟩⟩
theorem alkB_trans {r s u : Rw} (h : AlkB r s) (k : AlkB s u) : AlkB r u := ⟨h.1.trans k.1, fun t z => by
  obtain ⟨q, bs, h1, h2, h3⟩ := z
  obtain ⟨c, a, b⟩ := rtS_mid (ds2 := s.ds) h1
  have e1 : ob r.ds r.o q.1 bs = ob s.ds s.o c bs := by
    false_or_by_contra
    rename_i ne
    exact h.2 t ⟨(q.1, c), bs, a, h2, ne⟩
  have hm : r.m = s.m := h.1
  rw [hm] at b h2
  have e2 : ob s.ds s.o c bs = ob u.ds u.o q.2 bs := by
    false_or_by_contra
    rename_i ne
    exact k.2 t ⟨(c, q.2), bs, b, h2, ne⟩
  exact h3 (e1.trans e2)⟩
/-- for each row the least number of one that is alike to it -/
structure ClsOk (rws : List Rw) (cls : List Nat) : Prop where
  len : cls.length = rws.length
  each : ∀ (i c : Nat) (r : Rw), cls[i]? = some c → rws[i]? = some r → c ≤ i ∧ ∃ s, rws[c]? = some s ∧ AlkB s r ∧ ∀ (j : Nat) (u : Rw), j < c → rws[j]? = some u → ¬ AlkB u r
theorem ClsOk.same {rws : List Rw} {cls : List Nat} (h : ClsOk rws cls) {i j c d : Nat} {r s : Rw} (hi : cls[i]? = some c) (hj : cls[j]? = some d) (hr : rws[i]? = some r) (hs : rws[j]? = some s) : c = d ↔ AlkB r s := by
  obtain ⟨_, u, hu, a, la⟩ := h.each i c r hi hr
  obtain ⟨_, v, hv, b, lb⟩ := h.each j d s hj hs
  refine ⟨fun e => ?_, fun e => ?_⟩
  · subst e
    rw [hu] at hv
    obtain rfl := Option.some.inj hv
    exact alkB_trans (alkB_symm a) b
  · rcases Nat.lt_trichotomy c d with z | z | z
    · exact absurd (alkB_trans a e) (lb c u z hu)
    · exact z
    · exact absurd (alkB_trans b (alkB_symm e)) (la d v z hv)
abbrev nV (cls : List Nat) : List V := cls.map fun (c : Nat) => V.int (c : Int)
def spLcs : Sp := fun vs H Q _ => ∃ (L : Addr) (Rs : List Addr) (rws : List Rw), vs = [.ref L] ∧ H L = some (.lst (Rs.map V.ref)) ∧ RwsAt H Rs rws ∧ (∀ r ∈ rws, RwOk r) ∧ rws.length ≤ 1000 ∧
  ∀ H' p cls, Same H H' → H p = none → H' p = some (.lst (nV cls)) → ClsOk rws cls → Q (.ref p) H'
set_option maxHeartbeats 2000000 in
theorem ok_lcs {f fA : Addr} {fd fdA : FuncData} {k : Nat} (F : Fun K "_law_classes" "_law_classes" s_law_classes f fd)
    (GA : FnOk P w K mg base CX0 (k + 2) fA fdA ["row", "other"] spAk) (kA : PySem.W.keepIn K (.ref fA) = true) (bA : Binds K fdA ["row", "other"] []) (gA : mg "_law_alike" = some (.ref fA))
    (mr : mg "range" = none) (me : mg "enumerate" = none) : FnOk P w K mg base CX0 (k + 3) f fd ["rows"] spLcs := by
  refine F.ok sc_law_classes (fun vs H Q E h => ?_) (fun cdv A outer s H vs Q E hr h => ?_)
  · obtain ⟨L, Rs, rws, rfl, _⟩ := h
    rfl
  · obtain ⟨L, Rs, rws, rfl, eL, hrs, hok, few, qq⟩ := h
    refine ⟨_, pss_cons (ps_set (i := 1) sc_law_classes.nd rfl (.inl rfl) (pe_lst pa_nil))
      (pss_cons (ps_for PassesOwn.never rfl (pi_enum (by rfl) me (pa_cons (pv 0) pa_nil)) (pg_tup rfl (pgs_cons (pg_name (i := 2) sc_law_classes.nd rfl (.inr rfl)) (pgs_cons (pg_name (i := 3) sc_law_classes.nd rfl (.inr rfl)) pgs_nil)))
        (pss_one (ps_expr (pe_bm PySem.F.plainAttrs_list PySem.F.slot_list_append PySem.F.type_list_append mt_append (pv 1) (pa_cons (pe_ix ix_list (pe_lc (own := [("j", 4)]) (g := gName 4) (by rfl) sc_law_classes.nd (pi_range1 (by rfl) mr (pa_cons (pe_op op_add (pv 2) pe_int) pa_nil)) (blkOk_by (own := [("j", 4)]) (N := N_law_classes) (sc := defScope s_law_classes) (by decide +kernel)) (fun _ _ _ _ _ => (pg_name (i := 4) sc_law_classes.nd rfl (.inl rfl))) (fun _ _ _ _ _ => pts_one (PW.pt (pw_or (pt_cmpR op_eq (pv 4) (pv 2) (nomark _)) (pw_or1 (pt_val (pe_call GA hr (by rfl) gA kA bA .nil pass0 (pa_cons (pe_ix (r := rIxL K) ix_list (pv 0) (pv 4) (fun _ _ => rfl)) (pa_cons (pv 3) pa_nil)))))))) (fun _ _ _ _ _ => (pv 4))) pe_int (fun _ _ => rfl)) pa_nil)))))
      (pss_one (ps_ret (pv 1)))), ?_⟩
    refine ⟨Nat.zero_le _, fun Fo hFo => ?_⟩
    have rl := awLen hrs
    have sFo := same_new (o := .lst []) hFo
    refine ⟨.ref L, rfl, L, _, rfl, .inl (.inl (sFo _ _ eL)), for_it (walk_enum (K := K) (a := L) (xs := Rs.map V.ref)) (fun i σ H3 => ∃ (y2 y3 : Option V) (cls : List Nat), σ = [some (.ref L), some (.ref Fo), y2, y3, none] ∧ H3 Fo = some (.lst (nV cls)) ∧ cls.length = i ∧
        (∀ (i c : Nat) (r : Rw), cls[i]? = some c → rws[i]? = some r → c ≤ i ∧ ∃ s, rws[c]? = some s ∧ AlkB s r ∧ ∀ (j : Nat) (u : Rw), j < c → rws[j]? = some u → ¬ AlkB u r) ∧ Same H H3)
        ⟨none, none, [], rfl, upd_same, rfl, (fun i c r h => by cases h), sFo⟩ (fun i σ H3 _ hp => ?_) (fun i x σ H3 H4 hi hp hy => ?_) (fun σ H3 hp => ?_)⟩
    · obtain ⟨_, _, _, _, _, _, _, s3⟩ := hp
      exact .inl (.inl (s3 _ _ eL))
    · obtain ⟨y2, y3, cls, rfl, eFo, hcl, hall, s3⟩ := hp
      obtain ⟨T, x1, x2, rfl, hT, rfl, g1, g2⟩ := hy
      obtain rfl := Option.some.inj g1
      rw [List.length_map] at hi
      have g2' : (Rs.map V.ref)[i]? = some x2 := g2
      have hRi : Rs[i]? = some Rs[i] := List.getElem?_eq_getElem hi
      rw [List.getElem?_map, hRi] at g2'
      obtain rfl := Option.some.inj g2'
      obtain ⟨ri, hri, hrow⟩ := awGet hrs hRi
      have hrow : RwAt H Rs[i] ri := hrow
      have sT := same_new (o := .tup [.int (i : Nat), .ref Rs[i]]) hT
      have s4 := s3.trans sT
      have eFo4 := sT _ _ eFo
      refine ⟨T, _, rfl, SqT.of upd_same, rfl, .int (i : Nat), _, rfl, .ref Rs[i], _, rfl, rfl, ?_⟩
      refine ⟨.ref Fo, rfl, .inl ⟨rfl, _, .inl (.inl eFo4)⟩, ?_⟩
      refine ⟨.int (i : Nat), rfl, (i : Int), 1, rfl, rfl, i + 1, by push_cast; rfl, by omega, by omega, fun C hC => ?_⟩
      generalize upd H3 T (.tup [.int (i : Nat), .ref Rs[i]]) = H4 at sT s4 eFo4 hC
      refine lc_range (lo := 0) (n := i + 1) (fun j H5 => ∃ zs : List Int, H5 C = some (.lst (zs.map V.int)) ∧ zs.length ≤ j ∧ Same H4 H5 ∧ ((zs = [] ∧ j ≤ i ∧ ∀ (j' : Nat) (u : Rw), j' < j → rws[j']? = some u → ¬ AlkB u ri) ∨ ∃ (c : Nat) (r : List Int), zs = (c : Int) :: r ∧ c ≤ i ∧ c < j ∧ (∃ s, rws[c]? = some s ∧ AlkB s ri) ∧ ∀ (j' : Nat) (u : Rw), j' < c → rws[j']? = some u → ¬ AlkB u ri))
        ⟨[], upd_same, Nat.le_refl _, same_new hC, .inl ⟨rfl, Nat.zero_le _, fun j' u z => absurd z (Nat.not_lt_zero _)⟩⟩ (fun j H5 hj hp => ?_) (fun H5 hp => ?_)
      · obtain ⟨zs, eC, zl, s5, hz⟩ := hp
        have jl : j < Rs.length := by omega
        have hRj : Rs[j]? = some Rs[j] := List.getElem?_eq_getElem jl
        obtain ⟨rj, hrj, hrowj⟩ := awGet hrs hRj
        have hrowj : RwAt H Rs[j] rj := hrowj
        -- one of them is put behind
        have put : ∀ H6 : Hp, Same H5 H6 → AlkB rj ri → ∃ acc, H6 C = some (.lst acc) ∧ acc.length < sizeLine ∧ ∃ zs : List Int, upd H6 C (.lst (acc ++ [V.int (0 + (j : Int))])) C = some (.lst (zs.map V.int)) ∧ zs.length ≤ j + 1 ∧ Same H4 (upd H6 C (.lst (acc ++ [V.int (0 + (j : Int))]))) ∧ ((zs = [] ∧ j + 1 ≤ i ∧ ∀ (j' : Nat) (u : Rw), j' < j + 1 → rws[j']? = some u → ¬ AlkB u ri) ∨ ∃ (c : Nat) (r : List Int), zs = (c : Int) :: r ∧ c ≤ i ∧ c < j + 1 ∧ (∃ s, rws[c]? = some s ∧ AlkB s ri) ∧ ∀ (j' : Nat) (u : Rw), j' < c → rws[j']? = some u → ¬ AlkB u ri) := fun H6 s6 al => by
          have eC6 := s6 _ _ eC
          refine ⟨_, eC6, by rw [List.length_map]; exact small1000 (by omega), zs ++ [(j : Int)], by rw [upd_same, List.map_append, Int.zero_add]; rfl, by rw [List.length_append]; exact Nat.add_le_add_right zl 1, fun b u e => ?_, .inr ?_⟩
          · rw [upd_ne (ne_of_none e hC)]
            exact s6 _ _ (s5 _ _ e)
          · rcases hz with ⟨rfl, a, b⟩ | ⟨c, r, rfl, a, b, d, e⟩
            · exact ⟨j, [], rfl, by omega, by omega, ⟨rj, hrj, al⟩, b⟩
            · exact ⟨c, r ++ [(j : Int)], rfl, a, by omega, d, e⟩
        refine ⟨rfl, .int (0 + (j : Int)), rfl, .int (i : Nat), rfl, rfl, _, rfl, ?_⟩
        by_cases e : (0 + (j : Int)) = ((i : Nat) : Int)
        · rw [decide_eq_true (congrArg V.int e)]
          refine ⟨.int (0 + (j : Int)), rfl, ?_⟩
          obtain rfl : j = i := by omega
          rw [hri] at hrj
          obtain rfl := Option.some.inj hrj
          exact put H5 (Same.refl H5) (alkB_refl _)
        · rw [decide_eq_false fun z => e (V.int.inj z)]
          refine ⟨.ref L, rfl, .int (0 + (j : Int)), rfl, L, _, _, .ref Rs[j], rfl, rfl, .inl (.inl (s5 _ _ (s4 _ _ eL))), by rw [Int.zero_add]; exact atI_nat (by rw [List.getElem?_map, hRj]; rfl), .ref Rs[i], rfl, Rs[j], Rs[i], rj, ri, rfl, (Same.tups (s4.trans s5)).row hrowj, (Same.tups (s4.trans s5)).row hrow, hok _ (List.mem_of_getElem? hrj), hok _ (List.mem_of_getElem? hri), fun H6 b s6 hb => ?_⟩
          cases b with
          | true => exact ⟨true, rfl, .int (0 + (j : Int)), rfl, put H6 s6 (hb.mp rfl)⟩
          | false =>
            have na : ¬ AlkB rj ri := fun z => by have := hb.mpr z; cases this
            refine ⟨false, rfl, zs, s6 _ _ eC, by omega, s5.trans s6, ?_⟩
            rcases hz with ⟨rfl, a, b⟩ | ⟨c, r, rfl, a, b, d, e⟩
            · refine .inl ⟨rfl, by omega, fun j' u hj' hu => ?_⟩
              by_cases e' : j' = j
              · subst e'
                rw [hrj] at hu
                rw [← Option.some.inj hu]
                exact na
              · exact b j' u (by omega) hu
            · exact .inr ⟨c, r, rfl, a, by omega, d, e⟩
      · obtain ⟨zs, eC, zl, s5, hz⟩ := hp
        rcases hz with ⟨_, a, _⟩ | ⟨c, r, rfl, a, b, d, e⟩
        · omega
        · refine ⟨C, _, 0, .int (c : Int), rfl, rfl, .inl (.inl eC), atI_nat (j := 0) rfl, Fo, _, _, rfl, rfl, s5 _ _ eFo4, by rw [List.length_map]; exact small1000 (by omega), ?_⟩
          refine ⟨_, _, cls ++ [c], rfl, by rw [upd_same]; unfold nV; rw [List.map_append]; rfl, by rw [List.length_append, hcl]; rfl, fun i' c' r' hc' hr' => ?_, fun b' u z => ?_⟩
          · by_cases e' : i' < cls.length
            · rw [List.getElem?_append_left e'] at hc'
              exact hall i' c' r' hc' hr'
            · have il := (List.getElem?_eq_some_iff.mp hc').1
              rw [List.length_append, List.length_singleton] at il
              obtain rfl : i' = i := by omega
              rw [List.getElem?_append_right (by omega), hcl, Nat.sub_self] at hc'
              obtain rfl : c = c' := by simpa using hc'
              rw [hri] at hr'
              obtain rfl := Option.some.inj hr'
              obtain ⟨s', h1, h2⟩ := d
              exact ⟨a, s', h1, h2, e⟩
          · have nz : b' ≠ Fo := ne_of_none z hFo
            rw [upd_ne nz]
            exact s5 _ _ (s4 _ _ z)
    · obtain ⟨y2, y3, cls, rfl, eFo, hcl, hall, s3⟩ := hp
      rw [List.length_map] at hcl
      exact ⟨.ref Fo, rfl, qq H3 Fo cls s3 hFo eFo ⟨by omega, hall⟩⟩
/-! ### what is kept by names: dicts by texts as functions -/
def kvE (g : Str → V) (ks : List Str) : Kvs := ks.map fun t => ((Sum.inr t : Key), g t)
theorem kvE_keys (g : Str → V) (ks : List Str) : (kvE g ks).map (·.1) = ks.map Sum.inr := by
  unfold kvE
  rw [List.map_map]
  rfl
theorem kvE_len (g : Str → V) (ks : List Str) : (kvE g ks).length = ks.length := List.length_map ..
theorem kvE_val (g : Str → V) (t : Str) : ∀ ks : List Str, valV (kvE g ks) (Sum.inr t) = if t ∈ ks then some (g t) else none
  | [] => rfl
  | x :: ks => by
    have ih := kvE_val g t ks
    by_cases h : x = t
    · subst h
      rw [if_pos List.mem_cons_self]
      exact valV_pos rfl
    · have e : valV (kvE g (x :: ks)) (Sum.inr t) = valV (kvE g ks) (Sum.inr t) := valV_neg fun z => h (Sum.inr.inj z)
      rw [e, ih]
      have hx : ¬ t = x := fun z => h z.symm
      by_cases ht : t ∈ ks
      · rw [if_pos ht, if_pos (List.mem_cons_of_mem _ ht)]
      · rw [if_neg ht, if_neg fun z => (List.mem_cons.mp z).elim hx ht]
theorem kvE_congr {g g' : Str → V} {ks : List Str} (h : ∀ t ∈ ks, g t = g' t) : kvE g ks = kvE g' ks := List.map_congr_left fun t ht => by rw [h t ht]
def keysPut (ks : List Str) (t : Str) : List Str := if t ∈ ks then ks else ks ++ [t]
def keysDrop (ks : List Str) (t : Str) : List Str := ks.filter fun x => decide (x ≠ t)
theorem kvE_put (g : Str → V) (ks : List Str) (t : Str) (v : V) : putK (kvE g ks) (Sum.inr t) v = kvE (fun x => if x = t then v else g x) (keysPut ks t) := by
  have ha : ((kvE g ks).any fun kv => decide (kv.1 = (Sum.inr t : Key))) = true ↔ t ∈ ks := by
    unfold kvE
    rw [List.any_map, List.any_eq_true]
    constructor
    · rintro ⟨x, h1, h2⟩
      have h2' : (Sum.inr x : Key) = Sum.inr t := of_decide_eq_true h2
      rw [← Sum.inr.inj h2']
      exact h1
    · intro h
      exact ⟨t, h, decide_eq_true rfl⟩
  unfold putK keysPut
  by_cases h : t ∈ ks
  · rw [if_pos (ha.mpr h), if_pos h]
    unfold kvE
    rw [List.map_map]
    refine List.map_congr_left fun x _ => ?_
    show (if (Sum.inr x : Key) = Sum.inr t then ((Sum.inr x : Key), v) else (Sum.inr x, g x)) = (Sum.inr x, if x = t then v else g x)
    by_cases e : x = t
    · subst e
      rw [if_pos rfl, if_pos rfl]
    · rw [if_neg fun z => e (Sum.inr.inj z), if_neg e]
  · rw [if_neg fun z => h (ha.mp z), if_neg h]
    unfold kvE
    rw [List.map_append]
    congr 1
    · refine List.map_congr_left fun x hx => ?_
      have e : ¬ x = t := fun z => h (z ▸ hx)
      show ((Sum.inr x : Key), g x) = (Sum.inr x, if x = t then v else g x)
      rw [if_neg e]
    · show [(Sum.inr t, v)] = [(Sum.inr t, if t = t then v else g t)]
      rw [if_pos rfl]
theorem kvE_drop (g : Str → V) (ks : List Str) (t : Str) : dropK (kvE g ks) (Sum.inr t) = kvE g (keysDrop ks t) := by
  unfold dropK kvE keysDrop
  rw [List.filter_map]
  congr 1
  refine List.filter_congr fun x _ => ?_
  show decide ((Sum.inr x : Key) ≠ Sum.inr t) = decide (x ≠ t)
  by_cases e : x = t
  · subst e
    simp
  · have : ¬ (Sum.inr x : Key) = Sum.inr t := fun z => e (Sum.inr.inj z)
    simp [e, this]
theorem kput_mem {ks : List Str} {t x : Str} : x ∈ keysPut ks t ↔ x = t ∨ x ∈ ks := by
  unfold keysPut
  by_cases h : t ∈ ks
  · rw [if_pos h]
    exact ⟨.inr, fun z => z.elim (fun e => e ▸ h) id⟩
  · rw [if_neg h, List.mem_append, List.mem_singleton, or_comm]
theorem kdrop_mem {ks : List Str} {t x : Str} : x ∈ keysDrop ks t ↔ x ≠ t ∧ x ∈ ks := by
  unfold keysDrop
  rw [List.mem_filter, and_comm]
  simp
theorem kput_nd {ks : List Str} (h : ks.Nodup) (t : Str) : (keysPut ks t).Nodup := by
  unfold keysPut
  by_cases e : t ∈ ks
  · rw [if_pos e]
    exact h
  · rw [if_neg e]
    exact List.nodup_append.mpr ⟨h, by simp, fun x hx y hy z => e (by rw [List.mem_singleton.mp hy] at z; exact z ▸ hx)⟩
theorem kdrop_nd {ks : List Str} (h : ks.Nodup) (t : Str) : (keysDrop ks t).Nodup := h.filter _
theorem kvE_ok {g : Str → V} {ks : List Str} (h : ∀ t ∈ ks, ∃ r, g t = .ref r) : KvOk (kvE g ks) := fun e he => by
  unfold kvE at he
  obtain ⟨t, ht, rfl⟩ := List.mem_map.mp he
  obtain ⟨r, hr⟩ := h t ht
  exact ⟨t, r, by rw [hr]⟩
theorem subs_len {ks nms : List Str} (nd : ks.Nodup) (h : ∀ t ∈ ks, t ∈ nms) : ks.length ≤ nms.length := by
  induction ks generalizing nms with
  | nil => exact Nat.zero_le _
  | cons x ks ih =>
    obtain ⟨n1, n2⟩ := List.nodup_cons.mp nd
    have hx := h x List.mem_cons_self
    have := ih (nms := nms.erase x) n2 fun t ht => by
      have hne : t ≠ x := fun e => n1 (e ▸ ht)
      exact (List.mem_erase_of_ne hne).mpr (h t (List.mem_cons_of_mem _ ht))
    rw [List.length_erase_of_mem hx] at this
    have := List.length_pos_of_mem hx
    rw [List.length_cons]
    omega
/-! rows as keys -/
def dK (d : Deed) : NestedKey := .tup (.text d.1 :: d.2.map .num)
def rowK (r : Rw) : NestedKey := .tup [.num r.m, .tup (r.ds.map dK), .num r.o]
theorem nkn_inj : ∀ {a b : List Int}, a.map NestedKey.num = b.map NestedKey.num → a = b
  | [], [], _ => rfl
  | [], _ :: _, h => by cases h
  | _ :: _, [], h => by cases h
  | x :: a, y :: b, h => by
    rw [List.map_cons, List.map_cons] at h
    injection h with h1 h2
    injection h1 with h1
    rw [h1, nkn_inj h2]
theorem dKs_inj : ∀ {a b : List Deed}, a.map dK = b.map dK → a = b
  | [], [], _ => rfl
  | [], _ :: _, h => by cases h
  | _ :: _, [], h => by cases h
  | x :: a, y :: b, h => by
    rw [List.map_cons, List.map_cons] at h
    injection h with h1 h2
    unfold dK at h1
    injection h1 with h1
    injection h1 with h3 h4
    injection h3 with h3
    rw [dKs_inj h2, Prod.ext h3 (nkn_inj h4)]
theorem rowK_inj {r s : Rw} (h : rowK r = rowK s) : r = s := by
  unfold rowK at h
  injection h with h
  injection h with h1 h
  injection h with h2 h
  injection h with h3 _
  injection h1 with h1
  injection h2 with h2
  injection h3 with h3
  cases r
  cases s
  simp only [Rw.mk.injEq]
  exact ⟨h1, dKs_inj h2, h3⟩
theorem nk_ints (H : Hp) : ∀ l : List Int, NkAll H (l.map .num) (l.map V.int)
  | [] => .nil
  | x :: l => .cons (.num x) (nk_ints H l)
theorem nk_deeds {H : Hp} : ∀ {rs : List Addr} {ds : List Deed}, DsAt H rs ds → NkAll H (ds.map dK) (rs.map V.ref)
  | _, _, .nil => .nil
  | _, _, .cons h t => .cons (.tup h (.cons (.str _) (nk_ints H _))) (nk_deeds t)
theorem ints_dep : ∀ l : List Int, NestedKey.depthAll (l.map .num) = 0
  | [] => rfl
  | x :: l => by simp [NestedKey.depthAll, NestedKey.depth, ints_dep l]
theorem deeds_dep : ∀ l : List Deed, NestedKey.depthAll (l.map dK) ≤ 1
  | [] => Nat.zero_le _
  | d :: l => by
    have := deeds_dep l
    simp only [List.map_cons, NestedKey.depthAll, dK, NestedKey.depth, ints_dep]
    omega
theorem key_row {H : Hp} {R : Addr} {r : Rw} (h : RwAt H R r) : KeyN H (.ref R) (rowK r) := by
  obtain ⟨D, rs, e1, e2, e3⟩ := h
  refine ⟨.tup e1 (.cons (.num _) (.cons (.tup e2 (nk_deeds e3)) (.cons (.num _) .nil))), ?_, R, rfl⟩
  have := deeds_dep r.ds
  simp only [rowK, NestedKey.depth, NestedKey.depthAll]
  omega
theorem stK_dep (row : MRow) : NestedKey.depthAll (row.map fun e => NestedKey.tup [.num e.1, .num e.2]) ≤ 1 := by
  induction row with
  | nil => exact Nat.zero_le _
  | cons x row ih =>
    simp only [List.map_cons, NestedKey.depthAll, NestedKey.depth]
    omega
theorem sts_dep : ∀ lm : List MRow, NestedKey.depthAll (lm.map stK) ≤ 2
  | [] => Nat.zero_le _
  | r :: lm => by
    have a := stK_dep r
    have b := sts_dep lm
    simp only [List.map_cons, NestedKey.depthAll, stK, NestedKey.depth] at a b ⊢
    omega
theorem key_look {H : Hp} {T : Addr} {m : Nat} {lm : List MRow} (h : NkAt H (lookK m lm) (.ref T)) : KeyN H (.ref T) (lookK m lm) := by
  refine ⟨h, ?_, T, rfl⟩
  have := sts_dep lm
  simp only [lookK, NestedKey.depth, NestedKey.depthAll]
  omega
/-- looks that are kept -/
structure LkE (H : Hp) (e : NE) : Prop where
  ex : ∃ (r : Rw) (lm : List MRow) (T : Addr), e.1 = rowK r ∧ e.2.2 = .ref T ∧ NkAt H (lookK r.m.toNat lm) (.ref T) ∧ LmOk r.m.toNat r.ds r.o lm
def LkAt (P : Program) (w : World) (H : Hp) (Lk : Addr) (n : Nat) : Prop := ∃ xs, ND P w H Lk xs ∧ xs.length ≤ n ∧ ∀ e ∈ xs, LkE H e
theorem LkE.stay {H H' : Hp} {e : NE} (h : LkE H e) (t : TupsStay H H') : LkE H' e := by
  obtain ⟨r, lm, T, h1, h2, h3, h4⟩ := h.ex
  exact ⟨r, lm, T, h1, h2, nk_stay t _ _ h3, h4⟩
theorem LkAt.stay {P : Program} {w : World} {H H' : Hp} {Lk : Addr} {n : Nat} (h : LkAt P w H Lk n) (k : ∀ o, H Lk = some o → H' Lk = some o) (t : TupsStay H H') : LkAt P w H' Lk n := by
  obtain ⟨xs, h1, h2, h3⟩ := h
  exact ⟨xs, nd_stay h1 (k _ h1.ob) t, h2, fun e he => (h3 e he).stay t⟩
theorem LkAt.same {P : Program} {w : World} {H H' : Hp} {Lk : Addr} {n : Nat} (h : LkAt P w H Lk n) (s : Same H H') : LkAt P w H' Lk n := h.stay (fun o e => s _ _ e) (Same.tups s)
/-- a look found, or none -/
theorem look_found {H : Hp} {xs : List NE} {r : Rw} {v : V} (h : ∀ e ∈ xs, LkE H e) (e : getN xs (rowK r) = some v) : ∃ (lm : List MRow) (T : Addr), v = .ref T ∧ NkAt H (lookK r.m.toNat lm) (.ref T) ∧ LmOk r.m.toNat r.ds r.o lm := by
  obtain ⟨b, hb⟩ := getN_some e
  obtain ⟨r', lm, T, h1, h2, h3, h4⟩ := (h _ hb).ex
  have h1' : rowK r = rowK r' := h1
  have h2' : v = .ref T := h2
  obtain rfl := rowK_inj h1'
  exact ⟨lm, T, h2', h3, h4⟩
/-! a dict by nested keys made by a comprehension -/
section dcnit
variable {J : It} {n : Nat} {G : Hp → Prop} {Y : Nat → Hp → V → Hp → Prop}
theorem dcn_it {P : Program} {w0 : World} (w : Walk J n G Y) {g : TG} {tt : TT} {tk tv : TE} {vs : List Nat} {σ : L2.St} {H1 : Hp} {D : Addr} {Qd : Hp → Prop} (Pv : Nat → Hp → Prop) (h0 : Pv 0 (upd H1 D (NDO P w0 D []))) (hG : ∀ i H, i ≤ n → Pv i H → G H)
    (hs : ∀ i x H H', i < n → Pv i H → Y i H x H' → g x (wipe σ vs) H' fun σ2 H2 => wipe σ2 vs = wipe σ vs ∧ tt σ2 H2 fun b H3 =>
      if b = true then tk σ2 H3 fun y H4 => tv σ2 H4 fun z H5 => ∃ xs k b, y = .ref b ∧ ND P w0 H5 D xs ∧ KeyN H5 (.ref b) k ∧ xs.length < sizeLine ∧ Pv (i + 1) (upd H5 D (NDO P w0 D (putN xs k b z))) else Pv (i + 1) H3) (hd : ∀ H, Pv n H → Qd H) :
    ∃ W : Nat → Nat → Hp → Prop, (∃ m, W 0 m (upd H1 D (NDO P w0 D []))) ∧ ∀ i m H, W i m H →
      (J.stop i H ∧ Qd H) ∨ (J.go i H ∧ ∃ Nx : Hp → Prop, (∀ H', Nx H' → ∃ m', m' < m ∧ W (i + 1) m' H') ∧ ∀ x H', J.yld i H x H' → g x (wipe σ vs) H' fun σ2 H2 => wipe σ2 vs = wipe σ vs ∧ tt σ2 H2 fun b H3 =>
        if b = true then tk σ2 H3 fun y H4 => tv σ2 H4 fun z H5 => ∃ xs k b, y = .ref b ∧ ND P w0 H5 D xs ∧ KeyN H5 (.ref b) k ∧ xs.length < sizeLine ∧ Nx (upd H5 D (NDO P w0 D (putN xs k b z))) else Nx H3) := by
  refine ⟨fun i m H => m = n - i ∧ i ≤ n ∧ Pv i H, ⟨n, by simp, Nat.zero_le _, h0⟩, ?_⟩
  rintro i m H ⟨rfl, hi, p⟩
  have q := hG i H hi p
  by_cases hlt : i < n
  · refine .inr ⟨w.goes i H hlt q, Pv (i + 1), fun H' p' => ⟨n - (i + 1), by omega, rfl, hlt, p'⟩, fun x H' y => hs i x H H' hlt p (w.yields i H x H' hlt q y)⟩
  · have e : i = n := by omega
    subst e
    exact .inl ⟨w.stops H q, hd H p⟩
end dcnit
theorem putN_get (xs : List NE) (k j : NestedKey) (b : Addr) (v : V) : getN (putN xs k b v) j = if j = k then some v else getN xs j := by
  unfold putN
  cases e : getN xs k with
  | none =>
    rw [if_neg (by simp)]
    exact getN_snoc e
  | some u =>
    rw [if_pos (show (some u).isSome = true from rfl)]
    have key : ∀ xs : List NE, getN (xs.map fun x => if x.1 = k then (x.1, x.2.1, v) else x) j = if j = k then (getN xs k).map fun _ => v else getN xs j := by
      intro xs
      induction xs with
      | nil =>
        by_cases h : j = k
        · rw [if_pos h]
          rfl
        · rw [if_neg h]
          rfl
      | cons x xs ih =>
        unfold getN at ih ⊢
        rw [List.map_cons, List.find?_cons]
        by_cases hx : x.1 = k
        · rw [if_pos hx]
          by_cases h : j = k
          · subst h
            rw [if_pos rfl]
            simp [List.find?_cons, hx]
          · rw [if_neg h] at ih ⊢
            have n1 : ¬ k = j := fun z => h z.symm
            simp only [List.find?_cons, hx]
            simp only [n1, decide_false]
            exact ih
        · rw [if_neg hx]
          by_cases hj : x.1 = j
          · have h : ¬ j = k := fun z => hx (hj.trans z)
            rw [if_neg h]
            simp [List.find?_cons, hj]
          · by_cases h : j = k
            · subst h
              rw [if_pos rfl] at ih ⊢
              simp only [List.find?_cons, hx, decide_false]
              exact ih
            · rw [if_neg h] at ih ⊢
              simp only [List.find?_cons, hj, decide_false]
              exact ih
    rw [key, e]
    rfl
/-! ### a book's kinds -/
abbrev sBook_kinds : Stmt := inClass c_Book 7
abbrev N_Bk : List Str := ["self", "groups", "name", "look", "row"]
theorem scBk : FnScope N_Bk ["self"] (defScope sBook_kinds) := ⟨rfl, rfl, rfl, by decide +kernel, rfl, by decide +kernel, by decide +kernel⟩
theorem bF_new (Kd Dn Lk D : Addr) : putF "looks" (.ref D) (bF Kd Dn Lk) = bF Kd Dn D := by
  have h1 : (Str.ofString "kept" = Str.ofString "looks") = False := eq_false b_kl
  have h2 : (Str.ofString "done" = Str.ofString "looks") = False := eq_false b_dl
  have h3 : (Str.ofString "kept" = Str.ofString "done") = False := eq_false b_kd
  unfold bF
  simp only [putF, h1, h2, h3, if_false, if_true]
theorem grp_few {κ : Type} [DecidableEq κ] (lab : Str → κ) (ns : List Str) : ∀ g ∈ grpL lab ns, g.2.length ≤ ns.length := by
  have key : ∀ i, i ≤ ns.length → ∀ g ∈ grpL lab (ns.take i), g.2.length ≤ i := by
    intro i
    induction i with
    | zero =>
      intro _ g hg
      rw [List.take_zero] at hg
      cases hg
    | succ i ih =>
      intro hi g hg
      have hg0 := List.getElem?_eq_getElem (show i < ns.length by omega)
      rw [List.take_add_one, hg0] at hg
      have hg1 : g ∈ grpL lab (ns.take i ++ [ns[i]]) := hg
      rw [grpL_snoc] at hg1
      unfold addG at hg1
      split at hg1
      · obtain ⟨g0, h0, rfl⟩ := List.mem_map.mp hg1
        have := ih (by omega) g0 h0
        split
        · show (g0.2 ++ [_]).length ≤ _
          rw [List.length_append]
          exact Nat.add_le_add_right this 1
        · omega
      · rcases List.mem_append.mp hg1 with h | h
        · have := ih (by omega) g h
          omega
        · rw [List.mem_singleton.mp h]
          exact Nat.le_add_left 1 i
  have := key ns.length (Nat.le_refl _)
  rwa [List.take_length] at this
structure GrE (H H0 : Hp) (e : NE) (g : NestedKey × List Str) : Prop where
  key : e.1 = g.1
  lst : ∃ q, e.2.2 = .ref q ∧ H q = some (.lst (g.2.map V.str)) ∧ H0 q = none
theorem gr_stay {H H' H0 : Hp} (k : ∀ (q : Addr) (xs : List V), H q = some (.lst xs) → H' q = some (.lst xs)) {xs : List NE} {gs : Gs NestedKey} (h : Paired (GrE H H0) xs gs) : Paired (GrE H' H0) xs gs :=
  awMap (fun e g z => ⟨z.key, by obtain ⟨q, h1, h2, h3⟩ := z.lst; exact ⟨q, h1, k _ _ h2, h3⟩⟩) h
theorem gr_get {H H0 : Hp} {k : NestedKey} : ∀ {xs : List NE} {gs : Gs NestedKey}, Paired (GrE H H0) xs gs → (gs.map (·.1)).Nodup →
    (getN xs k = none ∧ ∀ g ∈ gs, ¬ g.1 = k) ∨ ∃ (q : Addr) (g : NestedKey × List Str), getN xs k = some (.ref q) ∧ H q = some (.lst (g.2.map V.str)) ∧ g ∈ gs ∧ g.1 = k ∧ ∀ g' ∈ gs, g'.1 = k → g' = g
  | _, _, .nil, _ => .inl ⟨rfl, fun _ z => nomatch z⟩
  | _, _, .cons (a := x) (b := g) (l₁ := xs) (l₂ := gs) h t, nd => by
    rw [List.map_cons, List.nodup_cons] at nd
    obtain ⟨n1, n2⟩ := nd
    by_cases e : g.1 = k
    · refine .inr ?_
      obtain ⟨q, h1, h2, _⟩ := h.lst
      refine ⟨q, g, ?_, h2, List.mem_cons_self, e, fun g' hg' e' => ?_⟩
      · unfold getN
        rw [List.find?_cons, decide_eq_true (h.key.trans e)]
        show some x.2.2 = _
        rw [h1]
      · rcases List.mem_cons.mp hg' with rfl | hg'
        · rfl
        · exact absurd (List.mem_map.mpr ⟨g', hg', e'.trans e.symm⟩) n1
    · have en : getN (x :: xs) k = getN xs k := by
        unfold getN
        rw [List.find?_cons, decide_eq_false fun z => e (h.key.symm.trans z)]
      rw [en]
      rcases gr_get t n2 with ⟨a, b⟩ | ⟨q, g0, a, b, c, d, f⟩
      · refine .inl ⟨a, fun g' hg' => ?_⟩
        rcases List.mem_cons.mp hg' with rfl | hg'
        · exact e
        · exact b g' hg'
      · refine .inr ⟨q, g0, a, b, List.mem_cons_of_mem _ c, d, fun g' hg' e' => ?_⟩
        rcases List.mem_cons.mp hg' with rfl | hg'
        · exact absurd e' e
        · exact f g' hg' e'
theorem gr_put {H H' H0 : Hp} {k : NestedKey} {b q0 : Addr} {t : Str} {xs : List NE} {gs : Gs NestedKey} (h : Paired (GrE H H0) xs gs) (st : ∀ (q : Addr) (xs : List V), H q = some (.lst xs) → H' q = some (.lst xs)) (hq0 : H0 q0 = none)
    (hn : getN xs k = none → H' q0 = some (.lst ([t].map V.str))) (ho : ∀ g ∈ gs, g.1 = k → H' q0 = some (.lst ((g.2 ++ [t]).map V.str))) : Paired (GrE H' H0) (putN xs k b (.ref q0)) (addG gs k t) := by
  have an : (getN xs k).isSome = (gs.any fun g => decide (g.1 = k)) := by
    clear hn ho st
    induction h with
    | nil => rfl
    | cons h1 h2 ih =>
      rename_i x g xs gs
      rw [List.any_cons, ← ih]
      unfold getN
      rw [List.find?_cons, h1.key]
      by_cases e : g.1 = k
      · rw [decide_eq_true e]
        rfl
      · rw [decide_eq_false e]
        rfl
  unfold putN addG
  rw [← an]
  by_cases e : (getN xs k).isSome = true
  · rw [if_pos e, if_pos e]
    clear an hn e
    induction h with
    | nil => exact .nil
    | cons h1 h2 ih =>
      rename_i x g xs gs
      rw [List.map_cons, List.map_cons]
      refine .cons ?_ (ih fun g' hg' => ho g' (List.mem_cons_of_mem _ hg'))
      by_cases e : g.1 = k
      · rw [if_pos (h1.key.trans e), if_pos e]
        exact ⟨h1.key, q0, rfl, ho g List.mem_cons_self e, hq0⟩
      · rw [if_neg fun z => e (h1.key.symm.trans z), if_neg e]
        obtain ⟨q, a, b', c⟩ := h1.lst
        exact ⟨h1.key, q, a, st _ _ b', c⟩
  · rw [if_neg e, if_neg e]
    have e2 : getN xs k = none := by
      cases e3 : getN xs k with
      | none => rfl
      | some _ => rw [e3] at e; exact absurd rfl e
    exact awSnoc (F := GrE H' H0) ⟨rfl, q0, rfl, hn e2, hq0⟩ (gr_stay st h)
abbrev GqAt (H : Hp) : List Addr → List (List Str) → Prop := Paired fun q g => H q = some (.lst (g.map V.str))
def spBk (P : Program) (w : World) (C : Addr) : Sp := fun vs H Q _ => ∃ (p Kd Dn Lk : Addr) (dn : List Dn1) (ks : List Str) (adr : Str → Addr) (rowf : Str → Rw) (n : Nat), vs = [.ref p] ∧ BkAt C H p Kd Dn Lk (kvE (fun t => .ref (adr t)) ks) dn ∧ LkAt P w H Lk n ∧ ks.Nodup ∧ ks.length < 64 ∧ (∀ t ∈ ks, RwAt H (adr t) (rowf t) ∧ RwOk (rowf t)) ∧
  ∀ (H' : Hp) (L D : Addr) (qs : List Addr) (ys : List Str) (lab : Str → List MRow), ys.Perm ks → Up ys → (∀ t ∈ ks, LmOk (rowf t).m.toNat (rowf t).ds (rowf t).o (lab t)) → H' L = some (.lst (qs.map V.ref)) → GqAt H' qs ((grpL (fun t => lookK (rowf t).m.toNat (lab t)) ys).map (·.2)) →
    H L = none → (∀ q ∈ qs, H q = none ∧ q ≠ L) → qs.Nodup → BkAt C H' p Kd Dn D (kvE (fun t => .ref (adr t)) ks) dn → LkAt P w H' D 64 → H D = none → D ≠ L → D ∉ qs → (∀ c o, c ≠ p → H c = some o → H' c = some o) → Q (.ref L) H'
set_option maxHeartbeats 4000000 in
theorem ok_bk {f fN fL C : Addr} {fd fdN fdL : FuncData} {k : Nat} (F : Fun K "kinds" "Book.kinds" sBook_kinds f fd) (T : BCls K mg C)
    (MN : Meth K C "names" fN) (GN : FnOk P w K mg base CX0 (k + 1) fN fdN ["self"] (spBn C)) (bN : Binds K fdN ["self"] [])
    (GL : FnOk P w K mg base CX0 (k + 7) fL fdL ["row"] spLk) (kL : PySem.W.keepIn K (.ref fL) = true) (bL : Binds K fdL ["row"] []) (gL : mg "look_of" = some (.ref fL))
    (ms : mg "sorted" = none) : FnOk P w K mg base CX0 (k + 8) f fd ["self"] (spBk P w C) := by
  refine F.ok scBk (fun vs H Q E h => ?_) (fun cdv A outer s H vs Q E hr h => ?_)
  · obtain ⟨p, Kd, Dn, Lk, dn, ks, adr, rowf, n, rfl, _⟩ := h
    rfl
  · obtain ⟨p, Kd, Dn, Lk, dn, ks, adr, rowf, n, rfl, hb, hlk, nd, h64, hrows, qq⟩ := h
    have hu := hr.units
    have R1 := hr.mono (show k + 1 ≤ k + 7 by omega)
    refine ⟨_, pss_cons (ps_fld (pv 0) (pe_lock (pe_dcN (P := P) (w := w) (own := [("row", 4)]) (g := gName 4) (tv := tOrT K (tNGet1 P w (tFld K (tVar 0) "looks") (tVar 4)) (tCall spLk [] E0 (tCons (tVar 4) tNil))) rfl rfl hu (by rfl) scBk.nd (pi_values (pe_fld (pv 0) rfl)) (blkOk_by (own := [("row", 4)]) (N := N_Bk) (sc := defScope sBook_kinds) (by decide +kernel)) (fun _ _ _ _ _ => pg_name (i := 4) scBk.nd rfl (Or.inl rfl)) (fun _ _ _ _ _ => pts_nil) (fun _ _ _ _ _ => pv 4)
        (fun _ _ _ _ _ => pe_orT (pe_ndget1 (P := P) (w := w) rfl rfl hu (pe_fld (pv 0) rfl) (pv 4) ⟨rfl, rfl, rfl, rfl⟩) (pe_one (pe_call GL hr (by rfl) gL kL bL .nil pass0 (pa_cons (pv 4) pa_nil)))))) rfl)
      (pss_cons (ps_set (i := 1) scBk.nd rfl (.inl rfl) (pe_ndnew (P := P) (w := w) rfl rfl))
      (pss_cons (ps_for PassesOwn.never rfl (pi_list (pe_meth0 (pv 0) T.cl MN GN R1 bN .nil pass0)) (pg_name (i := 2) scBk.nd rfl (.inl rfl))
        (pss_cons (ps_set (i := 3) scBk.nd rfl (.inl rfl) (pe_ndget (P := P) (w := w) rfl rfl hu (pe_fld (pv 0) rfl) (pe_dget (hu_of hr) (pe_fld (pv 0) rfl) (pv 2) (fun _ _ => rfl)) (fun _ _ => rfl)))
        (pss_one (ps_ndputA (P := P) (w := w) rfl rfl hu (pv 1) (pv 3) (pe_op op_cat (pe_ndget2 (P := P) (w := w) rfl rfl hu (pv 1) (pv 3) (pe_lst pa_nil) ⟨rfl, rfl, rfl, rfl⟩) (pe_lst (pa_cons (pv 2) pa_nil))) rfl))))
      (pss_one (ps_ret (pe_callB (call_sortedVN (P := P) (w := w) rfl rfl (by rfl) hu) (by rfl) ms (by decide +kernel) (pa_cons (pe_nvals (P := P) (w := w) rfl rfl (pv 1)) pa_nil)))))), ?_⟩
    obtain ⟨dx, ob⟩ := hb.ob
    obtain ⟨lx, ndL, _, hlx⟩ := hlk
    have npK : p ≠ Kd := ne_of ob hb.kept (fun z => nomatch z)
    have nLK : Lk ≠ Kd := ne_of ndL.ob hb.kept (fun z => nomatch z)
    have npL : p ≠ Lk := ne_of ob ndL.ob (fun z => nomatch z)
    refine ⟨Kd, _, hb.kept, trivial, fun od => ?_⟩
    have sL : ∀ c o, c ≠ Kd → H c = some o → upd H Kd (.frz od (.dK (kvE (fun t => .ref (adr t)) ks))) c = some o := fun c o n e => by
      rw [upd_ne n]
      exact e
    have eKL : upd H Kd (.frz od (.dK (kvE (fun t => .ref (adr t)) ks))) Kd = some (.frz od (.dK (kvE (fun t => .ref (adr t)) ks))) := upd_same
    generalize upd H Kd (.frz od (.dK (kvE (fun t => .ref (adr t)) ks))) = HL at sL eKL
    have tL : TupsStay H HL := fun c xs e => sL c _ (ne_of e hb.kept (fun z => nomatch z)) e
    have obL := sL _ _ npK ob
    have ndLL : ND P w HL Lk lx := nd_stay ndL (sL _ _ nLK ndL.ob) tL
    have hlxL : ∀ e ∈ lx, LkE HL e := fun e he => (hlx e he).stay tL
    have kl : (kvE (fun t => V.ref (adr t)) ks).length = ks.length := kvE_len _ _
    have hrowsL : ∀ t ∈ ks, RwAt HL (adr t) (rowf t) := fun t ht => tL.row (hrows t ht).1
    refine ⟨.ref p, rfl, p, C, dx, _, _, rfl, obL, T.cl, T.nK, bF_kept _ _ _, Kd, od, _, rfl, eKL, fun D hD => ?_⟩
    have hD0 : H D = none := by
      cases e : H D with
      | none => rfl
      | some o =>
        by_cases z : D = Kd
        · rw [z, eKL] at hD
          cases hD
        · rw [sL _ o z e] at hD
          cases hD
    have sD := same_new (o := NDO P w D []) hD
    refine dcn_it walk_values (fun i H5 => ∃ xs, ND P w H5 D xs ∧ xs.length ≤ i ∧ (∀ e ∈ xs, LkE H5 e) ∧ (∀ (j : Nat) (t : Str), j < i → ks[j]? = some t → (getN xs (rowK (rowf t))).isSome = true) ∧ Same HL H5)
      ⟨[], ⟨upd_same, (fun _ z => nomatch z)⟩, Nat.zero_le _, (fun _ z => nomatch z), (fun j t z => absurd z (Nat.not_lt_zero _)), sD⟩ (fun i H5 _ hp => ?_) (fun i x H5 H6 hi hp hy => ?_) (fun H5 hp => ?_)
    · obtain ⟨_, _, _, _, _, s5⟩ := hp
      exact s5 _ _ eKL
    · obtain ⟨xs, nd5, l5, lk5, in5, s5⟩ := hp
      obtain ⟨rfl, k0, hk0⟩ := hy
      rw [kl] at hi
      have hki : ks[i]? = some ks[i] := List.getElem?_eq_getElem hi
      obtain ⟨t, ht⟩ : ∃ t, t = ks[i] := ⟨_, rfl⟩
      rw [← ht] at hki
      have hx : x = .ref (adr t) := by
        unfold kvE at hk0
        rw [List.getElem?_map, hki] at hk0
        exact (Prod.mk.inj (Option.some.inj hk0)).2.symm
      subst hx
      have htm := List.mem_of_getElem? hki
      have hrow5 : RwAt H6 (adr t) (rowf t) := (Same.tups s5).row (hrowsL t htm)
      have hlen : xs.length < sizeLine := by rw [sizeLine_eq]; omega
      have nDL : D ≠ Lk := (ne_of_none ndLL.ob hD).symm
      have fin : ∀ (H7 : Hp) (T2 : Addr) (lm : List MRow), Same H6 H7 → NkAt H7 (lookK (rowf t).m.toNat lm) (.ref T2) → LmOk (rowf t).m.toNat (rowf t).ds (rowf t).o lm → ∃ xs k b, V.ref (adr t) = .ref b ∧ ND P w H7 D xs ∧ KeyN H7 (.ref b) k ∧ xs.length < sizeLine ∧
          ∃ xs', ND P w (upd H7 D (NDO P w D (putN xs k b (.ref T2)))) D xs' ∧ xs'.length ≤ i + 1 ∧ (∀ e ∈ xs', LkE (upd H7 D (NDO P w D (putN xs k b (.ref T2)))) e) ∧ (∀ (j : Nat) (t : Str), j < i + 1 → ks[j]? = some t → (getN xs' (rowK (rowf t))).isSome = true) ∧ Same HL (upd H7 D (NDO P w D (putN xs k b (.ref T2)))) := fun H7 T2 lm s7 nk lok => by
        have nd7 := nd_same nd5 s7
        have kr := key_row ((Same.tups s7).row hrow5)
        have np := nd_putA (v := .ref T2) nd7 kr
        have tp : TupsStay H7 (upd H7 D (NDO P w D (putN xs (rowK (rowf t)) (adr t) (.ref T2)))) := fun c ys e => by
          rw [upd_ne (ne_of e nd7.ob (fun z => nomatch z))]
          exact e
        have pl := putN_len xs (rowK (rowf t)) (adr t) (.ref T2)
        refine ⟨xs, rowK (rowf t), adr t, rfl, nd7, kr, hlen, _, np, by omega, fun e he => ?_, fun j t' hj ht' => ?_, fun c o z => ?_⟩
        · have new : LkE (upd H7 D (NDO P w D (putN xs (rowK (rowf t)) (adr t) (.ref T2)))) (rowK (rowf t), adr t, .ref T2) := ⟨⟨rowf t, lm, T2, rfl, rfl, nk_stay tp _ _ nk, lok⟩⟩
          unfold putN at he
          split at he
          · obtain ⟨e0, h0, rfl⟩ := List.mem_map.mp he
            by_cases z : e0.1 = rowK (rowf t)
            · rw [if_pos z]
              obtain ⟨⟨r, lm', T', a, b, c, d⟩⟩ := new
              exact ⟨r, lm', T', z.trans a, b, c, d⟩
            · rw [if_neg z]
              exact ((lk5 e0 h0).stay (Same.tups s7)).stay tp
          · rcases List.mem_append.mp he with he | he
            · exact ((lk5 e he).stay (Same.tups s7)).stay tp
            · rw [List.mem_singleton.mp he]
              exact new
        · rw [putN_get]
          by_cases z : rowK (rowf t') = rowK (rowf t)
          · rw [if_pos z]
            rfl
          · rw [if_neg z]
            by_cases y : j = i
            · subst y
              rw [hki] at ht'
              rw [← Option.some.inj ht'] at z
              exact absurd rfl z
            · exact in5 j t' (by omega) ht'
        · have nz : c ≠ D := ne_of_none z hD
          rw [upd_ne nz]
          exact s7 _ _ (s5 _ _ z)
      refine ⟨rfl, .ref (adr t), rfl, .ref p, rfl, p, C, dx, _, _, rfl, s5 _ _ obL, T.cl, T.nL, bF_looks _ _ _, Lk, lx, rfl, nd_same ndLL s5, .ref (adr t), rfl, lx, rowK (rowf t), nd_same ndLL s5, key_row hrow5, ?_⟩
      cases e : getN lx (rowK (rowf t)) with
      | some v =>
        obtain ⟨lm, T2, rfl, nk, lok⟩ := look_found (fun e he => (hlxL e he).stay (Same.tups s5)) e
        obtain ⟨xs2, e2⟩ : ∃ xs2, H6 T2 = some (.tup xs2) ∧ xs2.isEmpty = false := by
          unfold lookK at nk
          cases nk with
          | tup e hs =>
            cases hs with
            | cons a b => exact ⟨_, e, rfl⟩
        refine ⟨true, .inr (.inl ⟨xs2, SqT.of e2.1, by rw [e2.2]; rfl⟩), iteT ?_⟩
        exact fin H6 T2 lm (Same.refl H6) nk lok
      | none =>
        refine ⟨false, rfl, iteF ?_⟩
        have ok := (hrows t htm).2
        have hm : (((rowf t).m.toNat : Nat) : Int) = (rowf t).m := by
          have : (1 : Int) ≤ (rowf t).m := ok.m1
          omega
        refine ⟨.ref (adr t), rfl, adr t, (rowf t).m.toNat, (rowf t).o, (rowf t).ds, rfl, by rw [hm]; exact hrow5, by rw [hm]; exact ok, fun H7 T2 lm s7 lok nk => ?_⟩
        exact fin H7 T2 lm s7 nk lok
    · obtain ⟨xs, nd5, l5, lk5, in5, s5⟩ := hp
      rw [kl] at l5 in5
      refine ⟨s5 _ _ eKL, ?_⟩
      have nDK : D ≠ Kd := fun z => by rw [z, eKL] at hD; cases hD
      have npD : p ≠ D := ne_of_none obL hD
      have k6 : ∀ c o, c ≠ Kd → H5 c = some o → upd H5 Kd (.dK (kvE (fun t => .ref (adr t)) ks)) c = some o := fun c o n e => by
        rw [upd_ne n]
        exact e
      have eK6 : upd H5 Kd (.dK (kvE (fun t => .ref (adr t)) ks)) Kd = some (.dK (kvE (fun t => .ref (adr t)) ks)) := upd_same
      have t6 : TupsStay H5 (upd H5 Kd (.dK (kvE (fun t => .ref (adr t)) ks))) := fun c xs e => k6 c _ (ne_of e (s5 _ _ eKL) (fun z => nomatch z)) e
      have s6 : Same H (upd H5 Kd (.dK (kvE (fun t => .ref (adr t)) ks))) := fun c o e => by
        by_cases z : c = Kd
        · rw [z, hb.kept] at e
          rw [z, ← e]
          exact eK6
        · exact k6 _ _ z (s5 _ _ (sL _ _ z e))
      have nd6 : ND P w (upd H5 Kd (.dK (kvE (fun t => .ref (adr t)) ks))) D xs := nd_stay nd5 (k6 _ _ nDK nd5.ob) t6
      have lk6 := fun e he => (lk5 e he).stay t6
      generalize upd H5 Kd (.dK (kvE (fun t => .ref (adr t)) ks)) = H6 at eK6 s6 nd6 lk6
      clear k6 t6 nd5 lk5 s5 hlxL ndLL obL tL hrowsL eKL sL sD
      refine ⟨.ref p, rfl, p, C, dx, _, rfl, s6 _ _ ob, T.cl, T.nL, (by show 3 < 1000; decide), ?_⟩
      rw [bF_new]
      have k7 : ∀ c o, c ≠ p → H6 c = some o → upd H6 p (.ins C dx (bF Kd Dn D)) c = some o := fun c o n e => by
        rw [upd_ne n]
        exact e
      have eP7 : upd H6 p (.ins C dx (bF Kd Dn D)) p = some (.ins C dx (bF Kd Dn D)) := upd_same
      have t7 : TupsStay H6 (upd H6 p (.ins C dx (bF Kd Dn D))) := fun c xs e => k7 c _ (ne_of e (s6 _ _ ob) (fun z => nomatch z)) e
      generalize upd H6 p (.ins C dx (bF Kd Dn D)) = H7 at k7 eP7 t7
      have keep : ∀ c o, c ≠ p → H c = some o → H7 c = some o := fun c o n e => k7 c o n (s6 _ _ e)
      have fresh : ∀ c, H7 c = none → H c = none := fun c z => by
        cases e : H c with
        | none => rfl
        | some o =>
          by_cases y : c = p
          · rw [y, eP7] at z
            cases z
          · rw [keep c o y e] at z
            cases z
      have tH7 : TupsStay H H7 := fun c xs e => keep c _ (ne_of e ob (fun z => nomatch z)) e
      have nd7 : ND P w H7 D xs := nd_stay nd6 (k7 _ _ npD.symm nd6.ob) t7
      have lk7 : ∀ e ∈ xs, LkE H7 e := fun e he => (lk6 e he).stay t7
      obtain ⟨ts, eDn, hts⟩ := hb.done
      have hb7 : BkAt C H7 p Kd Dn D (kvE (fun t => .ref (adr t)) ks) dn := ⟨⟨dx, eP7⟩, keep _ _ npK.symm hb.kept, ⟨ts, keep _ _ (ne_of eDn ob (fun z => nomatch z)) eDn, awMap (fun _ _ e => tH7 _ _ e) hts⟩, hb.ok, hb.few⟩
      have hrows7 : ∀ t ∈ ks, RwAt H7 (adr t) (rowf t) := fun t ht => tH7.row (hrows t ht).1
      clear t7 tH7 nd6 lk6 hrows hts eDn ndL hlx
      -- what each name's row looks like
      have lookt : ∀ t, ∃ lm : List MRow, t ∈ ks → ∃ T2 : Addr, getN xs (rowK (rowf t)) = some (.ref T2) ∧ NkAt H7 (lookK (rowf t).m.toNat lm) (.ref T2) ∧ LmOk (rowf t).m.toNat (rowf t).ds (rowf t).o lm := fun t => by
        by_cases ht : t ∈ ks
        · obtain ⟨j, hj⟩ := List.mem_iff_getElem?.mp ht
          have jl := (List.getElem?_eq_some_iff.mp hj).1
          have := in5 j t jl hj
          cases e : getN xs (rowK (rowf t)) with
          | none => rw [e] at this; cases this
          | some v =>
            obtain ⟨lm, T2, rfl, nk, lok⟩ := look_found lk7 e
            exact ⟨lm, fun _ => ⟨T2, rfl, nk, lok⟩⟩
        · exact ⟨[], fun z => absurd z ht⟩
      obtain ⟨lab, hlab⟩ : ∃ lab : Str → List MRow, ∀ t, t ∈ ks → ∃ T2 : Addr, getN xs (rowK (rowf t)) = some (.ref T2) ∧ NkAt H7 (lookK (rowf t).m.toNat (lab t)) (.ref T2) ∧ LmOk (rowf t).m.toNat (rowf t).ds (rowf t).o (lab t) := ⟨fun t => (lookt t).choose, fun t => (lookt t).choose_spec⟩
      clear lookt in5
      obtain ⟨lk, hlk⟩ : ∃ lk : Str → NestedKey, lk = fun t => lookK (rowf t).m.toNat (lab t) := ⟨_, rfl⟩
      intro Gd hGd
      have sG := same_new (o := NDO P w Gd []) hGd
      have hGd0 := fresh _ hGd
      have ndG : ND P w (upd H7 Gd (NDO P w Gd [])) Gd [] := nd_nil
      generalize upd H7 Gd (NDO P w Gd []) = H8 at sG ndG
      have nGp : Gd ≠ p := (ne_of_none eP7 hGd).symm
      refine ⟨.ref p, rfl, p, dx, _, rfl, sG _ _ eP7, bF_no _ _ _ (by decide +kernel) (by decide +kernel) (by decide +kernel), p, Kd, Dn, D, _, dn, ks, rfl, hb7.same sG, kvE_keys _ _, h64, fun ys Ln pm srt hLn => ?_⟩
      have hup : Up ys := up_sorted srt (pm.nodup_iff.mpr nd)
      have ymem : ∀ t ∈ ys, t ∈ ks := fun t ht => pm.mem_iff.mp ht
      have yl : ys.length = ks.length := pm.length_eq
      have nLG : Ln ≠ Gd := (ne_of_none ndG.ob hLn).symm
      have sN := same_new (o := .lst (ys.map V.str)) hLn
      refine ⟨Ln, rfl, ⟨_, .inl (.inl upd_same)⟩, for_list (K := K) (a := Ln) (xs := ys.map V.str) (fun j σ H9 => ∃ (y2 y3 : Option V) (gx : List NE), σ = [some (.ref p), some (.ref Gd), y2, y3, none] ∧ ND P w H9 Gd gx ∧ gx.length ≤ j ∧ Paired (GrE H9 H) gx (grpL lk (ys.take j)) ∧ ∀ c o, c ≠ Gd → upd H8 Ln (.lst (ys.map V.str)) c = some o → H9 c = some o)
        ⟨none, none, [], rfl, nd_same ndG sN, Nat.zero_le _, .nil, fun _ _ _ z => z⟩ (fun j σ H9 _ hp => ?_) (fun j x σ H9 hx hp => ?_) (fun σ H9 hp => ?_)⟩
      · obtain ⟨_, _, _, _, _, _, _, st⟩ := hp
        exact .inl (.inl (st _ _ nLG upd_same))
      · obtain ⟨y2, y3, gx, rfl, nd9, l9, gr9, st⟩ := hp
        rw [List.getElem?_map] at hx
        obtain ⟨t, ht, rfl⟩ := Option.map_eq_some_iff.mp hx
        have tm := ymem t (List.mem_of_getElem? ht)
        have jl := (List.getElem?_eq_some_iff.mp ht).1
        obtain ⟨T2, g2, nk2, lok⟩ := hlab t tm
        have s79 : ∀ c o, c ≠ Gd → H7 c = some o → H9 c = some o := fun c o n e => st c o n (sN _ _ (sG _ _ e))
        have t79 : TupsStay H7 H9 := fun c xs e => s79 c _ (ne_of_none e hGd) e
        have obj9 := s79 _ _ nGp.symm eP7
        have nd9D : ND P w H9 D xs := nd_stay nd7 (s79 _ _ (ne_of_none nd7.ob hGd) nd7.ob) t79
        have dg : DGet H9 Kd (.str t) (some (.ref (adr t))) := by
          have := DGet.k (k := Sum.inr t) (s79 _ _ (ne_of_none hb7.kept hGd) hb7.kept)
          rw [kvE_val, if_pos tm] at this
          exact this
        have nkl : NkAt H9 (lk t) (.ref T2) := by rw [hlk]; exact nk_stay t79 _ _ nk2
        have ky : KeyN H9 (.ref T2) (lk t) := by rw [hlk] at nkl ⊢; exact key_look nkl
        have nds : ((grpL lk (ys.take j)).map (·.1)).Nodup := (grp_ok lk (hup.sublist (List.take_sublist j ys))).nd
        refine ⟨.ref p, rfl, p, C, dx, _, _, rfl, obj9, T.cl, T.nL, bF_looks _ _ _, .ref p, rfl, p, C, dx, _, _, rfl, obj9, T.cl, T.nK, bF_kept _ _ _, .str t, rfl, Kd, .ref (adr t), rfl, dg, D, xs, rowK (rowf t), .ref T2, rfl, nd9D, key_row (t79.row (hrows7 t tm)), g2, ?_⟩
        refine ⟨.ref Gd, rfl, Gd, gx, rfl, nd9, .ref T2, rfl, (by show 0 ≤ sizeLine; decide), fun Z hZ => ?_⟩
        have sZ := same_new (o := .lst []) hZ
        refine ⟨gx, lk t, nd_same nd9 sZ, ⟨nk_stay (Same.tups sZ) _ _ ky.1, ky.2.1, T2, rfl⟩, ?_⟩
        have grZ := gr_stay (fun q xs e => sZ _ _ e) gr9
        have eZ : upd H9 Z (.lst []) Z = some (.lst []) := upd_same
        have ndZ := nd_same nd9 sZ
        have kyZ : KeyN (upd H9 Z (.lst [])) (.ref T2) (lk t) := ⟨nk_stay (Same.tups sZ) _ _ ky.1, ky.2.1, T2, rfl⟩
        have stZ : ∀ c o, c ≠ Gd → upd H8 Ln (.lst (ys.map V.str)) c = some o → upd H9 Z (.lst []) c = some o := fun c o n e => sZ _ _ (st c o n e)
        generalize upd H9 Z (.lst []) = H10 at grZ eZ ndZ kyZ stZ
        -- what stands there
        obtain ⟨q, old, eq, eo, hn, ho⟩ : ∃ (q : Addr) (old : List Str), (getN gx (lk t)).getD (.ref Z) = .ref q ∧ H10 q = some (.lst (old.map V.str)) ∧ (getN gx (lk t) = none → old = []) ∧ ∀ g ∈ grpL lk (ys.take j), g.1 = lk t → g.2 = old := by
          rcases gr_get (k := lk t) grZ nds with ⟨a, b⟩ | ⟨q, g, a, b, c, d, e⟩
          · exact ⟨Z, [], by rw [a]; rfl, eZ, fun _ => rfl, fun g hg e => absurd e (b g hg)⟩
          · exact ⟨q, g.2, by rw [a]; rfl, b, (fun z => by rw [a] at z; cases z), fun g' hg' e' => by rw [e g' hg' e']⟩
        have ol : old.length ≤ 64 := by
          by_cases hnn : getN gx (lk t) = none
          · rw [hn hnn]
            exact Nat.zero_le _
          · rcases gr_get (k := lk t) grZ nds with ⟨a, _⟩ | ⟨q', g, _, _, c, d, _⟩
            · exact absurd a hnn
            · rw [← ho g c d]
              have := grp_few lk (ys.take j) g c
              rw [List.length_take] at this
              omega
        rw [eq]
        refine ⟨.str t, rfl, (by show 1 ≤ sizeLine; decide), fun Y hY => ?_⟩
        have sY := same_new (o := .lst [.str t]) hY
        refine ⟨q, Y, _, _, rfl, rfl, sY _ _ eo, upd_same, (by rw [List.length_map]; exact Nat.le_of_lt (small1000 (by show old.length + 1 ≤ 1000; omega))), fun U hU => ?_⟩
        have sU := same_new (o := .lst (old.map V.str ++ [.str t])) hU
        have s12 := sY.trans sU
        have eU : upd (upd H10 Y (.lst [.str t])) U (.lst (old.map V.str ++ [.str t])) U = some (.lst ((old ++ [t]).map V.str)) := by
          rw [upd_same, List.map_append]
          rfl
        have hU0 : H U = none := by
          have nU : upd (upd H10 Y (.lst [.str t])) U (.lst (old.map V.str ++ [.str t])) U ≠ none := fun z => by rw [eU] at z; cases z
          cases e : H U with
          | none => rfl
          | some o =>
            exfalso
            have : H10 U = none := sY.free hU
            by_cases z : U = p
            · rw [z, stZ _ _ nGp.symm (sN _ _ (sG _ _ eP7))] at this
              cases this
            · have y : H7 U = some o := keep U o z e
              rw [stZ _ _ (ne_of_none y hGd) (sN _ _ (sG _ _ y))] at this
              cases this
        generalize upd (upd H10 Y (.lst [.str t])) U (.lst (old.map V.str ++ [.str t])) = H11 at s12 eU
        have nd11 := nd_same ndZ s12
        have ky11 : KeyN H11 (.ref T2) (lk t) := ⟨nk_stay (Same.tups s12) _ _ kyZ.1, kyZ.2.1, T2, rfl⟩
        refine ⟨.ref Gd, rfl, .ref T2, rfl, Gd, gx, lk t, T2, rfl, nd11, rfl, ky11, by rw [sizeLine_eq]; omega, ?_⟩
        have np := nd_putA (v := .ref U) nd11 ky11
        have tk : ys.take (j + 1) = ys.take j ++ [t] := by
          rw [List.take_add_one, ht]
          rfl
        refine ⟨_, _, _, rfl, np, Nat.le_trans (putN_len _ _ _ _) (by omega), ?_, fun c o n e => ?_⟩
        · rw [tk, grpL_snoc]
          have up11 : ∀ (q : Addr) (xs : List V), H11 q = some (.lst xs) → upd H11 Gd (NDO P w Gd (putN gx (lk t) T2 (.ref U))) q = some (.lst xs) := fun q xs e => by
            rw [upd_ne (ne_of e nd11.ob (fun z => nomatch z))]
            exact e
          exact gr_put grZ (fun q xs e => up11 _ _ (s12 _ _ e)) hU0 (fun z => by rw [up11 _ _ eU, hn z]; rfl) (fun g hg e => by rw [up11 _ _ eU, ho g hg e])
        · rw [upd_ne n]
          exact s12 _ _ (stZ c o n e)
      · obtain ⟨y2, y3, gx, rfl, nd9, l9, gr9, st⟩ := hp
        rw [List.length_map, List.take_length] at gr9
        rw [List.length_map] at l9
        have gok := grp_ok lk hup
        have gl := awLen gr9
        refine ⟨.ref Gd, rfl, Gd, gx, rfl, nd9.ob, fun vp hvp => ?_⟩
        have sv := same_new (o := valsO vp Gd) hvp
        have grv := gr_stay (fun q xs e => sv _ _ e) gr9
        have ndv := sv _ _ nd9.ob
        refine ⟨vp, Gd, gx, (grpL lk ys).map (·.2), rfl, upd_same, ndv, ?_, gok.firsts, by rw [List.length_map]; omega, fun L hL => ?_⟩
        · refine prOf (by rw [List.length_map]; exact gl) fun i e g he hg => ?_
          rw [List.getElem?_map] at hg
          obtain ⟨g0, hg0, rfl⟩ := Option.map_eq_some_iff.mp hg
          obtain ⟨g1, h1, h2⟩ := awGet grv he
          rw [hg0] at h1
          obtain rfl := Option.some.inj h1
          obtain ⟨q, a, b, _⟩ := h2.lst
          exact ⟨q, a, b⟩
        have sL := same_new (o := .lst (gx.map (·.2.2))) hL
        obtain ⟨qs, hqs⟩ : ∃ qs : List Addr, gx.map (·.2.2) = qs.map V.ref := by
          clear ndv hvp hL sv sL nd9 l9 gl
          have key : ∀ {gx : List NE} {gs : Gs NestedKey} {G : Hp}, Paired (GrE G H) gx gs → ∃ qs : List Addr, gx.map (·.2.2) = qs.map V.ref := by
            intro gx gs G h
            induction h with
            | nil => exact ⟨[], rfl⟩
            | cons h1 _ ih =>
              obtain ⟨qs, e⟩ := ih
              obtain ⟨q, a, _⟩ := h1.lst
              exact ⟨q :: qs, by rw [List.map_cons, List.map_cons, e, a]⟩
          exact key gr9
        have stv : ∀ c o, c ≠ Gd → H7 c = some o → upd (upd H9 vp (valsO vp Gd)) L (.lst (gx.map (·.2.2))) c = some o := fun c o n e => sL _ _ (sv _ _ (st c o n (sN _ _ (sG _ _ e))))
        have sub7 : ∀ c o, H7 c = some o → c ≠ Gd := fun c o e => ne_of_none e hGd
        have hL0 : H L = none := by
          cases e : H L with
          | none => rfl
          | some o =>
            exfalso
            have h9 : H9 L = none := sv.free hL
            by_cases z : L = p
            · rw [z, st _ _ nGp.symm (sN _ _ (sG _ _ eP7))] at h9
              cases h9
            · have y : H7 L = some o := keep L o z e
              rw [st _ _ (sub7 _ _ y) (sN _ _ (sG _ _ y))] at h9
              cases h9
        have grL := gr_stay (fun q xs e => sL _ _ e) grv
        have qat : GqAt (upd (upd H9 vp (valsO vp Gd)) L (.lst (gx.map (·.2.2)))) qs ((grpL lk ys).map (·.2)) := by
          have ql : qs.length = gx.length := by
            have := congrArg List.length hqs
            rw [List.length_map, List.length_map] at this
            omega
          refine prOf (by rw [List.length_map]; omega) fun i q g hq hg => ?_
          rw [List.getElem?_map] at hg
          obtain ⟨g0, hg0, rfl⟩ := Option.map_eq_some_iff.mp hg
          obtain ⟨e, he, h2⟩ := awGet2 grL hg0
          obtain ⟨q', a, b, _⟩ := h2.lst
          have : (qs.map V.ref)[i]? = some e.2.2 := by rw [← hqs, List.getElem?_map, he]; rfl
          rw [List.getElem?_map, hq] at this
          have e2 : V.ref q = e.2.2 := Option.some.inj this
          rw [a] at e2
          rw [V.ref.inj e2]
          exact b
        have qnew : ∀ q ∈ qs, H q = none ∧ q ≠ L := fun q hq => by
          obtain ⟨i, hi⟩ := List.mem_iff_getElem?.mp hq
          have : (gx.map (·.2.2))[i]? = some (.ref q) := by rw [hqs, List.getElem?_map, hi]; rfl
          rw [List.getElem?_map] at this
          obtain ⟨e, he, e2⟩ := Option.map_eq_some_iff.mp this
          obtain ⟨g, hg, h2⟩ := awGet grv he
          obtain ⟨q', a, b, c⟩ := h2.lst
          rw [a] at e2
          obtain rfl := V.ref.inj e2
          exact ⟨c, fun z => by rw [z] at b; rw [b] at hL; cases hL⟩
        have hD9 := st _ _ (sub7 _ _ nd7.ob) (sN _ _ (sG _ _ nd7.ob))
        have qD : D ∉ qs := fun hq => by
          obtain ⟨i, hi⟩ := List.mem_iff_getElem?.mp hq
          obtain ⟨g, _, b⟩ := awGet qat hi
          have b' : upd (upd H9 vp (valsO vp Gd)) L (.lst (gx.map (·.2.2))) D = some (.lst (g.map V.str)) := b
          rw [sL _ _ (sv _ _ hD9)] at b'
          cases b'
        have DL : D ≠ L := ne_of_none (sv _ _ hD9) hL
        have tv : TupsStay H7 (upd (upd H9 vp (valsO vp Gd)) L (.lst (gx.map (·.2.2)))) := fun c xs e => stv _ _ (sub7 _ _ e) e
        have hbf : BkAt C (upd (upd H9 vp (valsO vp Gd)) L (.lst (gx.map (·.2.2)))) p Kd Dn D (kvE (fun t => .ref (adr t)) ks) dn := hb7.stay (fun c o _ e => stv c o (sub7 _ _ e) e) tv
        have lkf : LkAt P w (upd (upd H9 vp (valsO vp Gd)) L (.lst (gx.map (·.2.2)))) D 64 := ⟨xs, nd_stay nd7 (stv _ _ (sub7 _ _ nd7.ob) nd7.ob) tv, by omega, fun e he => (lk7 e he).stay tv⟩
        have keepf : ∀ c o, c ≠ p → H c = some o → upd (upd H9 vp (valsO vp Gd)) L (.lst (gx.map (·.2.2))) c = some o := fun c o n e => stv c o (sub7 _ _ (keep c o n e)) (keep c o n e)
        have eL : upd (upd H9 vp (valsO vp Gd)) L (.lst (gx.map (·.2.2))) L = some (.lst (qs.map V.ref)) := by rw [upd_same, hqs]
        generalize upd (upd H9 vp (valsO vp Gd)) L (.lst (gx.map (·.2.2))) = HF at qat hbf lkf keepf eL
        rw [hlk] at qat
        refine qq HF L D qs ys lab pm hup (fun t ht => by obtain ⟨_, _, _, z⟩ := hlab t ht; exact z) eL qat hL0 qnew ?_ hbf lkf hD0 DL qD keepf
        -- lists of unlike names are unlike lists
        rw [← hlk] at qat
        have fs := gok.firsts
        rw [List.nodup_iff_pairwise_ne, List.pairwise_iff_getElem]
        intro i j hi hj hij e
        obtain ⟨g1, a1, b1⟩ := awGet qat (List.getElem?_eq_getElem hi)
        obtain ⟨g2, a2, b2⟩ := awGet qat (List.getElem?_eq_getElem hj)
        have b1' : HF qs[i] = some (.lst (g1.map V.str)) := b1
        have b2' : HF qs[j] = some (.lst (g2.map V.str)) := b2
        rw [e, b2'] at b1'
        have i1 := (List.getElem?_eq_some_iff.mp a1).1
        have j1 := (List.getElem?_eq_some_iff.mp a2).1
        have := List.pairwise_iff_getElem.mp fs i j i1 j1 hij
        rw [(List.getElem?_eq_some_iff.mp a1).2, (List.getElem?_eq_some_iff.mp a2).2] at this
        obtain ⟨x, r, y, u, rfl, rfl, lt⟩ := this
        have := HO.lst.inj (Option.some.inj b1')
        rw [List.map_cons, List.map_cons] at this
        have e3 := V.str.inj (List.cons.inj this).1
        rw [e3] at lt
        exact sLt_irr _ lt
/-! ### _law_kinds -/
structure GrF (H H0 : Hp) (e : Key × V) (g : Nat × List Str) : Prop where
  key : e.1 = Sum.inl (g.1 : Int)
  lst : ∃ q, e.2 = .ref q ∧ H q = some (.lst (g.2.map V.str)) ∧ H0 q = none
theorem grf_stay {H H' H0 : Hp} (k : ∀ (q : Addr) (xs : List V), H q = some (.lst xs) → H' q = some (.lst xs)) {xs : Kvs} {gs : Gs Nat} (h : Paired (GrF H H0) xs gs) : Paired (GrF H' H0) xs gs :=
  awMap (fun e g z => ⟨z.key, by obtain ⟨q, h1, h2, h3⟩ := z.lst; exact ⟨q, h1, k _ _ h2, h3⟩⟩) h
theorem strs_inj : ∀ {a b : List Str}, a.map V.str = b.map V.str → a = b
  | [], [], _ => rfl
  | [], _ :: _, h => by cases h
  | _ :: _, [], h => by cases h
  | x :: a, y :: b, h => by
    rw [List.map_cons, List.map_cons] at h
    injection h with h1 h2
    rw [V.str.inj h1, strs_inj h2]
theorem grf_get {H H0 : Hp} {k : Nat} : ∀ {xs : Kvs} {gs : Gs Nat}, Paired (GrF H H0) xs gs →
    (valV xs (Sum.inl (k : Int)) = none ∧ ∀ g ∈ gs, ¬ g.1 = k) ∨ ∃ (i : Nat) (q : Addr) (g : Nat × List Str), valV xs (Sum.inl (k : Int)) = some (.ref q) ∧ xs[i]? = some (Sum.inl (k : Int), .ref q) ∧ gs[i]? = some g ∧ g.1 = k ∧ H q = some (.lst (g.2.map V.str))
  | _, _, .nil => .inl ⟨rfl, fun _ z => nomatch z⟩
  | _, _, .cons (a := x) (b := g) (l₁ := xs) (l₂ := gs) h t => by
    by_cases e : g.1 = k
    · obtain ⟨q, h1, h2, _⟩ := h.lst
      have hx : x = (Sum.inl (k : Int), V.ref q) := Prod.ext (by rw [h.key, e]) h1
      exact .inr ⟨0, q, g, by rw [hx]; exact valV_pos rfl, by rw [hx]; rfl, rfl, e, h2⟩
    · have en : valV (x :: xs) (Sum.inl (k : Int)) = valV xs (Sum.inl (k : Int)) := valV_neg fun z => e (by
        rw [h.key] at z
        have := Sum.inl.inj z
        exact_mod_cast this)
      rw [en]
      rcases grf_get (k := k) t with ⟨a, b⟩ | ⟨i, q, g0, a, b, c, d, f⟩
      · refine .inl ⟨a, fun g' hg' => ?_⟩
        rcases List.mem_cons.mp hg' with rfl | hg'
        · exact e
        · exact b g' hg'
      · exact .inr ⟨i + 1, q, g0, a, b, c, d, f⟩
theorem grf_old {H H0 : Hp} {k i0 : Nat} {q : Addr} {t : Str} {xs : Kvs} {gs : Gs Nat} {g0 : Nat × List Str} (h : Paired (GrF H H0) xs gs) (nk : (gs.map (·.1)).Nodup) (nv : (xs.map (·.2)).Nodup) (hx : xs[i0]? = some (Sum.inl (k : Int), .ref q)) (hg : gs[i0]? = some g0) (e0 : g0.1 = k)
    : Paired (GrF (upd H q (.lst (g0.2.map V.str ++ [.str t]))) H0) xs (addG gs k t) := by
  have ha : (gs.any fun g => decide (g.1 = k)) = true := addG_any.mpr (List.mem_map.mpr ⟨g0, List.mem_of_getElem? hg, e0⟩)
  unfold addG
  rw [if_pos ha]
  refine prOf (by rw [List.length_map]; exact awLen h) fun i e g he hge => ?_
  rw [List.getElem?_map] at hge
  obtain ⟨g1, hg1, rfl⟩ := Option.map_eq_some_iff.mp hge
  obtain ⟨g1', a, z⟩ := awGet h he
  rw [hg1] at a
  obtain rfl := Option.some.inj a
  obtain ⟨q', b, c, d⟩ := z.lst
  by_cases e1 : g1.1 = k
  · rw [if_pos e1]
    have ii : i = i0 := nd_idx nk (x := k) (by rw [List.getElem?_map, hg1]; exact congrArg some e1) (by rw [List.getElem?_map, hg]; exact congrArg some e0)
    subst ii
    rw [hg] at hg1
    obtain rfl := Option.some.inj hg1
    rw [hx] at he
    obtain rfl := Option.some.inj he
    refine ⟨z.key, q, rfl, ?_, ?_⟩
    · rw [upd_same]
      show _ = some (HO.lst ((g0.2 ++ [t]).map V.str))
      rw [List.map_append]
      rfl
    · rw [V.ref.inj b]
      exact d
  · rw [if_neg e1]
    have nq : q' ≠ q := fun y => by
      subst y
      have ii : i = i0 := nd_idx nv (x := V.ref q') (by rw [List.getElem?_map, he]; exact congrArg some b) (by rw [List.getElem?_map, hx]; rfl)
      subst ii
      rw [hg] at hg1
      obtain rfl := Option.some.inj hg1
      exact e1 e0
    exact ⟨z.key, q', b, by rw [upd_ne nq]; exact c, d⟩
def spLkd : Sp := fun vs H Q _ => ∃ (S Cl : Addr) (ks : List Str) (sf : Str → Nat) (cls : List Nat), vs = [.ref S, .ref Cl] ∧ H S = some (.dK (kvE (fun t => .int (sf t : Int)) ks)) ∧ H Cl = some (.lst (nV cls)) ∧ ks.Nodup ∧ ks.length < 64 ∧ (∀ t ∈ ks, sf t < cls.length) ∧
  ∀ (H' : Hp) (L : Addr) (qs : List Addr) (ys : List Str), ys.Perm ks → Up ys → H' L = some (.lst (qs.map V.ref)) → GqAt H' qs ((grpL (fun t => cls.getD (sf t) 0) ys).map (·.2)) → Same H H' → Q (.ref L) H'
set_option maxHeartbeats 2000000 in
theorem ok_lkd {f : Addr} {fd : FuncData} {k : Nat} (F : Fun K "_law_kinds" "_law_kinds" s_law_kinds f fd) (ms : mg "sorted" = none) : FnOk P w K mg base CX0 (k + 1) f fd ["state", "classes"] spLkd := by
  refine F.ok sc_law_kinds (fun vs H Q E h => ?_) (fun cdv A outer s H vs Q E hr h => ?_)
  · obtain ⟨S, Cl, ks, sf, cls, rfl, _⟩ := h
    rfl
  · obtain ⟨S, Cl, ks, sf, cls, rfl, eS, eCl, nd, h64, hsf, qq⟩ := h
    have hu := hu_of hr
    refine ⟨_, pss_cons (ps_set (i := 2) sc_law_kinds.nd rfl (.inr rfl) pe_dnewK)
      (pss_cons (ps_for PassesOwn.never rfl (pi_list (pe_callB (call_sortedD rfl) (by rfl) ms (by decide +kernel) (pa_cons (pv 0) pa_nil))) (pg_name (i := 3) sc_law_kinds.nd rfl (.inl rfl))
        (pss_one (ps_expr (pe_bm PySem.F.plainAttrs_list PySem.F.slot_list_append PySem.F.type_list_append mt_append (pe_dsetd (pv 2) (pe_ix ix_list (pv 1) (pe_dget hu (pv 0) (pv 3) (fun _ _ => rfl)) (fun _ _ => rfl)) (pe_lst pa_nil) ⟨rfl, rfl, rfl, rfl⟩) (pa_cons (pv 3) pa_nil)))))
      (pss_one (ps_ret (pe_lock (pe_lc (own := [("one", 4)]) (g := gName 4) (by rfl) sc_law_kinds.nd (pi_keys (pv 2)) (blkOk_by (own := [("one", 4)]) (N := N_law_kinds) (sc := defScope s_law_kinds) (by decide +kernel)) (fun _ _ _ _ _ => (pg_name (i := 4) sc_law_kinds.nd rfl (.inl rfl))) (fun _ _ _ _ _ => pts_nil) (fun _ _ _ _ _ => (pe_dget hu (pv 2) (pv 4) (fun _ _ => rfl)))))))), ?_⟩
    intro Fd hFd
    have sF := same_new (o := .dK []) hFd
    have eF : upd H Fd (.dK []) Fd = some (.dK []) := upd_same
    generalize upd H Fd (.dK []) = H1 at sF eF
    refine ⟨.ref S, rfl, S, _, ks, rfl, .inl (sF _ _ eS), kvE_keys _ _, h64, fun ys Ln pm srt hLn => ?_⟩
    have hup : Up ys := up_sorted srt (pm.nodup_iff.mpr nd)
    have ymem : ∀ t ∈ ys, t ∈ ks := fun t ht => pm.mem_iff.mp ht
    have yl : ys.length = ks.length := pm.length_eq
    obtain ⟨lk, hlk⟩ : ∃ lk : Str → Nat, lk = fun t => cls.getD (sf t) 0 := ⟨_, rfl⟩
    have sN := same_new (o := .lst (ys.map V.str)) hLn
    have nLF : Ln ≠ Fd := (ne_of_none eF hLn).symm
    have eN : upd H1 Ln (.lst (ys.map V.str)) Ln = some (.lst (ys.map V.str)) := upd_same
    generalize upd H1 Ln (.lst (ys.map V.str)) = H2 at sN eN
    have s02 := sF.trans sN
    refine ⟨Ln, rfl, ⟨_, .inl (.inl eN)⟩, for_list (K := K) (a := Ln) (xs := ys.map V.str) (fun j σ H9 => ∃ (y3 : Option V) (kv : Kvs), σ = [some (.ref S), some (.ref Cl), some (.ref Fd), y3, none] ∧ H9 Fd = some (.dK kv) ∧ kv.length ≤ j ∧ (kv.map (·.2)).Nodup ∧ Paired (GrF H9 H2) kv (grpL lk (ys.take j)) ∧ ∀ c o, c ≠ Fd → H2 c = some o → H9 c = some o)
      ⟨none, [], rfl, sN _ _ eF, Nat.zero_le _, List.nodup_nil, .nil, fun _ _ _ z => z⟩ (fun j σ H9 _ hp => ?_) (fun j x σ H9 hx hp => ?_) (fun σ H9 hp => ?_)⟩
    · obtain ⟨_, _, _, _, _, _, _, st⟩ := hp
      exact .inl (.inl (st _ _ nLF eN))
    · obtain ⟨y3, kv, rfl, eF9, l9, nv9, gr9, st⟩ := hp
      rw [List.getElem?_map] at hx
      obtain ⟨t, ht, rfl⟩ := Option.map_eq_some_iff.mp hx
      have tm := ymem t (List.mem_of_getElem? ht)
      have jl := (List.getElem?_eq_some_iff.mp ht).1
      have ecl := hsf t tm
      have dg : DGet H9 S (.str t) (some (.int (sf t : Int))) := by
        have := DGet.k (k := Sum.inr t) (st _ _ (ne_of_none (o := .dK (kvE (fun t => .int (sf t : Int)) ks)) eS hFd) (s02 _ _ eS))
        rw [kvE_val, if_pos tm] at this
        exact this
      have eCl9 := st _ _ (ne_of_none eCl hFd) (s02 _ _ eCl)
      have elk : lk t = cls[sf t] := by
        rw [hlk]
        show cls.getD (sf t) 0 = _
        rw [List.getD_eq_getElem?_getD, List.getElem?_eq_getElem ecl]
        rfl
      have nds : ((grpL lk (ys.take j)).map (·.1)).Nodup := (grp_ok lk (hup.sublist (List.take_sublist j ys))).nd
      have tk : ys.take (j + 1) = ys.take j ++ [t] := by
        rw [List.take_add_one, ht]
        rfl
      refine ⟨.ref Fd, rfl, Fd, rfl, .inl ⟨kv, .inl eF9⟩, .ref Cl, rfl, .ref S, rfl, .str t, rfl, S, .int (sf t : Int), rfl, dg, Cl, _, _, .int ((lk t : Nat) : Int), rfl, rfl, .inl (.inl eCl9), atI_nat (by unfold nV; rw [List.getElem?_map, List.getElem?_eq_getElem ecl, elk]; rfl), (by show 0 ≤ sizeLine; decide), fun Z hZ => ?_⟩
      have sZ := same_new (o := .lst []) hZ
      have eZ : upd H9 Z (.lst []) Z = some (.lst []) := upd_same
      have nZF : Z ≠ Fd := (ne_of_none eF9 hZ).symm
      have hZ2 : H2 Z = none := by
        cases e : H2 Z with
        | none => rfl
        | some o => rw [st _ _ nZF e] at hZ; cases hZ
      generalize upd H9 Z (.lst []) = H10 at sZ eZ
      have eF10 := sZ _ _ eF9
      have gr10 := grf_stay (fun q xs e => sZ _ _ e) gr9
      refine ⟨kv, Sum.inl ((lk t : Nat) : Int), eF10, rfl, by rw [sizeLine_eq]; omega, fun v hv => ?_, fun hv => ?_⟩
      · rcases grf_get (k := lk t) gr10 with ⟨a, _⟩ | ⟨i0, q, g, a, b, c, d, eq⟩
        · rw [a] at hv
          cases hv
        rw [a] at hv
        obtain rfl := Option.some.inj hv
        have gl := grp_few lk (ys.take j) g (List.mem_of_getElem? c)
        rw [List.length_take] at gl
        refine ⟨.inl ⟨rfl, _, .inl (.inl eq)⟩, .str t, rfl, q, _, .str t, rfl, rfl, eq, by rw [List.length_map]; exact small1000 (by omega), ?_⟩
        refine ⟨_, kv, rfl, by rw [upd_ne (ne_of eF10 eq (fun z => nomatch z))]; exact eF10, by omega, nv9, ?_, fun c0 o n e => ?_⟩
        · rw [tk, grpL_snoc]
          exact grf_old gr10 nds nv9 b c d
        · obtain ⟨g', hg', z⟩ := awGet gr10 b
          obtain ⟨q', e1, _, e3⟩ := z.lst
          rw [← V.ref.inj e1] at e3
          rw [upd_ne (ne_of_none e e3)]
          exact sZ _ _ (st c0 o n e)
      · rcases grf_get (k := lk t) gr10 with ⟨a, b⟩ | ⟨i0, q, g, a, _⟩
        · have nin : ¬ ((grpL lk (ys.take j)).any fun g => decide (g.1 = lk t)) = true := fun z => by
            obtain ⟨g, h1, h2⟩ := List.any_eq_true.mp z
            exact b g h1 (of_decide_eq_true h2)
          have hput : putK kv (Sum.inl ((lk t : Nat) : Int)) (.ref Z) = kv ++ [(Sum.inl ((lk t : Nat) : Int), .ref Z)] := by
            unfold putK
            rw [if_neg]
            intro z
            obtain ⟨e, h1, h2⟩ := List.any_eq_true.mp z
            unfold valV at hv
            rw [Option.map_eq_none_iff, List.find?_eq_none] at hv
            exact hv e h1 h2
          rw [hput]
          have eZ11 : upd H10 Fd (.dK (kv ++ [(Sum.inl ((lk t : Nat) : Int), .ref Z)])) Z = some (.lst []) := by
            rw [upd_ne nZF]
            exact eZ
          refine ⟨.inl ⟨rfl, _, .inl (.inl eZ11)⟩, .str t, rfl, Z, _, .str t, rfl, rfl, eZ11, (by show 0 < sizeLine; decide), ?_⟩
          refine ⟨_, _, rfl, by rw [upd_ne nZF.symm]; exact upd_same, by rw [List.length_append]; exact Nat.add_le_add_right l9 1, ?_, ?_, fun c0 o n e => ?_⟩
          · rw [List.map_append]
            refine List.nodup_append.mpr ⟨nv9, by simp, fun x hx y hy e => ?_⟩
            rw [List.map_singleton, List.mem_singleton] at hy
            obtain ⟨e0, h0, rfl⟩ := List.mem_map.mp hx
            obtain ⟨i, hi⟩ := List.mem_iff_getElem?.mp h0
            obtain ⟨g, _, z⟩ := awGet gr9 hi
            obtain ⟨q, e1, e2, _⟩ := z.lst
            rw [hy] at e
            have e' : e0.2 = V.ref Z := e
            rw [e1] at e'
            rw [V.ref.inj e'] at e2
            rw [e2] at hZ
            cases hZ
          · rw [tk, grpL_snoc]
            unfold addG
            rw [if_neg nin]
            refine awSnoc (F := GrF _ H2) ⟨rfl, Z, rfl, by rw [upd_same]; rfl, hZ2⟩ (grf_stay (fun q xs e => ?_) gr9)
            have nq : q ≠ Z := ne_of_none e hZ
            rw [upd_ne nq, upd_ne (ne_of e eF9 (fun z => nomatch z))]
            exact sZ _ _ e
          · have nc : c0 ≠ Z := ne_of_none e hZ2
            rw [upd_ne nc, upd_ne n]
            exact sZ _ _ (st c0 o n e)
        · rw [a] at hv
          cases hv
    · obtain ⟨y3, kv, rfl, eF9, l9, nv9, gr9, st⟩ := hp
      rw [List.length_map, List.take_length] at gr9
      rw [List.length_map] at l9
      refine ⟨Fd, _, eF9, trivial, fun od => ?_⟩
      have eFL : upd H9 Fd (.frz od (.dK kv)) Fd = some (.frz od (.dK kv)) := upd_same
      have sL : ∀ c o, c ≠ Fd → H9 c = some o → upd H9 Fd (.frz od (.dK kv)) c = some o := fun c o n e => by
        rw [upd_ne n]
        exact e
      generalize upd H9 Fd (.frz od (.dK kv)) = HL at eFL sL
      refine ⟨.ref Fd, rfl, Fd, od, rfl, .inl ⟨kv, eFL, fun C hC => ?_⟩⟩
      have sC := same_new (o := .lst []) hC
      have gl := awLen gr9
      refine lc_it walk_keys (fun i H10 => ∃ qs : List Addr, H10 C = some (.lst (qs.map V.ref)) ∧ qs.map V.ref = (kv.take i).map (·.2) ∧ Same HL H10) ⟨[], upd_same, rfl, sC⟩ (fun i H10 _ hp => hp.choose_spec.2.2 _ _ eFL) (fun i x H10 H11 hi hp hy => ?_) (fun H10 hp => ?_)
      · obtain ⟨qs, eC, eq, s10⟩ := hp
        obtain ⟨rfl, k0, v0, hk, rfl⟩ := hy
        obtain ⟨g, hg, z⟩ := awGet gr9 hk
        obtain ⟨q, e1, e2, _⟩ := z.lst
        have e1' : v0 = .ref q := e1
        subst e1'
        have kn : (kv.map (·.1)).Nodup := by
          have e : kv.map (·.1) = (grpL lk ys).map fun g => Sum.inl (g.1 : Int) := by
            have key : ∀ {kv : Kvs} {gs : Gs Nat}, Paired (GrF H9 H2) kv gs → kv.map (·.1) = gs.map fun g => Sum.inl (g.1 : Int) := by
              intro kv gs h
              induction h with
              | nil => rfl
              | cons h1 _ ih => rw [List.map_cons, List.map_cons, h1.key, ih]
            exact key gr9
          rw [e]
          have nn := (grp_ok lk hup).nd
          rw [List.nodup_iff_pairwise_ne, List.pairwise_map] at nn ⊢
          exact nn.imp fun {a b} h y => h (by
            have := Sum.inl.inj y
            exact_mod_cast this)
        have hv : valV kv k0 = some (.ref q) := by
          unfold valV
          have hf : kv.find? (fun kv => decide (kv.1 = k0)) = some (k0, .ref q) := by
            cases e : kv.find? (fun kv => decide (kv.1 = k0)) with
            | none =>
              rw [List.find?_eq_none] at e
              exact absurd (decide_eq_true rfl) (e _ (List.mem_of_getElem? hk))
            | some p =>
              have h1 := List.mem_of_find?_eq_some e
              have h2 : p.1 = k0 := of_decide_eq_true (List.find?_some (p := fun kv : Key × V => decide (kv.1 = k0)) e)
              obtain ⟨j, hj⟩ := List.mem_iff_getElem?.mp h1
              have ij : j = i := nd_idx kn (x := k0) (by rw [List.getElem?_map, hj]; exact congrArg some h2) (by rw [List.getElem?_map, hk]; rfl)
              rw [ij, hk] at hj
              rw [Option.some.inj hj]
          rw [hf]
          rfl
        have dg : DGet H11 Fd (kV k0) (some (.ref q)) := .inl ⟨kv, k0, .inr ⟨od, s10 _ _ eFL⟩, rfl, hv.symm⟩
        have ql : qs.length ≤ 64 := by
          have := congrArg List.length eq
          rw [List.length_map, List.length_map, List.length_take] at this
          omega
        refine ⟨rfl, .ref Fd, rfl, kV k0, rfl, Fd, .ref q, rfl, dg, _, eC, by rw [List.length_map]; exact small1000 (by omega), qs ++ [q], by rw [upd_same, List.map_append]; rfl, by rw [List.map_append, eq, List.take_add_one, hk, List.map_append]; rfl, fun c o z => ?_⟩
        rw [upd_ne (ne_of_none z hC)]
        exact s10 _ _ z
      · obtain ⟨qs, eC, eq, s10⟩ := hp
        rw [List.take_length] at eq
        refine ⟨s10 _ _ eFL, ?_⟩
        have nCF : C ≠ Fd := fun z => by rw [z, eFL] at hC; cases hC
        have stf : ∀ c o, c ≠ Fd → H9 c = some o → upd H10 Fd (.dK kv) c = some o := fun c o n e => by
          rw [upd_ne n]
          exact s10 _ _ (sL _ _ n e)
        refine qq _ C qs ys pm hup (by rw [upd_ne nCF]; exact eC) ?_ (fun c o e => stf _ _ (ne_of_none e hFd) (st _ _ (ne_of_none e hFd) (s02 _ _ e)))
        rw [← hlk]
        have ql : qs.length = kv.length := by
          have := congrArg List.length eq
          rw [List.length_map, List.length_map] at this
          exact this
        refine prOf (by rw [List.length_map]; omega) fun i q g hq hg => ?_
        rw [List.getElem?_map] at hg
        obtain ⟨g0, hg0, rfl⟩ := Option.map_eq_some_iff.mp hg
        obtain ⟨e, he, z⟩ := awGet2 gr9 hg0
        obtain ⟨q', a, b, _⟩ := z.lst
        have : (qs.map V.ref)[i]? = some e.2 := by rw [eq, List.getElem?_map, he]; rfl
        rw [List.getElem?_map, hq] at this
        have e2 : V.ref q = e.2 := Option.some.inj this
        rw [a] at e2
        rw [V.ref.inj e2]
        exact stf _ _ (ne_of b eF9 (fun z => nomatch z)) b
/-! ### a book, and what the law keeps of it -/
def rNeK0 : R2 := fun x y H Q => ∃ (a b : Addr) (kvs : Kvs), x = .ref a ∧ y = .ref b ∧ H a = some (.dK kvs) ∧ H b = some (.dK []) ∧ Q (.bl (!kvs.isEmpty)) H
theorem op_neK0 {X : Cx} (hu : X.A.units + 1 < cLine) : OpR X (compareOp .NotEq) rNeK0 := by
  intro pins s σ H x y v u Q I rx ry h
  obtain ⟨a, b, kvs, rfl, rfl, ea, eb, q⟩ := h
  obtain rfl : v = Value.ref a := rx
  obtain rfl : u = Value.ref b := ry
  obtain ⟨_, ya, va, ra, da⟩ := (show ObjOk X.prog X.w H s.heap a (.dK kvs) from I.hok a _ ea)
  obtain ⟨_, yb, vb, rb, db⟩ := (show ObjOk X.prog X.w H s.heap b (.dK []) from I.hok b _ eb)
  have lb : vb = [] := by cases rb; rfl
  subst lb
  have la := ra.length
  refine PySem.W.keq_ne (knd := mixKind X.prog X.w) (r := true) ya yb da db (by omega) (fun z => ?_) ?_
  · have : va = [] := List.eq_nil_of_length_eq_zero z
    rw [this]
    exact .nil
  · refine ⟨.bl (!kvs.isEmpty), H, I, ?_, q⟩
    cases kvs with
    | nil =>
      cases ra
      rfl
    | cons _ _ =>
      cases ra
      rfl
abbrev Tau := Str → Option Nat
def setT (τ : Tau) (t : Str) (o : Option Nat) : Tau := fun x => if x = t then o else τ x
theorem setT_set (τ : Tau) (t : Str) (a b : Option Nat) : setT (setT τ t a) t b = setT τ t b := by
  funext x
  unfold setT
  by_cases h : x = t
  · rw [if_pos h, if_pos h]
  · rw [if_neg h, if_neg h, if_neg h]
theorem setT_self (τ : Tau) (t : Str) : setT τ t (τ t) = τ := by
  funext x
  unfold setT
  by_cases h : x = t
  · rw [if_pos h, h]
  · rw [if_neg h]
theorem setT_at (τ : Tau) (t : Str) (o : Option Nat) : setT τ t o t = o := if_pos rfl
structure KsOk (τ : Tau) (ks : List Str) : Prop where
  nd : ks.Nodup
  mem : ∀ x, x ∈ ks ↔ (τ x).isSome = true
theorem KsOk.drop {τ : Tau} {ks : List Str} (h : KsOk τ ks) (t : Str) : KsOk (setT τ t none) (keysDrop ks t) := by
  refine ⟨kdrop_nd h.nd t, fun x => ?_⟩
  rw [kdrop_mem, h.mem]
  unfold setT
  by_cases e : x = t
  · rw [if_pos e]
    simp [e]
  · rw [if_neg e]
    simp [e]
theorem KsOk.put {τ : Tau} {ks : List Str} (h : KsOk τ ks) (t : Str) (n : Nat) : KsOk (setT τ t (some n)) (keysPut ks t) := by
  refine ⟨kput_nd h.nd t, fun x => ?_⟩
  rw [kput_mem, h.mem]
  unfold setT
  by_cases e : x = t
  · rw [if_pos e]
    simp [e]
  · rw [if_neg e]
    simp [e]
theorem KsOk.perm {τ : Tau} {ks kb : List Str} (h : KsOk τ ks) (k : KsOk τ kb) : ks.Perm kb := (List.perm_ext_iff_of_nodup h.nd k.nd).mpr fun x => (h.mem x).trans (k.mem x).symm
def gE (g : Nat → V) (τ : Tau) : Str → V := fun t => g ((τ t).getD 0)
theorem kd_drop (g : Nat → V) (τ : Tau) (ks : List Str) (t : Str) : dropK (kvE (gE g τ) ks) (Sum.inr t) = kvE (gE g (setT τ t none)) (keysDrop ks t) := by
  rw [kvE_drop]
  refine kvE_congr fun x hx => ?_
  have := (kdrop_mem.mp hx).1
  unfold gE setT
  rw [if_neg this]
theorem kd_put (g : Nat → V) (τ : Tau) (ks : List Str) (t : Str) (n : Nat) : putK (kvE (gE g τ) ks) (Sum.inr t) (g n) = kvE (gE g (setT τ t (some n))) (keysPut ks t) := by
  rw [kvE_put]
  refine kvE_congr fun x _ => ?_
  unfold gE setT
  by_cases e : x = t
  · rw [if_pos e, if_pos e]
    rfl
  · rw [if_neg e, if_neg e]
theorem kd_val {g : Nat → V} {τ : Tau} {ks : List Str} (h : KsOk τ ks) (t : Str) : valV (kvE (gE g τ) ks) (Sum.inr t) = (τ t).map g := by
  rw [kvE_val]
  cases e : τ t with
  | none =>
    have : ¬ t ∈ ks := fun z => by
      have := (h.mem t).mp z
      rw [e] at this
      cases this
    rw [if_neg this]
    rfl
  | some n =>
    have : t ∈ ks := (h.mem t).mpr (by rw [e]; rfl)
    rw [if_pos this]
    unfold gE
    rw [e]
    rfl
def gI (n : Nat) : V := .int (n : Int)
def gB (Rs : List Addr) (n : Nat) : V := .ref (Rs.getD n 0)
abbrev Ev := Str × Option Nat
def oI : Option Nat → V
  | some n => .int (n : Int)
  | none => .non
def dnE (Rs : List Addr) (e : Ev) : Dn1 := (e.1, e.2.map fun n => Rs.getD n 0)
def Hist : List Ev → Tau → Prop
  | [], _ => True
  | e :: r, τ => (e.2 = none → (τ e.1).isSome = true) ∧ Hist r (setT τ e.1 e.2)
def HistOk (past : List Ev) (τ : Tau) : Prop := Hist past.reverse τ
theorem hist_snoc (past : List Ev) (e : Ev) (τ : Tau) : HistOk (past ++ [e]) τ ↔ (e.2 = none → (τ e.1).isSome = true) ∧ HistOk past (setT τ e.1 e.2) := by
  unfold HistOk
  rw [List.reverse_append]
  exact Iff.rfl
/-- the names and numbers that may be kept -/
def Rng (nms : List Str) (m : Nat) (τ : Tau) : Prop := ∀ t n, τ t = some n → t ∈ nms ∧ n < m
def PaR (nms : List Str) (m : Nat) (past : List Ev) : Prop := ∀ e ∈ past, e.1 ∈ nms ∧ ∀ n, e.2 = some n → n < m
theorem Rng.set {nms : List Str} {m : Nat} {τ : Tau} (h : Rng nms m τ) {t : Str} {o : Option Nat} (ht : t ∈ nms) (ho : ∀ n, o = some n → n < m) : Rng nms m (setT τ t o) := fun x n e => by
  unfold setT at e
  by_cases z : x = t
  · rw [if_pos z] at e
    exact ⟨z ▸ ht, ho n e⟩
  · rw [if_neg z] at e
    exact h x n e
theorem Rng.few {nms : List Str} {m : Nat} {τ : Tau} (h : Rng nms m τ) {ks : List Str} (k : KsOk τ ks) : ks.length ≤ nms.length := subs_len k.nd fun t ht => by
  have := (k.mem t).mp ht
  cases e : τ t with
  | none => rw [e] at this; cases this
  | some n => exact (h t n e).1
structure BS (P : Program) (w : World) (C : Addr) (H : Hp) (p Kd Dn Lk S Pa : Addr) (Rs : List Addr) (nms : List Str) (m : Nat) (τ : Tau) (ks kb : List Str) (past : List Ev) : Prop where
  bk : BkAt C H p Kd Dn Lk (kvE (gE (gB Rs) τ) kb) (past.map (dnE Rs))
  kb : KsOk τ kb
  lk : LkAt P w H Lk 64
  st : H S = some (.dK (kvE (gE gI τ) ks))
  ks : KsOk τ ks
  pa : ∃ ps, H Pa = some (.lst (ps.map V.ref)) ∧ Paired (fun (a : Addr) (e : Ev) => H a = some (.tup [.str e.1, oI e.2])) ps past
  hi : HistOk past τ
  rg : Rng nms m τ
  pr : PaR nms m past
theorem BS.stay {P : Program} {w : World} {C : Addr} {H H' : Hp} {p Kd Dn Lk S Pa : Addr} {Rs : List Addr} {nms : List Str} {m : Nat} {τ : Tau} {ks kb : List Str} {past : List Ev} (h : BS P w C H p Kd Dn Lk S Pa Rs nms m τ ks kb past)
    (k : ∀ x o, (x = p ∨ x = Kd ∨ x = Dn ∨ x = Lk ∨ x = S ∨ x = Pa) → H x = some o → H' x = some o) (t : TupsStay H H') : BS P w C H' p Kd Dn Lk S Pa Rs nms m τ ks kb past := by
  obtain ⟨ps, e1, e2⟩ := h.pa
  exact ⟨h.bk.stay (fun c o z e => k c o (by rcases z with z | z | z; exact .inl z; exact .inr (.inl z); exact .inr (.inr (.inl z))) e) t, h.kb, h.lk.stay (fun o e => k _ _ (by simp) e) t, k _ _ (by simp) h.st, h.ks, ⟨ps, k _ _ (by simp) e1, awMap (fun _ _ e => t _ _ e) e2⟩, h.hi, h.rg, h.pr⟩
theorem BS.same {P : Program} {w : World} {C : Addr} {H H' : Hp} {p Kd Dn Lk S Pa : Addr} {Rs : List Addr} {nms : List Str} {m : Nat} {τ : Tau} {ks kb : List Str} {past : List Ev} (h : BS P w C H p Kd Dn Lk S Pa Rs nms m τ ks kb past) (s : Same H H') : BS P w C H' p Kd Dn Lk S Pa Rs nms m τ ks kb past := h.stay (fun x o _ e => s x o e) (Same.tups s)
/-- the things that change are not one another -/
structure Ap (a c Dn Pa S Kd : Addr) : Prop where
  Da : Dn ≠ a
  Dc : Dn ≠ c
  Pa' : Pa ≠ a
  Pc : Pa ≠ c
  PD : Pa ≠ Dn
  SK : S ≠ Kd
theorem BS.kp {P : Program} {w : World} {C : Addr} {H H' : Hp} {p Kd Dn Lk S Pa a c : Addr} {Rs : List Addr} {nms : List Str} {m : Nat} {τ : Tau} {ks kb : List Str} {past : List Ev} (h : BS P w C H p Kd Dn Lk S Pa Rs nms m τ ks kb past) (wl : WL H a c) (ap : Ap a c Dn Pa S Kd) (k : Kp a c H H') : BS P w C H' p Kd Dn Lk S Pa Rs nms m τ ks kb past := by
  obtain ⟨_, cs, r, s, ea, ec⟩ := id wl
  obtain ⟨dx, ob⟩ := h.bk.ob
  obtain ⟨lx, nd, _⟩ := h.lk
  refine h.stay (fun x o z e => ?_) (fun x xs e => k.tup wl e)
  rcases z with rfl | rfl | rfl | rfl | rfl | rfl
  · exact k _ _ (ne_of ob ea (fun z => nomatch z)) (ne_of ob ec (fun z => nomatch z)) e
  · exact k _ _ (ne_of h.bk.kept ea (fun z => nomatch z)) (ne_of h.bk.kept ec (fun z => nomatch z)) e
  · exact k _ _ ap.Da ap.Dc e
  · exact k _ _ (ne_of nd.ob ea (fun z => nomatch z)) (ne_of nd.ob ec (fun z => nomatch z)) e
  · exact k _ _ (ne_of h.st ea (fun z => nomatch z)) (ne_of h.st ec (fun z => nomatch z)) e
  · exact k _ _ ap.Pa' ap.Pc e
/-! ### good rows as things of any kind -/
abbrev noN : Addr → Prop := fun _ => False
theorem any_ints0 {H : Hp} : ∀ l : List Int, AnyAll noN H (l.map V.int) (l.map PyData.int)
  | [] => .nil
  | x :: l => .cons (.int x) (any_ints0 l)
theorem any_deeds0 {H : Hp} : ∀ {rs : List Addr} {ds : List Deed}, DsAt H rs ds → AnyAll noN H (rs.map V.ref) (ds.map deedD)
  | _, _, .nil => .nil
  | _, _, .cons h t => .cons (.tup (fun z => z) h (.cons (.str _) (any_ints0 _))) (any_deeds0 t)
theorem any_row {H : Hp} {R : Addr} {m o : Int} {ds : List Deed} (h : RowAt H R m ds o) : AnyAt noN H (.ref R) (rowD m ds o) := by
  obtain ⟨D, rs, e1, e2, e3⟩ := h
  exact .tup (fun z => z) e1 (.cons (.int m) (.cons (.tup (fun z => z) e2 (any_deeds0 e3)) (.cons (.int o) .nil)))
theorem deedA_ok {m : Int} {d : Deed} (ok : DeedOk m d) : deedA m (deedD d) = true := by
  show numsA m d.1 (d.2.map PyData.int) = true
  rw [numsA_at ok.word, List.length_map, decide_eq_true rfl, Bool.true_and]
  refine List.all_eq_true.mpr fun x hx => ?_
  obtain ⟨i, hi, rfl⟩ := List.mem_map.mp hx
  obtain ⟨h1, h2⟩ := ok.ahead i hi
  show (decide (0 ≤ i) && decide (i < m)) = true
  rw [decide_eq_true h1, decide_eq_true h2]
  rfl
theorem rowA_ok {m o : Int} {ds : List Deed} (ok : RowOk m ds o) : rowA (rowD m ds o) = true := by
  have l := ok.len
  have o1 := ok.o1
  show (decide (1 ≤ m ∧ m ≤ 3) && (decide ((ds.map deedD).length ≤ 8) && ((deedsA m (ds.map deedD)).all id && (decide (0 ≤ o) && decide (o < m + ((ds.map deedD).length : Nat)))))) = true
  rw [List.length_map, decide_eq_true ⟨ok.m1, ok.m3⟩, decide_eq_true l, decide_eq_true ok.o0, decide_eq_true o1, Bool.true_and, Bool.true_and, Bool.and_true, Bool.and_true]
  refine List.all_eq_true.mpr fun b hb => ?_
  unfold deedsA at hb
  obtain ⟨j, hj, rfl⟩ := List.mem_mapIdx.mp hb
  rw [List.length_map] at hj
  rw [List.getElem_map]
  exact deedA_ok (ok.deeds.each j _ (List.getElem?_eq_getElem hj))
theorem ncb_deed {m : Int} {d : Deed} (h : DeedOk m d) (hm : m ≤ 100) : NcB 18 1 (deedD d) := by
  obtain ⟨h1, h2, h3⟩ := fw_short _ h.word
  refine ncb_tup (b := 5) (k := 0) (fun x hx => ?_) ?_
  · rcases List.mem_cons.mp hx with rfl | hx
    · exact ncb_str h1 h2
    · obtain ⟨i, hi, rfl⟩ := List.mem_map.mp hx
      obtain ⟨i0, i1⟩ := h.ahead i hi
      exact (ncb_int (by omega)).mono (by decide) (by decide)
  · rw [List.length_cons, List.length_map]
    have : (d.2.length : Int) ≤ 2 := h3
    omega
theorem nc_row {m o : Int} {ds : List Deed} (h : RowOk m ds o) : NcB 459 3 (rowD m ds o) := by
  have hm := h.m1
  have hm3 := h.m3
  have hl := h.len
  have ho := h.o0
  have ho1 := h.o1
  refine ncb_tup (b := 152) (k := 2) (fun x hx => ?_) (by simp only [List.length_cons, List.length_nil]; decide)
  simp only [List.mem_cons, List.not_mem_nil, or_false] at hx
  rcases hx with rfl | rfl | rfl
  · exact (ncb_int (by omega)).mono (by decide) (by decide)
  · refine ncb_tup (b := 18) (k := 1) (fun x hx => ?_) ?_
    · obtain ⟨d, hd, rfl⟩ := List.mem_map.mp hx
      obtain ⟨k, hk⟩ := List.mem_iff_getElem?.mp hd
      have hk1 := (List.getElem?_eq_some_iff.mp hk).1
      exact ncb_deed (h.deeds.each k d hk) (by omega)
    · rw [List.length_map]
      omega
  · exact (ncb_int (by omega)).mono (by decide) (by decide)
/-! ### _law_deed_done, and what is there when all is undone -/
def undR : List Ev → Tau → Tau
  | [], τ => τ
  | e :: r, τ => undR r (setT τ e.1 e.2)
def und (past : List Ev) (τ : Tau) : Tau := undR past.reverse τ
theorem und_snoc (past : List Ev) (e : Ev) (τ : Tau) : und (past ++ [e]) τ = und past (setT τ e.1 e.2) := by
  unfold und
  rw [List.reverse_append]
  rfl
theorem und_told (past : List Ev) (t : Str) (o : Option Nat) (τ : Tau) : und (past ++ [(t, τ t)]) (setT τ t o) = und past τ := by
  rw [und_snoc, setT_set, setT_self]
def KBk (a c S Pa Kd Dn : Addr) (H H' : Hp) : Prop := ∀ x o, x ≠ a → x ≠ c → x ≠ S → x ≠ Pa → x ≠ Kd → x ≠ Dn → H x = some o → H' x = some o
def spDd (P : Program) (w : World) (C : Addr) : Sp := fun vs H Q _ => ∃ (a c p RL Nm S Pa Kd Dn Lk : Addr) (Rs : List Addr) (rws : List Rw) (nms : List Str) (τ : Tau) (ks kb : List Str) (past : List Ev), vs = [.ref a, .ref p, .ref RL, .ref Nm, .ref S, .ref Pa] ∧ WL H a c ∧ Ap a c Dn Pa S Kd ∧
  (RL ≠ a ∧ RL ≠ c ∧ RL ≠ Pa ∧ RL ≠ Dn) ∧ (Nm ≠ a ∧ Nm ≠ c ∧ Nm ≠ Pa ∧ Nm ≠ Dn) ∧ H RL = some (.lst (Rs.map V.ref)) ∧ Rs.length = 5 ∧ RwsAt H Rs rws ∧ (∀ r ∈ rws, RwOk r) ∧ H Nm = some (.lst (nms.map V.str)) ∧ nms.length = 7 ∧ (∀ t ∈ nms, nameS t = true) ∧
  BS P w C H p Kd Dn Lk S Pa Rs nms 5 τ ks kb past ∧ past.length ≤ 10000 ∧
  ∀ (H' : Hp) (τ' : Tau) (ks' kb' : List Str) (past' : List Ev), WL H' a c → BS P w C H' p Kd Dn Lk S Pa Rs nms 5 τ' ks' kb' past' → past'.length ≤ past.length + 1 → und past' τ' = und past τ → KBk a c S Pa Kd Dn H H' → Q (.bl true) H'
theorem atStr {l : List Str} {z : Int} (h0 : 0 ≤ z) (h1 : z < l.length) : ∃ t, t ∈ l ∧ atI (l.map V.str) z = some (.str t) := by
  obtain ⟨k, rfl⟩ := Int.eq_ofNat_of_zero_le h0
  have hk : k < l.length := by omega
  exact ⟨l[k], List.getElem_mem _, atI_nat (by rw [List.getElem?_map, List.getElem?_eq_getElem hk]; rfl)⟩
theorem prUnsnoc {α β : Type} {F : α → β → Prop} {y : β} : ∀ {l : List α} {k : List β}, Paired F l (k ++ [y]) → ∃ l0 x, l = l0 ++ [x] ∧ Paired F l0 k ∧ F x y
  | [], [], h => by cases h
  | [], _ :: _, h => by cases h
  | [x], [], .cons h _ => ⟨[], x, rfl, .nil, h⟩
  | _ :: _ :: _, [], .cons _ t => by cases t
  | x :: l, y' :: k, .cons h t => by
    obtain ⟨l0, z, rfl, h2, h3⟩ := prUnsnoc t
    exact ⟨x :: l0, z, rfl, .cons h h2, h3⟩
/-! ### defs in which data is shown: the guards are known -/
structure FnG (P : Program) (w : World) (K : PySem.W.Frag) (mg : Str → Option Value) (base : Heap) (k : Nat) (f : Addr) (fd : FuncData) (ps : List Str) (sp : Sp) : Prop where
  len : ∀ vs H Q E, sp vs H Q E → vs.length = ps.length
  run : ∀ (A : Around) (outer : List Env) (s : Shared) (H : Hp) (args : Args) (us : List Value) (vs : List V) (Q : VK) (E : XK), Room k A → A.guards = some [] → Env0 P w K mg base A outer s H → BindsTo s fd args (ps.zip us) → Vals vs us → sp vs H Q E →
    codeAny (model P w) A (.call (.ref f) args) (CR CX0 outer P w H s Q E) s
theorem fun_okG {x qual : Str} {st : Stmt} {f : Addr} {fd : FuncData} {N ps : List Str} {k : Nat} {sp : Sp} (F : Fun K x qual st f fd) (S : FnScope N ps (defScope st)) (len : ∀ vs H Q E, sp vs H Q E → vs.length = ps.length)
    (hbody : ∀ (cdv : Value) (A : Around) (outer : List Env) (s : Shared) (H : Hp) (vs : List V) (Q : VK) (E : XK), Room k (A.deeper (envOfC qual (defScope st) s.heap.objs.size f cdv)) → (A.deeper (envOfC qual (defScope st) s.heap.objs.size f cdv)).guards = some [] → sp vs H Q E →
      ∃ t, PSs (cxOf CX0 P w K mg base N qual (defScope st) f cdv A outer s H E).nox (defBody st) t ∧ t { nx := fun _ H' => Q .non H', rt := Q } (start N vs) H) : FnG P w K mg base (k + 1) f fd ps sp :=
  ⟨len, fun A outer s H args us vs Q E hr hg e0 hb r hs => fn_at F S hr e0 hb r (len _ _ _ _ hs) fun cdv => hbody cdv A outer s H vs Q E (Room.deeper hr _) hg hs⟩
section
variable {X : Cx} {k : Nat} {f : Addr} {fd : FuncData} {ps : List Str} {sp : Sp} {x : Str} {p pos : Pos} {e : Expr} {es : List Expr} {t : TA}
theorem run_fnG {pins : List (Addr × Obj)} {σ : L2.St} {H : Hp} {s : Shared} {Q : VK} {us : List Value} {vs : List V} (F : FnG X.prog X.w X.K X.mg X.base k f fd ps sp) (hr : Room k X.A) (hgd : X.A.guards = some []) (hb : Binds X.K fd ps [])
    (I : Inv X pins σ H s) (r : Vals vs us) (h : sp vs H Q E0) : wpAny (model X.prog X.w) X.A (call (.ref f) us) (EP X pins σ Q) X.xe s := by
  have hl : us.length = ps.length := by rw [← r.length]; exact F.len _ _ _ _ h
  have b := hb s us I.kIn (by rw [List.append_nil]; exact hl)
  rw [List.append_nil] at b
  refine wpAny_call (codeAny_mono (F.run X.A X.stack s H ⟨us, []⟩ us vs Q E0 hr hgd I.env0 b r h) fun r s' hq => ?_)
  cases r with
  | error e => exact False.elim hq
  | ok fl =>
    cases fl with
    | ret u => exact I.after hq
    | next => exact False.elim hq
    | brk => exact False.elim hq
    | cont => exact False.elim hq
theorem pe_callG (F : FnG X.prog X.w X.K X.mg X.base k f fd ps sp) (hr : Room k X.A) (hgd : X.A.guards = some []) (hg : Gl X x) (hm : X.mg x = some (.ref f)) (hk : PySem.W.keepIn X.K (.ref f) = true) (hb : Binds X.K fd ps [])
    (ha : PA X (e :: es) t) (hdb : (x == ("__debug__" : Str)) = false := by decide) (he : starEach (e :: es) X.env = (false, eval e X.env) :: starEach es X.env := by rfl) (hpl : (backTo pos (starEach es X.env)).any (·.1) = false := by rfl) :
    PE X (.Call (.Name x p) (e :: es) [] pos) (tCallS sp (fun _ => E0) t) := by
  refine ⟨fun pins s σ H Q I h => ?_⟩
  refine wpAny_Call_Name_kw (ld_glob I hg hm ?_ hdb)
  refine PySem.W.callWith_K (h₀ := X.base) I.ok.mod.kin hk (thn (ha.run pos pins s σ H _ I h) fun us s1 ⟨vs, H1, I1, r, q⟩ => ⟨I1.kIn, ?_⟩) he hpl
  exact run_fnG F hr hgd hb I1 r q
end
/-- a statement that is never reached -/
theorem pss_never {X : Cx} {l : List Stmt} : PSs X l (fun _ _ _ => False) := ⟨fun _ _ _ _ _ _ h => h.elim⟩
theorem fn_or {CX : CXT} {k : Nat} {f : Addr} {fd : FuncData} {ps : List Str} {sp sp2 : Sp} (a : FnOk P w K mg base CX k f fd ps sp) (b : FnOk P w K mg base CX k f fd ps sp2) : FnOk P w K mg base CX k f fd ps (fun vs H Q E => sp vs H Q E ∨ sp2 vs H Q E) :=
  ⟨fun vs H Q E h => h.elim (a.len vs H Q E) (b.len vs H Q E), fun A outer s H args us vs Q E hr e0 hb r h => h.elim (a.run A outer s H args us vs Q E hr e0 hb r) (b.run A outer s H args us vs Q E hr e0 hb r)⟩
/-! ### what of a book is shown; _law_looked -/
def TxOk (t : Str) : Prop := t.cps.size ≤ 8 ∧ (t.cps.toList.all fun c => decide (c < 1114112)) = true
theorem TxOk.small {t : Str} (h : TxOk t) : (t.cps.toList.all fun c => decide (c < 16 ^ 8)) = true := List.all_eq_true.mpr fun c hc => decide_eq_true (Nat.lt_trans (of_decide_eq_true (List.all_eq_true.mp h.2 c hc)) (by decide))
theorem let_small : (letS.cps.toList.all fun c => decide (c < 1114112)) = true := by decide +kernel
theorem name_tx {t : Str} (h : nameS t = true) : TxOk t := by
  refine ⟨nameS_len h, ?_⟩
  unfold nameS at h
  rw [Bool.and_eq_true] at h
  refine List.all_eq_true.mpr fun c hc => ?_
  have h1 := List.all_eq_true.mp h.2 c hc
  have h2 : c ∈ letS.cps.toList := of_decide_eq_true h1
  exact List.all_eq_true.mp let_small c h2
theorem zz_tx : TxOk "zz" := by
  refine ⟨by decide +kernel, by decide +kernel⟩
def nmD (ys : List Str) : PyData := .list (ys.map PyData.str)
def kdD (gs : List (List Str)) : PyData := .list (gs.map nmD)
theorem nice_nm {ys : List Str} (h : ∀ t ∈ ys, TxOk t) (hl : ys.length ≤ 70) : Nice 630 1 (nmD ys) := by
  refine nice_lst (b := 8) (k := 0) (fun x hx => ?_) (by rw [List.length_map]; omega)
  obtain ⟨t, ht, rfl⟩ := List.mem_map.mp hx
  exact nice_str (h t ht).1 (h t ht).small
theorem nice_kd {gs : List (List Str)} (h : ∀ g ∈ gs, g.length ≤ 70 ∧ ∀ t ∈ g, TxOk t) (hl : gs.length ≤ 70) : Nice 44170 2 (kdD gs) := by
  refine nice_lst (b := 630) (k := 1) (fun x hx => ?_) (by rw [List.length_map]; omega)
  obtain ⟨g, hg, rfl⟩ := List.mem_map.mp hx
  exact nice_nm (h g hg).2 (h g hg).1
theorem nodict_nm (ys : List Str) : (nmD ys).hasDict = false := by
  have : ∀ ys : List Str, PyData.hasDictAll (ys.map PyData.str) = false := by
    intro ys
    induction ys with
    | nil => simp only [List.map_nil, PyData.hasDictAll]
    | cons x ys ih => simp only [List.map_cons, PyData.hasDictAll, PyData.hasDict, ih, Bool.or_self]
  unfold nmD
  rw [PyData.hasDict]
  exact this ys
theorem nodict_kd (gs : List (List Str)) : (kdD gs).hasDict = false := by
  have : ∀ gs : List (List Str), PyData.hasDictAll (gs.map nmD) = false := by
    intro gs
    induction gs with
    | nil => simp only [List.map_nil, PyData.hasDictAll]
    | cons x gs ih => simp only [List.map_cons, PyData.hasDictAll, nodict_nm, ih, Bool.or_self]
  unfold kdD
  rw [PyData.hasDict]
  exact this gs
theorem dp_nm {H : Hp} {L : Addr} {ys : List Str} (h : H L = some (.lst (ys.map V.str))) : Dp K H (.ref L) (nmD ys) := .lst (.inl (.inl h)) (dp_strs ys)
theorem dp_gs {H : Hp} : ∀ {qs : List Addr} {gs : List (List Str)}, GqAt H qs gs → DpAll K H (qs.map V.ref) (gs.map nmD)
  | _, _, .nil => .nil
  | _, _, .cons h t => .cons (dp_nm h) (dp_gs t)
theorem dp_kd {H : Hp} {L : Addr} {qs : List Addr} {gs : List (List Str)} (h : H L = some (.lst (qs.map V.ref))) (g : GqAt H qs gs) : Dp K H (.ref L) (kdD gs) := .lst (.inl (.inl h)) (dp_gs g)
theorem ksUp {τ : Tau} {ks kb ys zs : List Str} (h : KsOk τ ks) (k : KsOk τ kb) (py : ys.Perm kb) (sy : sortedS ys = true) (pz : zs.Perm ks) (sz : sortedS zs = true) : ys = zs :=
  up_uniq (py.trans ((h.perm k).symm.trans pz.symm)) (up_sorted sy (py.nodup_iff.mpr k.nd)) (up_sorted sz (pz.nodup_iff.mpr h.nd))
theorem ks_tx {nms : List Str} {m : Nat} {τ : Tau} (h : Rng nms m τ) {ks ys : List Str} (k : KsOk τ ks) (p : ys.Perm ks) (hn : ∀ t ∈ nms, nameS t = true) : ∀ t ∈ ys, TxOk t := fun t ht => by
  have h1 := (k.mem t).mp (p.mem_iff.mp ht)
  cases e : τ t with
  | none => rw [e] at h1; cases h1
  | some n => exact name_tx (hn t (h t n e).1)
/-! ### kinds by looks are kinds by classes; _law_stands -/
section reprk
variable {X : Cx}
/-- repr of data, as a rule that stands under a binder -/
def rReprK (K : PySem.W.Frag) : List V → Hp → VK → Prop := fun xs H Q => ∃ (x : V) (d : PyData), xs = [x] ∧ Dp K H x d ∧ d.hasDict = false ∧ d.showable = true ∧ d.depth ≤ 40 ∧ d.shown.length ≤ sizeLine ∧ Q (.str d.shown) H
theorem call_reprK {K : PySem.W.Frag} (hK : X.K = K) (hg : X.A.guards = some []) (hu : X.A.units + 64 < cLine) : CallR X (.builtin "repr") (rReprK K) := by
  subst hK
  intro pins s σ H xs us Q I r h
  obtain ⟨x, d, h1, h2, h3, h4⟩ := h
  exact call_repr hg hu pins s σ H xs us Q I r ⟨x, d, h1, .inr ⟨h2, h3⟩, h4⟩
end reprk
theorem dp_deedsB {H : Hp} : ∀ {rs : List Addr} {ds : List Deed}, DsAt H rs ds → DpAll K H (rs.map V.ref) (ds.map deedD)
  | _, _, .nil => .nil
  | _, _, .cons h t => .cons (.tup (SqT.of h) (.cons (.str _) (dp_ints _))) (dp_deedsB t)
theorem dp_rowB {H : Hp} {R : Addr} {m o : Int} {ds : List Deed} (h : RowAt H R m ds o) : Dp K H (.ref R) (rowD m ds o) := by
  obtain ⟨D, rs, e1, e2, e3⟩ := h
  exact .tup (SqT.of e1) (.cons (.int m) (.cons (.tup (SqT.of e2) (dp_deedsB e3)) (.cons (.int o) .nil)))
theorem nodict_row (m : Int) (ds : List Deed) (o : Int) : (rowD m ds o).hasDict = false := by
  have hi : ∀ c : List Int, PyData.hasDictAll (c.map PyData.int) = false := fun c => by
    induction c with
    | nil => simp only [List.map_nil, PyData.hasDictAll]
    | cons x c ih => simp only [List.map_cons, PyData.hasDictAll, PyData.hasDict, ih, Bool.or_self]
  have hd : ∀ ds : List Deed, PyData.hasDictAll (ds.map deedD) = false := fun ds => by
    induction ds with
    | nil => simp only [List.map_nil, PyData.hasDictAll]
    | cons x ds ih => simp only [List.map_cons, PyData.hasDictAll, deedD, PyData.hasDict, hi, ih, Bool.or_self]
  simp only [rowD, PyData.hasDict, PyData.hasDictAll, hd, Bool.or_self]
theorem look_alk {r s : Rw} {a b : List MRow} (hr : RwOk r) (hs : RwOk s) (h1 : LmOk r.m.toNat r.ds r.o a) (h2 : LmOk s.m.toNat s.ds s.o b) : lookK r.m.toNat a = lookK s.m.toNat b ↔ AlkB r s := by
  have m1 : (1 : Int) ≤ r.m := hr.m1
  have m2 : (1 : Int) ≤ s.m := hs.m1
  constructor
  · intro e
    obtain ⟨e1, e2⟩ := lookK_inj e
    have em : r.m = s.m := by omega
    rw [← em] at h2
    exact ⟨em, (lm_eq h1 h2).mp e2⟩
  · rintro ⟨em, h⟩
    rw [← em] at h2
    rw [← em, (lm_eq h1 h2).mpr h]
theorem kinds_same {rws : List Rw} {cls : List Nat} {τ : Tau} {ys : List Str} {lab : Str → List MRow} (hc : ClsOk rws cls) (hok : ∀ r ∈ rws, RwOk r) (rd : Rw) (hτ : ∀ t ∈ ys, ∃ n, τ t = some n ∧ n < rws.length)
    (hl : ∀ t ∈ ys, LmOk (rws.getD ((τ t).getD 0) rd).m.toNat (rws.getD ((τ t).getD 0) rd).ds (rws.getD ((τ t).getD 0) rd).o (lab t)) :
    (grpL (fun t => lookK (rws.getD ((τ t).getD 0) rd).m.toNat (lab t)) ys).map (·.2) = (grpL (fun t => cls.getD ((τ t).getD 0) 0) ys).map (·.2) := by
  refine grp_same fun s hs t ht => ?_
  obtain ⟨n, en, nl⟩ := hτ s hs
  obtain ⟨j, ej, jl⟩ := hτ t ht
  have l1 := hl s hs
  have l2 := hl t ht
  have cl := hc.len
  simp only [en, ej, Option.getD_some] at l1 l2 ⊢
  have g1 : rws[n]? = some (rws.getD n rd) := by rw [List.getD_eq_getElem?_getD, List.getElem?_eq_getElem nl]; rfl
  have g2 : rws[j]? = some (rws.getD j rd) := by rw [List.getD_eq_getElem?_getD, List.getElem?_eq_getElem jl]; rfl
  have c1 : cls[n]? = some (cls.getD n 0) := by rw [List.getD_eq_getElem?_getD, List.getElem?_eq_getElem (show n < cls.length by omega)]; rfl
  have c2 : cls[j]? = some (cls.getD j 0) := by rw [List.getD_eq_getElem?_getD, List.getElem?_eq_getElem (show j < cls.length by omega)]; rfl
  exact (look_alk (hok _ (List.mem_of_getElem? g1)) (hok _ (List.mem_of_getElem? g2)) l1 l2).trans (hc.same c1 c2 g1 g2).symm
theorem grp_tx {κ : Type} [DecidableEq κ] {lab : Str → κ} {ys : List Str} (h : Up ys) (tx : ∀ t ∈ ys, TxOk t) (l : ys.length ≤ 64) : (((grpL lab ys).map (·.2)).length ≤ 70) ∧ ∀ g ∈ (grpL lab ys).map (·.2), g.length ≤ 70 ∧ ∀ t ∈ g, TxOk t := by
  have := grpL_len lab ys
  refine ⟨by rw [List.length_map]; omega, fun g hg => ?_⟩
  obtain ⟨g0, h0, rfl⟩ := List.mem_map.mp hg
  exact ⟨by have := grp_few lab ys g0 h0; omega, fun t ht => tx t ((grp_ok lab h).has g0 h0 t ht).1⟩
/-! ### building things of any kind -/
structure NOk (N : Addr → Prop) (H : Hp) (a c : Addr) : Prop where
  wl : WL H a c
  a : N a
  c : N c
  al : ∀ b, N b → ∃ l, H b = some (.lst l)
section nok
variable {N : Addr → Prop} {H H' : Hp} {a c p : Addr}
theorem NOk.kp (h : NOk N H a c) (k : Kp a c H H') (w : WL H' a c) : NOk N H' a c := ⟨w, h.a, h.c, fun b n => by
  obtain ⟨_, cs, r, s, e1, e2⟩ := w
  by_cases h1 : b = a
  · rw [h1]; exact ⟨_, e1⟩
  by_cases h2 : b = c
  · rw [h2]; exact ⟨_, e2⟩
  obtain ⟨l, e⟩ := h.al b n
  exact ⟨l, k b _ h1 h2 e⟩⟩
theorem NOk.same (h : NOk N H a c) (s : Same H H') : NOk N H' a c := h.kp (Same.kp s) (h.wl.same s)
theorem NOk.free (h : NOk N H a c) (e : H p = none) : ¬ N p := fun n => by
  obtain ⟨l, e2⟩ := h.al p n
  rw [e] at e2
  cases e2
theorem NOk.tup (h : NOk N H a c) {xs : List V} (e : H p = some (.tup xs)) : ¬ N p := fun n => by
  obtain ⟨l, e2⟩ := h.al p n
  rw [e] at e2
  cases e2
theorem NOk.dic (h : NOk N H a c) {xs : List (Key × V)} (e : H p = some (.dK xs)) : ¬ N p := fun n => by
  obtain ⟨l, e2⟩ := h.al p n
  rw [e] at e2
  cases e2
theorem NOk.but (h : NOk N H a c) (k : Kp a c H H') : ButN N H H' := fun b u n e => k b u (fun z => n (z ▸ h.a)) (fun z => n (z ▸ h.c)) e
theorem nok_well (w : WL H a c) : NOk (fun b => b = a ∨ b = c) H a c := ⟨w, .inl rfl, .inr rfl, fun b n => by
  obtain ⟨_, cs, r, s, e1, e2⟩ := w
  rcases n with rfl | rfl
  · exact ⟨_, e1⟩
  · exact ⟨_, e2⟩⟩
theorem same_but (s : Same H H') : ButN N H H' := fun b u _ e => s b u e
theorem any_tupI (h : NOk N H a c) {xs : List V} {ds : List PyData} (e : H p = some (.tup xs)) (hs : AnyAll N H xs ds) : AnyAt N H (.ref p) (.tuple ds) := .tup (h.tup e) e hs
theorem all_app : ∀ {xs ys : List V} {ds es : List PyData}, AnyAll N H xs ds → AnyAll N H ys es → AnyAll N H (xs ++ ys) (ds ++ es)
  | _, _, _, _, .nil, h => h
  | _, _, _, _, .cons x t, h => .cons x (all_app t h)
theorem all_take : ∀ {xs : List V} {ds : List PyData} (k : Nat), AnyAll N H xs ds → AnyAll N H (xs.take k) (ds.take k)
  | _, _, 0, _ => by rw [List.take_zero, List.take_zero]; exact .nil
  | _, _, _ + 1, .nil => .nil
  | _, _, k + 1, .cons x t => .cons x (all_take k t)
theorem all_drop : ∀ {xs : List V} {ds : List PyData} (k : Nat), AnyAll N H xs ds → AnyAll N H (xs.drop k) (ds.drop k)
  | _, _, 0, h => h
  | _, _, _ + 1, .nil => .nil
  | _, _, k + 1, .cons _ t => all_drop k t
theorem all_rev {xs : List V} {ds : List PyData} (h : AnyAll N H xs ds) : AnyAll N H xs.reverse ds.reverse := by
  induction xs generalizing ds with
  | nil => cases h; exact .nil
  | cons x xs ih =>
    cases h with
    | cons h t =>
      rw [List.reverse_cons, List.reverse_cons]
      exact all_app (ih t) (.cons h .nil)
theorem cat_any (no : NOk N H a c) {x y : V} {ds es : List PyData} {Q : VK} (hx : AnyAt N H x (.tuple ds)) (hy : AnyAt N H y (.tuple es)) (hl : ds.length + es.length ≤ 30000) (q : ∀ H' z, Same H H' → AnyAt N H' z (.tuple (ds ++ es)) → Q z H') : rCatZ x y H Q := by
  obtain ⟨a1, xs, rfl, n1, e1, h1⟩ := any_tup hx
  obtain ⟨a2, ys, rfl, n2, e2, h2⟩ := any_tup hy
  refine ⟨a1, a2, xs, ys, rfl, rfl, e1, e2, by rw [all_len h1, all_len h2, sizeLine_eq]; omega, fun p H2 s2 e => ?_⟩
  exact q H2 _ s2 (any_tupI (no.same s2) e (all_stay (same_but s2) (all_app h1 h2)))
theorem take_any (no : NOk N H a c) {x : V} {ds : List PyData} {Q : VK} (hx : AnyAt N H x (.tuple ds)) (k : Nat) (q : ∀ H' z, Same H H' → AnyAt N H' z (.tuple (ds.take k)) → Q z H') : rSlZ x none (some (k : Int)) H Q := by
  obtain ⟨a1, xs, rfl, n1, e1, h1⟩ := any_tup hx
  refine ⟨a1, xs, rfl, e1, fun p H2 s2 e => ?_⟩
  rw [cut_take] at e
  exact q H2 _ s2 (any_tupI (no.same s2) e (all_stay (same_but s2) (all_take k h1)))
theorem drop_any (no : NOk N H a c) {x : V} {ds : List PyData} {Q : VK} (hx : AnyAt N H x (.tuple ds)) (k : Nat) (q : ∀ H' z, Same H H' → AnyAt N H' z (.tuple (ds.drop k)) → Q z H') : rSlZ x (some (k : Int)) none H Q := by
  obtain ⟨a1, xs, rfl, n1, e1, h1⟩ := any_tup hx
  refine ⟨a1, xs, rfl, e1, fun p H2 s2 e => ?_⟩
  rw [cut_drop] at e
  exact q H2 _ s2 (any_tupI (no.same s2) e (all_stay (same_but s2) (all_drop k h1)))
end nok
/-- list(t), at no address of the machine's own -/
def rListN (K : PySem.W.Frag) : List V → Hp → VK → Prop := fun xs H Q => ∃ p ys, xs = [.ref p] ∧ SqT K H p ys ∧ ∀ l, H l = none → l ≠ sysModules → Q (.ref l) (upd H l (.lst ys))
theorem call_listN {X : Cx} : CallR X (.type "list") (rListN X.K) := by
  intro pins s σ H xs us Q I r h
  obtain ⟨p, ys, rfl, hq, q⟩ := h
  obtain ⟨u, rfl, rx⟩ := vals1 r
  cases rx
  obtain ⟨its, r', pl, hz⟩ := I.tuple hq
  have hlen := r'.length
  have big := I.big
  obtain ⟨o, ho, hc, n, hd⟩ := pl
  exact call_list_seq p (.inr rfl) ho hc hd (fun h' c' kp e => ⟨.ref s.heap.objs.size, _, I.laid (t' := s.toks) kp (Nat.le_refl _) (show ObjOk X.prog X.w _ h' _ (.lst ys) from ⟨hz, its, c', r', e⟩), rfl, q _ (I.hok.fresh (Nat.le_refl _)) (Nat.ne_of_gt big)⟩) (by simp only [List.size_toArray] <;> omega)
/-! how much is shown -/
structure NcL (b k : Nat) (xs : List PyData) : Prop where
  sh : PyData.showableAll xs = true
  lv : PyData.leavesShortAll 62 xs = true
  bk : PyData.bulkAll xs ≤ b
  dp : PyData.depthAll xs ≤ k
theorem ncl_nil {b k : Nat} : NcL b k [] := ⟨by simp only [PyData.showableAll], by simp only [PyData.leavesShortAll], by simp only [PyData.bulkAll, Nat.zero_le], by simp only [PyData.depthAll, Nat.zero_le]⟩
theorem ncl_cons {b1 b2 k : Nat} {x : PyData} {xs : List PyData} (h : NcB b1 k x) (t : NcL b2 k xs) : NcL (b1 + b2 + 1) k (x :: xs) := by
  obtain ⟨h1, h2, h3, h4⟩ := h
  obtain ⟨t1, t2, t3, t4⟩ := t
  refine ⟨by simp only [PyData.showableAll, h1, t1, Bool.and_self], by simp only [PyData.leavesShortAll, h2, t2, Bool.and_self], ?_, ?_⟩
  · simp only [PyData.bulkAll]
    omega
  · simp only [PyData.depthAll]
    omega
theorem ncl_cut {b k : Nat} {x : PyData} {xs : List PyData} (h : NcL b k (x :: xs)) : ∃ b1 b2, NcB b1 k x ∧ NcL b2 k xs ∧ b1 + b2 + 1 ≤ b := by
  obtain ⟨h1, h2, h3, h4⟩ := h
  simp only [PyData.showableAll, Bool.and_eq_true] at h1
  simp only [PyData.leavesShortAll, Bool.and_eq_true] at h2
  simp only [PyData.bulkAll] at h3
  simp only [PyData.depthAll] at h4
  exact ⟨x.bulk, PyData.bulkAll xs, ⟨h1.1, h2.1, Nat.le_refl _, by omega⟩, ⟨h1.2, h2.2, Nat.le_refl _, by omega⟩, by omega⟩
theorem NcL.mono {b b2 k k2 : Nat} {xs : List PyData} (h : NcL b k xs) (hb : b ≤ b2) (hk : k ≤ k2) : NcL b2 k2 xs := ⟨h.sh, h.lv, Nat.le_trans h.bk hb, Nat.le_trans h.dp hk⟩
theorem ncl_app {k : Nat} : ∀ {b1 b2 : Nat} {xs ys : List PyData}, NcL b1 k xs → NcL b2 k ys → NcL (b1 + b2) k (xs ++ ys)
  | b1, b2, [], ys, _, h => h.mono (Nat.le_add_left _ _) (Nat.le_refl _)
  | b1, b2, x :: xs, ys, h, g => by
    obtain ⟨c1, c2, h1, h2, h3⟩ := ncl_cut h
    have := ncl_cons h1 (ncl_app h2 g)
    exact this.mono (by omega) (Nat.le_refl _)
theorem ncl_take {k : Nat} : ∀ {b : Nat} {xs : List PyData} (n : Nat), NcL b k xs → NcL b k (xs.take n)
  | b, xs, 0, _ => by rw [List.take_zero]; exact ncl_nil
  | b, [], n + 1, _ => ncl_nil
  | b, x :: xs, n + 1, h => by
    obtain ⟨c1, c2, h1, h2, h3⟩ := ncl_cut h
    exact (ncl_cons h1 (ncl_take n h2)).mono h3 (Nat.le_refl _)
theorem ncl_drop {k : Nat} : ∀ {b : Nat} {xs : List PyData} (n : Nat), NcL b k xs → NcL b k (xs.drop n)
  | b, xs, 0, h => h
  | b, [], n + 1, _ => ncl_nil
  | b, x :: xs, n + 1, h => by
    obtain ⟨c1, c2, h1, h2, h3⟩ := ncl_cut h
    exact (ncl_drop n h2).mono (by omega) (Nat.le_refl _)
theorem ncl_rev {k : Nat} : ∀ {b : Nat} {xs : List PyData}, NcL b k xs → NcL b k xs.reverse
  | b, [], h => h
  | b, x :: xs, h => by
    obtain ⟨c1, c2, h1, h2, h3⟩ := ncl_cut h
    rw [List.reverse_cons]
    exact (ncl_app (ncl_rev h2) (ncl_cons h1 (ncl_nil (b := 0)))).mono (by omega) (Nat.le_refl _)
theorem ncl_tup {b k : Nat} {xs : List PyData} (h : NcL b k xs) : NcB b (k + 1) (.tuple xs) := ⟨by simpa only [PyData.showable] using h.sh, by simpa only [PyData.leavesShort] using h.lv, by simpa only [PyData.bulk] using h.bk, by have := h.dp; simp only [PyData.depth]; omega⟩
theorem ncl_lst {b k : Nat} {xs : List PyData} (h : NcL b k xs) : NcB b (k + 1) (.list xs) := ⟨by simpa only [PyData.showable] using h.sh, by simpa only [PyData.leavesShort] using h.lv, by simpa only [PyData.bulk] using h.bk, by have := h.dp; simp only [PyData.depth]; omega⟩
theorem ncl_of {b k : Nat} {xs : List PyData} (h : NcB b (k + 1) (.tuple xs)) : NcL b k xs := ⟨by simpa only [PyData.showable] using h.sh, by simpa only [PyData.leavesShort] using h.lv, by simpa only [PyData.bulk] using h.bk, by have := h.dp; simp only [PyData.depth] at this; omega⟩
theorem ncb_dicz {b k : Nat} {z d : PyData} (hz : NcB 0 0 z) (h : NcB b k d) : NcB (b + 2) (k + 1) (.dict [(z, d)]) := by
  obtain ⟨h1, h2, h3, h4⟩ := h
  obtain ⟨i1, i2, i3, i4⟩ := hz
  refine ⟨by simp only [PyData.showable, PyData.showableKv, i1, h1, Bool.and_self], by simp only [PyData.leavesShort, PyData.leavesShortKv, i2, h2, Bool.and_self], ?_, ?_⟩
  · simp only [PyData.bulk, PyData.bulkKv]
    omega
  · simp only [PyData.depth, PyData.depthKv]
    omega
theorem ncb_dic1 {b k : Nat} {d : PyData} (h : NcB b k d) : NcB (b + 2) (k + 1) (.dict [(.int 0, d)]) := ncb_dicz (ncb_int (by decide)) h
theorem ncl_len {b k : Nat} {xs : List PyData} (h : NcL b k xs) : xs.length ≤ b := Nat.le_trans (bulk_len xs) h.bk
/-! ### xs == [], list.count of flat things -/
def rEqL0 : R2 := fun x y H Q => ∃ (a b : Addr) (xs : List V), x = .ref a ∧ y = .ref b ∧ H a = some (.lst xs) ∧ H b = some (.lst []) ∧ Q (.bl xs.isEmpty) H
theorem op_eqL0 {X : Cx} (hu : X.A.units + 64 < cLine) : OpR X (compareOp .Eq) rEqL0 := by
  intro pins s σ H x y v u Q I rx ry h
  obtain ⟨a, b, xs, rfl, rfl, ea, eb, q⟩ := h
  cases rx
  cases ry
  obtain ⟨i1, rv1, h1, _⟩ := I.list (.inl (.inl ea))
  obtain ⟨i2, rv2, h2, _⟩ := I.list (.inl (.inl eb))
  cases rv2
  cases rv1 with
  | nil =>
    have r := SeqAt.RcAt.lists (A := X.A) (s := s) (e := fun _ => true) h1.isList h2.isList rfl (by omega) (fun j j1 _ => absurd j1 (by simp))
    exact r _ _ _ _ ⟨.bl true, H, I, rfl, q⟩
  | cons r rs =>
    have r := SeqAt.RcAt.lists_lengths (A := X.A) (s := s) h1.isList h2.isList (by simp) (by omega)
    exact r _ _ _ _ ⟨.bl false, H, I, rfl, q⟩
theorem countP_V {y : V} : ∀ {xs : List V} {us : List Value}, Vals xs us → xs.all flatV = true → us.countP (eqU y) = xs.countP fun z => eqV z y
  | _, _, .nil, _ => rfl
  | x :: xs, u :: us, .cons r t, f => by
    rw [List.all_cons, Bool.and_eq_true] at f
    rw [List.countP_cons, List.countP_cons, countP_V t f.2, eqU_of r f.1]
def rCount (K : PySem.W.Frag) : V → List V → Hp → VK → Prop := fun x xs H Q => ∃ (a : Addr) (ys : List V) (y : V), x = V.ref a ∧ xs = [y] ∧ SqL K H a ys ∧ flatV y = true ∧ ys.all flatV = true ∧ Q (.int ((ys.countP fun z => eqV z y : Nat) : Int)) H
theorem mt_countV {X : Cx} : MtR X "list.count" (rCount X.K) := by
  intro pins s σ H x xs v us Q I rx rxs h
  obtain ⟨a, ys, y, rfl, rfl, hs, fy, fys, q⟩ := h
  cases rx
  cases rxs with
  | cons ry rt =>
    rename_i uy ut
    cases rt
    obtain ⟨its, rv, ⟨⟨cls, dd, data, sl⟩, n, ho, hc, hdn, hd⟩, hlen⟩ := I.list hs
    simp only at hc hd
    subst hc hd
    refine call_meets PySem.F.slot_list_count ⟨_, ho, rfl⟩ PySem.F.entry_list_count (PySem.F.args_list_count_2 _ _)
      (SeqAt.list_countAt a its.toArray n dd sl uy (eqU y)) ⟨ho, fun u' hu' => mem_eqAt ry fy rv fys u' (by simpa using hu'), ?_⟩
    have e : its.toArray.toList.countP (eqU y) = ys.countP fun z => eqV z y := by rw [List.toList_toArray]; exact countP_V rv fys
    exact ⟨.int _, H, I.tok _, ⟨_, by rw [e]⟩, q⟩
def rNotSg : R2 := fun x y H Q => ∃ (c : Nat) (z : Str), x = .str ⟨#[c]⟩ ∧ y = .str z ∧ Q (.bl (!decide (c ∈ z.cps.toList))) H
theorem op_notSg {X : Cx} : OpR X (compareOp .NotIn) rNotSg := op_notIn_sign
/-! ### a row told to a book, and kept here: what changes -/
theorem told_go {C a c p Kd Dn Lk S Pa : Addr} {Rs : List Addr} {nms : List Str} {τ : Tau} {ks kb : List Str} {past : List Ev} {H : Hp} {t : Str} {n : Nat} (hb : BS P w C H p Kd Dn Lk S Pa Rs nms 5 τ ks kb past) (ap : Ap a c Dn Pa S Kd) (wl : WL H a c) (tm : t ∈ nms) (hn : n < 5)
    {U : Addr} (hU : H U = none) : ∃ ps : List Addr, H Pa = some (.lst (ps.map V.ref)) ∧ ps.length = past.length ∧ ∀ H7, H7 = upd (upd H U (.tup [.str t, oI (τ t)])) Pa (.lst (ps.map V.ref ++ [.ref U])) →
      (∀ x o, x ≠ Pa → H x = some o → H7 x = some o) ∧ H7 S = some (.dK (kvE (gE gI τ) ks)) ∧ ∀ H8, H8 = upd H7 S (.dK (putK (kvE (gE gI τ) ks) (Sum.inr t) (.int (n : Int)))) →
      BkAt C H8 p Kd Dn Lk (kvE (gE (gB Rs) τ) kb) (past.map (dnE Rs)) ∧ (∀ x o, x ≠ Pa → x ≠ S → H x = some o → H8 x = some o) ∧ valV (kvE (gE (gB Rs) τ) kb) (Sum.inr t) = (((τ t).map fun n => Rs.getD n 0)).map V.ref ∧
      ∀ H9, BkAt C H9 p Kd Dn Lk (putK (kvE (gE (gB Rs) τ) kb) (Sum.inr t) (.ref (Rs.getD n 0))) (past.map (dnE Rs) ++ [(t, (τ t).map fun n => Rs.getD n 0)]) → KpB p Kd Dn H8 H9 →
        (∃ τ' ks' kb' past', BS P w C H9 p Kd Dn Lk S Pa Rs nms 5 τ' ks' kb' past' ∧ past'.length = past.length + 1 ∧ und past' τ' = und past τ) ∧ WL H9 a c ∧ KBk a c S Pa Kd Dn H H9 := by
  obtain ⟨dx, ob⟩ := hb.bk.ob
  obtain ⟨ps, ePa, hps⟩ := hb.pa
  obtain ⟨lx, ndL, _, hlx⟩ := id hb.lk
  obtain ⟨ts, eDn, hts⟩ := id hb.bk.done
  have npl := awLen hps
  have nSp : S ≠ p := ne_of hb.st ob (fun z => nomatch z)
  have nSPa : S ≠ Pa := ne_of hb.st ePa (fun z => nomatch z)
  have nSDn : S ≠ Dn := ne_of hb.st eDn (fun z => nomatch z)
  have nSLk : S ≠ Lk := ne_of hb.st ndL.ob (fun z => nomatch z)
  have npPa : p ≠ Pa := ne_of ob ePa (fun z => nomatch z)
  have nKPa : Kd ≠ Pa := ne_of hb.bk.kept ePa (fun z => nomatch z)
  have nLPa : Lk ≠ Pa := ne_of ndL.ob ePa (fun z => nomatch z)
  have nLK : Lk ≠ Kd := ne_of ndL.ob hb.bk.kept (fun z => nomatch z)
  have nLD : Lk ≠ Dn := ne_of ndL.ob eDn (fun z => nomatch z)
  refine ⟨ps, ePa, npl, fun H7 e7 => ?_⟩
  have sU := same_new (o := .tup [.str t, oI (τ t)]) hU
  have k07 : ∀ x o, x ≠ Pa → H x = some o → H7 x = some o := fun x o n e => by
    rw [e7, upd_ne n]
    exact sU _ _ e
  have t07 : TupsStay H H7 := fun x xs e => k07 x _ (ne_of e ePa (fun z => nomatch z)) e
  have nUP : U ≠ Pa := (ne_of_none ePa hU).symm
  have eU7 : H7 U = some (.tup [.str t, oI (τ t)]) := by rw [e7, upd_ne nUP, upd_same]
  have ePa7 : H7 Pa = some (.lst ((ps ++ [U]).map V.ref)) := by
    rw [e7, upd_same, List.map_append]
    rfl
  have eS7 := k07 _ _ nSPa hb.st
  refine ⟨k07, eS7, fun H8 e8 => ?_⟩
  have epS : putK (kvE (gE gI τ) ks) (Sum.inr t) (.int (n : Int)) = kvE (gE gI (setT τ t (some n))) (keysPut ks t) := kd_put gI τ ks t n
  rw [epS] at e8
  have k8 : ∀ x o, x ≠ S → H7 x = some o → H8 x = some o := fun x o n e => by
    rw [e8, upd_ne n]
    exact e
  have t8 : TupsStay H7 H8 := fun x xs e => k8 x _ (ne_of e eS7 (fun z => nomatch z)) e
  have eS8 : H8 S = some (.dK (kvE (gE gI (setT τ t (some n))) (keysPut ks t))) := by rw [e8]; exact upd_same
  have t08 : TupsStay H H8 := fun x xs e => t8 _ _ (t07 _ _ e)
  have bk8 : BkAt C H8 p Kd Dn Lk (kvE (gE (gB Rs) τ) kb) (past.map (dnE Rs)) := hb.bk.stay (fun x o z e => by
    rcases z with rfl | rfl | rfl
    · exact k8 _ _ nSp.symm (k07 _ _ npPa e)
    · exact k8 _ _ ap.SK.symm (k07 _ _ nKPa e)
    · exact k8 _ _ nSDn.symm (k07 _ _ ap.PD.symm e)) t08
  have lk8 : LkAt P w H8 Lk 64 := hb.lk.stay (fun o e => k8 _ _ nSLk.symm (k07 _ _ nLPa e)) t08
  have vb : valV (kvE (gE (gB Rs) τ) kb) (Sum.inr t) = (((τ t).map fun n => Rs.getD n 0)).map V.ref := by
    rw [kd_val hb.kb]
    cases τ t <;> rfl
  refine ⟨bk8, fun x o n1 n2 e => k8 _ _ n2 (k07 _ _ n1 e), vb, fun H9 bk9 kp9 => ?_⟩
  have epB : putK (kvE (gE (gB Rs) τ) kb) (Sum.inr t) (.ref (Rs.getD n 0)) = kvE (gE (gB Rs) (setT τ t (some n))) (keysPut kb t) := kd_put (gB Rs) τ kb t n
  rw [epB] at bk9
  have t89 : TupsStay H8 H9 := fun x xs e => by
    obtain ⟨ts8, eD8, _⟩ := bk8.done
    exact kp9 x _ (ne_of e bk8.kept (fun z => nomatch z)) (ne_of e eD8 (fun z => nomatch z)) e
  have t09 : TupsStay H H9 := fun x xs e => t89 _ _ (t08 _ _ e)
  have t79 : TupsStay H7 H9 := fun x xs e => t89 _ _ (t8 _ _ e)
  obtain ⟨nac, csU, rU, sU', eaU, ecU⟩ := id wl
  have nPK : Pa ≠ Kd := nKPa.symm
  refine ⟨⟨setT τ t (some n), keysPut ks t, keysPut kb t, past ++ [(t, τ t)], ⟨?_, hb.kb.put t n, ?_, ?_, hb.ks.put t n, ⟨ps ++ [U], ?_, ?_⟩, ?_, hb.rg.set tm (fun n' e => by obtain rfl := Option.some.inj e; omega), ?_⟩, by rw [List.length_append]; rfl, und_told _ _ _ _⟩, ?_, fun x o n1 n2 n3 n4 n5 n6 e => ?_⟩
  · rw [List.map_append]
    exact bk9
  · exact lk8.stay (fun o e => kp9 _ _ nLK nLD e) t89
  · exact kp9 _ _ ap.SK nSDn eS8
  · exact kp9 _ _ nPK ap.PD (k8 _ _ nSPa.symm ePa7)
  · exact awAppend (awMap (fun _ _ e => t09 _ _ e) hps) (.cons (t79 _ _ eU7) .nil)
  · rw [hist_snoc]
    refine ⟨fun _ => by rw [setT_at]; rfl, ?_⟩
    show HistOk past (setT (setT τ t (some n)) t (τ t))
    rw [setT_set, setT_self]
    exact hb.hi
  · intro e he
    rcases List.mem_append.mp he with he | he
    · exact hb.pr e he
    · rw [List.mem_singleton.mp he]
      exact ⟨tm, fun n' e' => (hb.rg t n' e').2⟩
  · exact ⟨nac, csU, rU, sU', kp9 _ _ (ne_of eaU hb.bk.kept (fun z => nomatch z)) ap.Da.symm (k8 _ _ (ne_of eaU hb.st (fun z => nomatch z)) (k07 _ _ ap.Pa'.symm eaU)), kp9 _ _ (ne_of ecU hb.bk.kept (fun z => nomatch z)) ap.Dc.symm (k8 _ _ (ne_of ecU hb.st (fun z => nomatch z)) (k07 _ _ ap.Pc.symm ecU))⟩
  · exact kp9 _ _ n5 n6 (k8 _ _ n3 (k07 _ _ n4 e))
/-! ### _law_gone_back -/
structure Ap3 (Dn Pa S Kd : Addr) : Prop where
  PD : Pa ≠ Dn
  SK : S ≠ Kd
/-- what changes where a deed is undone, told or done, in a book and as kept here -/
def KB4 (S Pa Kd Dn : Addr) (H H' : Hp) : Prop := ∀ x o, x ≠ S → x ≠ Pa → x ≠ Kd → x ≠ Dn → H x = some o → H' x = some o
def spGb (P : Program) (w : World) (C : Addr) : Sp := fun vs H Q _ => ∃ (p S Pa Kd Dn Lk : Addr) (Rs : List Addr) (nms : List Str) (m : Nat) (τ : Tau) (ks kb : List Str) (past0 : List Ev) (ev : Ev), vs = [.ref p, .ref S, .ref Pa] ∧ Ap3 Dn Pa S Kd ∧ nms.length ≤ 60 ∧
  BS P w C H p Kd Dn Lk S Pa Rs nms m τ ks kb (past0 ++ [ev]) ∧ ∀ (H' : Hp) (τ' : Tau) (ks' kb' : List Str), BS P w C H' p Kd Dn Lk S Pa Rs nms m τ' ks' kb' past0 → und past0 τ' = und (past0 ++ [ev]) τ → KB4 S Pa Kd Dn H H' → Q (.bl true) H'
set_option maxHeartbeats 2000000 in
theorem ok_gb {f fB C : Addr} {fd fdB : FuncData} {k : Nat} (F : Fun K "_law_gone_back" "_law_gone_back" s_law_gone_back f fd) (T : BCls K mg C)
    (MB : Meth K C "back" fB) (GB : FnOk P w K mg base CX0 (k + 1) fB fdB ["self"] (spBb C)) (bB : Binds K fdB ["self"] []) : FnOk P w K mg base CX0 (k + 2) f fd ["book", "state", "past"] (spGb P w C) := by
  refine F.ok sc_law_gone_back (fun vs H Q E h => ?_) (fun cdv A outer s H vs Q E hr h => ?_)
  · obtain ⟨p, S, Pa, Kd, Dn, Lk, Rs, nms, m, τ, ks, kb, past0, ev, rfl, _⟩ := h
    rfl
  · obtain ⟨p, S, Pa, Kd, Dn, Lk, Rs, nms, m, τ, ks, kb, past0, ev, rfl, ap, nl, hb, qq⟩ := h
    have hu := hu_of hr
    refine ⟨_, pss_cons (ps_asg (pe_bm0 PySem.F.plainAttrs_list PySem.F.slot_list_pop PySem.F.type_list_pop mt_pop (pv 2)) (pg_tup rfl (pgs_cons (pg_name (i := 3) sc_law_gone_back.nd rfl (.inl rfl)) (pgs_cons (pg_name (i := 4) sc_law_gone_back.nd rfl (.inl rfl)) pgs_nil))))
      (pss_mid (ps_expr (pe_dpop2 (pv 1) (pv 3) pe_non ⟨rfl, rfl, rfl, rfl⟩))
      (pss_mid (ps_if (pt_cmpR op_notN (pv 4) pe_non (nomark _)) (pss_one (ps_dput hu (pv 1) (pv 3) (pv 4) rfl)) pss_nil)
      (pss_one (ps_ret (pe_cmpR op_isN (pe_meth0 (pv 0) T.cl MB GB hr bB .nil pass0) pe_non (nomark _)))))), ?_⟩
    obtain ⟨dx, ob⟩ := hb.bk.ob
    obtain ⟨ps, ePa, hps⟩ := hb.pa
    obtain ⟨lx, ndL, _, hlx⟩ := id hb.lk
    obtain ⟨ts, eDn, hts⟩ := id hb.bk.done
    have nSp : S ≠ p := ne_of hb.st ob (fun z => nomatch z)
    have nSPa : S ≠ Pa := ne_of hb.st ePa (fun z => nomatch z)
    have nSDn : S ≠ Dn := ne_of hb.st eDn (fun z => nomatch z)
    have nSLk : S ≠ Lk := ne_of hb.st ndL.ob (fun z => nomatch z)
    have npPa : p ≠ Pa := ne_of ob ePa (fun z => nomatch z)
    have nKPa : Kd ≠ Pa := ne_of hb.bk.kept ePa (fun z => nomatch z)
    have nLPa : Lk ≠ Pa := ne_of ndL.ob ePa (fun z => nomatch z)
    have nLK : Lk ≠ Kd := ne_of ndL.ob hb.bk.kept (fun z => nomatch z)
    have nLD : Lk ≠ Dn := ne_of ndL.ob eDn (fun z => nomatch z)
    have kbl := hb.rg.few hb.kb
    have ksl := hb.rg.few hb.ks
    obtain ⟨ps0, U, rfl, hps0, eU⟩ := prUnsnoc hps
    obtain ⟨t', o⟩ := ev
    obtain ⟨hn1, hi0⟩ := (hist_snoc past0 (t', o) τ).mp hb.hi
    obtain ⟨tm', ho'⟩ := hb.pr (t', o) (by simp)
    refine ⟨.ref Pa, rfl, .inl ⟨rfl, _, .inl (.inl ePa)⟩, Pa, _, .ref U, rfl, rfl, ePa, by rw [List.map_append, List.length_append]; simp, ?_⟩
    have ed : ((ps0 ++ [U]).map V.ref).dropLast = ps0.map V.ref := by rw [List.map_append]; simp
    rw [ed]
    have k4 : ∀ x u, x ≠ Pa → H x = some u → upd H Pa (.lst (ps0.map V.ref)) x = some u := fun x u n e => by
      rw [upd_ne n]
      exact e
    have eP4 : upd H Pa (.lst (ps0.map V.ref)) Pa = some (.lst (ps0.map V.ref)) := upd_same
    generalize upd H Pa (.lst (ps0.map V.ref)) = H4 at k4 eP4
    have t4 : TupsStay H H4 := fun x xs e => k4 x _ (ne_of e ePa (fun z => nomatch z)) e
    have eS4 := k4 _ _ nSPa hb.st
    refine ⟨U, _, rfl, SqT.of (t4 _ _ eU), rfl, _, _, rfl, _, _, rfl, rfl, ?_⟩
    refine ⟨fun σ' H' => σ' = [some (.ref p), some (.ref S), some (.ref Pa), some (.str t'), some (oI o)] ∧ H' S = some (.dK (kvE (gE gI (setT τ t' none)) (keysDrop ks t'))) ∧ ∀ x u, x ≠ S → H4 x = some u → H' x = some u, ?_, ?_⟩
    · refine ⟨.ref S, rfl, S, rfl, .inl ⟨_, .inl eS4⟩, .str t', rfl, _, Sum.inr t', eS4, rfl, fun v hv => ?_, fun hv => ?_⟩
      · exact ⟨rfl, by rw [upd_same, kd_drop], fun x u n1 z => by rw [upd_ne n1]; exact z⟩
      · refine ⟨rfl, ?_, fun _ _ _ z => z⟩
        rw [kd_val hb.ks] at hv
        have e5 : τ t' = none := by
          cases e : τ t' with
          | none => rfl
          | some n => rw [e] at hv; cases hv
        have nin : t' ∉ ks := fun z => by
          have := (hb.ks.mem t').mp z
          rw [e5] at this
          cases this
        have ekd : keysDrop ks t' = ks := List.filter_eq_self.mpr fun x hx => decide_eq_true fun z => nin (z ▸ hx)
        have := kvE_drop (gE gI τ) ks t'
        rw [kd_drop, ekd] at this
        rw [ekd, this]
        exact eS4
    rintro σ5 H5 ⟨rfl, eS5, k5⟩
    refine ⟨fun σ' H' => σ' = [some (.ref p), some (.ref S), some (.ref Pa), some (.str t'), some (oI o)] ∧ (∃ ks', H' S = some (.dK (kvE (gE gI (setT τ t' o)) ks')) ∧ KsOk (setT τ t' o) ks') ∧ ∀ x u, x ≠ S → H4 x = some u → H' x = some u, ?_, ?_⟩
    · refine ⟨oI o, rfl, rfl, _, rfl, ?_⟩
      cases o with
      | none => exact iteF ⟨rfl, ⟨_, eS5, hb.ks.drop t'⟩, k5⟩
      | some n =>
        have hdl : (keysDrop ks t').length ≤ 60 := Nat.le_trans (List.length_filter_le _ _) (by omega)
        refine iteT ⟨.int (n : Int), rfl, .ref S, rfl, .str t', rfl, S, _, rfl, DPut.k (k := Sum.inr t') eS5 (by rw [kvE_len, sizeLine_eq]; omega), rfl, ⟨keysPut (keysDrop ks t') t', ?_, ?_⟩, fun x u n1 z => by rw [upd_ne n1]; exact k5 _ _ n1 z⟩
        · rw [upd_same]
          have := kd_put gI (setT τ t' none) (keysDrop ks t') t' n
          rw [setT_set] at this
          exact congrArg (fun z => some (HO.dK z)) this
        · have := (hb.ks.drop t').put t' n
          rw [setT_set] at this
          exact this
    rintro σ6 H6 ⟨rfl, ⟨ks', eS6, hks'⟩, k6⟩
    have st6 : ∀ x u, x ≠ S → x ≠ Pa → H x = some u → H6 x = some u := fun x u n1 n2 e => k6 _ _ n1 (k4 _ _ n2 e)
    have t26 : TupsStay H H6 := fun x xs e => st6 x _ (ne_of e hb.st (fun z => nomatch z)) (ne_of e ePa (fun z => nomatch z)) e
    have bk6 : BkAt C H6 p Kd Dn Lk (kvE (gE (gB Rs) τ) kb) (past0.map (dnE Rs) ++ [dnE Rs (t', o)]) := by
      have := hb.bk.stay (H' := H6) (fun x u z e => by
        rcases z with rfl | rfl | rfl
        · exact st6 _ _ nSp.symm npPa e
        · exact st6 _ _ ap.SK.symm nKPa e
        · exact st6 _ _ nSDn.symm ap.PD.symm e) t26
      rw [List.map_append] at this
      exact this
    have lk6 : LkAt P w H6 Lk 64 := hb.lk.stay (fun u e => st6 _ _ nSLk.symm nLPa e) t26
    obtain ⟨dx6, ob6⟩ := bk6.ob
    refine ⟨.ref p, rfl, p, dx6, _, rfl, ob6, bF_no _ _ _ (by decide +kernel) (by decide +kernel) (by decide +kernel), p, Kd, Dn, Lk, _, _, dnE Rs (t', o), rfl, bk6, by rw [kvE_len]; omega, fun z => ?_, fun H9 bk9 kp9 => ⟨rfl, ?_⟩⟩
    · show (valV (kvE (gE (gB Rs) τ) kb) (Sum.inr t')).isSome = true
      rw [kd_val hb.kb, Option.isSome_map]
      refine hn1 ?_
      cases o with
      | none => rfl
      | some n => cases z
    have t69 : TupsStay H6 H9 := fun x xs e => by
      obtain ⟨ts6, eD6, _⟩ := bk6.done
      exact kp9 x _ (ne_of e bk6.kept (fun z => nomatch z)) (ne_of e eD6 (fun z => nomatch z)) e
    have nPK : Pa ≠ Kd := nKPa.symm
    obtain ⟨kb', ekb, hkb'⟩ : ∃ kb', undo (kvE (gE (gB Rs) τ) kb) (dnE Rs (t', o)) = kvE (gE (gB Rs) (setT τ t' o)) kb' ∧ KsOk (setT τ t' o) kb' := by
      cases o with
      | none => exact ⟨_, kd_drop _ _ _ _, hb.kb.drop t'⟩
      | some n => exact ⟨_, kd_put (gB Rs) τ kb t' n, hb.kb.put t' n⟩
    rw [ekb] at bk9
    refine qq H9 (setT τ t' o) ks' kb' ⟨bk9, hkb', ?_, ?_, hks', ⟨ps0, ?_, ?_⟩, hi0, hb.rg.set tm' ho', fun e he => hb.pr e (List.mem_append_left _ he)⟩ (und_snoc past0 (t', o) τ).symm (fun x u n3 n4 n5 n6 e => ?_)
    · exact lk6.stay (fun u e => kp9 _ _ nLK nLD e) t69
    · exact kp9 _ _ ap.SK nSDn eS6
    · exact kp9 _ _ nPK ap.PD (k6 _ _ nSPa.symm eP4)
    · exact awMap (fun _ _ e => t69 _ _ (t26 _ _ e)) hps0
    · exact kp9 _ _ n5 n6 (st6 _ _ n3 n4 e)
/-! ### _law_deed_done of few names -/
def spDd3 (P : Program) (w : World) (C : Addr) : Sp := fun vs H Q _ => ∃ (a c p RL Nm S Pa Kd Dn Lk : Addr) (Rs : List Addr) (rws : List Rw) (nms : List Str) (τ : Tau) (ks kb : List Str) (past : List Ev), vs = [.ref a, .ref p, .ref RL, .ref Nm, .ref S, .ref Pa] ∧ WL H a c ∧ Ap a c Dn Pa S Kd ∧
  (RL ≠ a ∧ RL ≠ c ∧ RL ≠ Pa ∧ RL ≠ Dn) ∧ (Nm ≠ a ∧ Nm ≠ c) ∧ H RL = some (.lst (Rs.map V.ref)) ∧ Rs.length = 5 ∧ RwsAt H Rs rws ∧ (∀ r ∈ rws, RwOk r) ∧ H Nm = some (.lst (nms.map V.str)) ∧ 1 ≤ nms.length ∧ nms.length ≤ 3 ∧ (∀ t ∈ nms, nameS t = true) ∧
  BS P w C H p Kd Dn Lk S Pa Rs nms 5 τ ks kb past ∧ past.length ≤ 10000 ∧
  ∀ (H' : Hp) (τ' : Tau) (ks' kb' : List Str) (past' : List Ev), WL H' a c → BS P w C H' p Kd Dn Lk S Pa Rs nms 5 τ' ks' kb' past' → past'.length ≤ past.length + 1 → und past' τ' = und past τ → KBk a c S Pa Kd Dn H H' → Q (.bl true) H'
set_option maxHeartbeats 4000000 in
theorem ok_dd3 {f fD fB fG fT C : Addr} {fd fdD fdB fdG fdT : FuncData} {k : Nat} (F : Fun K "_law_deed_done" "_law_deed_done" s_law_deed_done f fd) (T : BCls K mg C)
    (GD : FnOk P w K mg base CX0 (k + 1) fD fdD ["well", "many"] spDraw) (kD : PySem.W.keepIn K (.ref fD) = true) (bD : Binds K fdD ["well", "many"] []) (gD : mg "_law_draw" = some (.ref fD))
    (GB : FnOk P w K mg base CX0 (k + 2) fB fdB ["book", "state", "past"] (spGb P w C)) (kB : PySem.W.keepIn K (.ref fB) = true) (bB : Binds K fdB ["book", "state", "past"] []) (gBk : mg "_law_gone_back" = some (.ref fB))
    (MG : Meth K C "forget" fG) (GG : FnOk P w K mg base CX0 (k + 4) fG fdG ["self", "name"] (spBf C)) (bG : Binds K fdG ["self", "name"] [])
    (MT : Meth K C "tell" fT) (GT : FnOk P w K mg base CX0 (k + 6) fT fdT ["self", "name", "row"] (spBt C)) (bT : Binds K fdT ["self", "name", "row"] [])
    (mn : mg "len" = none) : FnOk P w K mg base CX0 (k + 7) f fd ["well", "book", "rows", "names", "state", "past"] (spDd3 P w C) := by
  refine F.ok sc_law_deed_done (fun vs H Q E h => ?_) (fun cdv A outer s H vs Q E hr h => ?_)
  · obtain ⟨a, c, p, RL, Nm, S, Pa, Kd, Dn, Lk, Rs, rws, nms, τ, ks, kb, past, rfl, _⟩ := h
    rfl
  · obtain ⟨a, c, p, RL, Nm, S, Pa, Kd, Dn, Lk, Rs, rws, nms, τ, ks, kb, past, rfl, hw, ap, nRL, nNm, eRL, rsl, hrs, hok, eNm, nml1, nml, hnm, hb, pl, qq⟩ := h
    have hu := hu_of hr
    have R1 := hr.mono (show k + 1 ≤ k + 6 by omega)
    have R2 := hr.mono (show k + 2 ≤ k + 6 by omega)
    have R4 := hr.mono (show k + 4 ≤ k + 6 by omega)
    refine ⟨_, pss_cons (ps_set (i := 6) sc_law_deed_done.nd rfl (.inl rfl) (pe_call GD R1 (by rfl) gD kD bD .nil pass0 (pa_cons (pv 0) (pa_cons pe_int pa_nil))))
      (pss_cons (ps_set (i := 7) sc_law_deed_done.nd rfl (.inl rfl) (pe_ix ix_list (pv 3) (pe_call GD R1 (by rfl) gD kD bD .nil pass0 (pa_cons (pv 0) (pa_cons (pe_callB call_len_seq (by rfl) mn PySem.boot_len (pa_cons (pv 3) pa_nil)) pa_nil))) (fun _ _ => rfl)))
      (pss_cons (ps_set (i := 8) sc_law_deed_done.nd rfl (.inl rfl) (pe_call GD R1 (by rfl) gD kD bD .nil pass0 (pa_cons (pv 0) (pa_cons pe_int pa_nil))))
      (pss_mid (ps_if (PW.pt (pw_and (pt_cmpR op_lt (pv 6) pe_int (nomark _)) (pw_and1 (pt_cmpR (op_neL0 hr.units) (pv 5) (pe_lst pa_nil) (nomark _)))))
        (pss_one (ps_ret (pe_call GB R2 (by rfl) gBk kB bB .nil pass0 (pa_cons (pv 1) (pa_cons (pv 4) (pa_cons (pv 5) pa_nil))))))
        pss_nil)
      (pss_mid (ps_if (PW.pt (pw_and (pt_cmpR op_eq (pv 6) pe_int (nomark _)) (pw_and1 (pt_cmp (pc_din hu (pv 7) (pv 4))))))
        (pss_cons (ps_expr (pe_bm PySem.F.plainAttrs_list PySem.F.slot_list_append PySem.F.type_list_append mt_append (pv 5) (pa_cons (pe_tup (pa_cons (pv 7) (pa_cons (pe_dpop1 (pv 4) (pv 7) ⟨rfl, rfl, rfl, rfl⟩) pa_nil))) pa_nil)))
        (pss_one (ps_ret (pe_cmpR op_isN (pe_meth (pv 1) T.cl MG GG R4 bG .nil pass0 (pa_cons (pv 7) pa_nil)) pe_non (nomark _)))))
        pss_nil)
      (pss_cons (ps_expr (pe_bm PySem.F.plainAttrs_list PySem.F.slot_list_append PySem.F.type_list_append mt_append (pv 5) (pa_cons (pe_tup (pa_cons (pv 7) (pa_cons (pe_dget1 hu (pv 4) (pv 7) ⟨rfl, rfl, rfl, rfl⟩) pa_nil))) pa_nil)))
      (pss_cons (ps_dput hu (pv 4) (pv 7) (pv 8) rfl)
      (pss_one (ps_ret (pe_cmpR op_isN (pe_meth (pv 1) T.cl MT GT hr bT .nil pass0 (pa_cons (pv 7) (pa_cons (pe_ix ix_list (pv 2) (pv 8) (fun _ _ => rfl)) pa_nil))) pe_non (nomark _)))))))))), ?_⟩
    refine ⟨.ref a, rfl, a, c, 5, rfl, by decide, by decide, hw, fun H1 wy wy0 wy1 w1 k1 => ?_⟩
    have hb1 := hb.kp hw ap k1
    have eNm1 := k1 _ _ nNm.1 nNm.2 eNm
    refine ⟨.ref Nm, rfl, .ref a, rfl, .ref Nm, rfl, Nm, _, rfl, .inl (.inl (.inl eNm1)), a, c, _, rfl, by rw [List.length_map]; omega, by rw [List.length_map]; omega, w1, fun H2 ni ni0 ni1 w2 k2 => ?_⟩
    rw [List.length_map] at ni1
    have eNm2 := k2 _ _ nNm.1 nNm.2 eNm1
    obtain ⟨t, tm, hat⟩ := atStr (l := nms) ni0 (by omega)
    refine ⟨Nm, _, ni, .str t, rfl, rfl, .inl (.inl eNm2), hat, ?_⟩
    refine ⟨.ref a, rfl, a, c, 5, rfl, by decide, by decide, w2, fun H3 at_ at0 at1 w3 k3 => ?_⟩
    obtain ⟨n, rfl⟩ : ∃ n : Nat, at_ = (n : Int) := ⟨at_.toNat, by omega⟩
    have k03 := (k1.trans k2).trans k3
    have hb3 := hb.kp hw ap k03
    have eRL3 := k03 _ _ nRL.1 nRL.2.1 eRL
    have t03 : TupsStay H H3 := fun x xs e => k03.tup hw e
    have hrs3 := stayRws t03 hrs
    have kb3 : KBk a c S Pa Kd Dn H H3 := fun x o n1 n2 _ _ _ _ e => k03 x o n1 n2 e
    clear k1 k2 k3 hb1 hb w1 w2 eNm1 eNm eNm2 hrs eRL t03 k03 hw hat
    obtain ⟨dx, ob⟩ := hb3.bk.ob
    obtain ⟨ps, ePa, hps⟩ := hb3.pa
    obtain ⟨lx, ndL, _, hlx⟩ := id hb3.lk
    obtain ⟨ts, eDn, hts⟩ := id hb3.bk.done
    have npl := awLen hps
    have nSp : S ≠ p := ne_of hb3.st ob (fun z => nomatch z)
    have nSPa : S ≠ Pa := ne_of hb3.st ePa (fun z => nomatch z)
    have nSDn : S ≠ Dn := ne_of hb3.st eDn (fun z => nomatch z)
    have nSLk : S ≠ Lk := ne_of hb3.st ndL.ob (fun z => nomatch z)
    have npPa : p ≠ Pa := ne_of ob ePa (fun z => nomatch z)
    have nKPa : Kd ≠ Pa := ne_of hb3.bk.kept ePa (fun z => nomatch z)
    have nLPa : Lk ≠ Pa := ne_of ndL.ob ePa (fun z => nomatch z)
    have nLK : Lk ≠ Kd := ne_of ndL.ob hb3.bk.kept (fun z => nomatch z)
    have nLD : Lk ≠ Dn := ne_of ndL.ob eDn (fun z => nomatch z)
    have kbl := hb3.rg.few hb3.kb
    have ksl := hb3.rg.few hb3.ks
    refine ⟨fun σ' H' => σ' = [some (.ref a), some (.ref p), some (.ref RL), some (.ref Nm), some (.ref S), some (.ref Pa), some (.int wy), some (.str t), some (.int (n : Int))] ∧ Same H3 H', ?_, ?_⟩
    · refine ⟨.int wy, rfl, wy, 2, rfl, rfl, _, rfl, ite2 (fun e => ?_) (fun e => ⟨rfl, Same.refl H3⟩)⟩
      refine ⟨.ref Pa, rfl, (by show 0 ≤ sizeLine; decide), fun Z hZ => ?_⟩
      have sZ := same_new (o := .lst []) hZ
      refine ⟨Pa, Z, _, rfl, rfl, sZ _ _ ePa, upd_same, _, rfl, ite2 (fun e2 => ?_) (fun e2 => ⟨rfl, sZ⟩)⟩
      have hne : past ≠ [] := fun z => by
        rw [z] at hps
        cases hps
        cases e2
      obtain ⟨past0, ev, rfl⟩ : ∃ p0 ev, past = p0 ++ [ev] := ⟨past.dropLast, past.getLast hne, (List.dropLast_concat_getLast hne).symm⟩
      refine ⟨.ref p, rfl, .ref S, rfl, .ref Pa, rfl, p, S, Pa, Kd, Dn, Lk, Rs, nms, 5, τ, ks, kb, past0, ev, rfl, ⟨ap.PD, ap.SK⟩, by omega, hb3.same sZ, fun H9 τ' ks' kb' hb9 u9 k9 => ?_⟩
      obtain ⟨nac, csU, rU, sU', eaU, ecU⟩ := id (w3.same sZ)
      refine qq H9 τ' ks' kb' past0 ⟨nac, csU, rU, sU', ?_, ?_⟩ hb9 (by rw [List.length_append]; omega) u9 (fun x u n1 n2 n3 n4 n5 n6 e => k9 _ _ n3 n4 n5 n6 (sZ _ _ (kb3 x u n1 n2 n3 n4 n5 n6 e)))
      · exact k9 _ _ (ne_of eaU (sZ _ _ hb3.st) (fun z => nomatch z)) ap.Pa'.symm (ne_of eaU (sZ _ _ hb3.bk.kept) (fun z => nomatch z)) ap.Da.symm eaU
      · exact k9 _ _ (ne_of ecU (sZ _ _ hb3.st) (fun z => nomatch z)) ap.Pc.symm (ne_of ecU (sZ _ _ hb3.bk.kept) (fun z => nomatch z)) ap.Dc.symm ecU
    rintro σ4 H4 ⟨rfl, s4⟩
    have hb4 := hb3.same s4
    have w4 := w3.same s4
    refine ⟨fun σ' H' => σ' = [some (.ref a), some (.ref p), some (.ref RL), some (.ref Nm), some (.ref S), some (.ref Pa), some (.int wy), some (.str t), some (.int (n : Int))] ∧ Same H3 H', ?_, ?_⟩
    · refine ⟨.int wy, rfl, rfl, _, rfl, ite2 (fun e => ?_) (fun e => ⟨rfl, s4⟩)⟩
      refine ⟨.str t, rfl, .ref S, rfl, S, _, rfl, DGet.k (k := Sum.inr t) hb4.st, _, rfl, ?_⟩
      rw [kd_val hb4.ks]
      cases en : τ t with
      | none => exact iteF ⟨rfl, s4⟩
      | some n1 =>
      refine iteT ?_
      obtain ⟨ps6, ePa6, hps6⟩ := hb4.pa
      have ps6l := awLen hps6
      refine ⟨.ref Pa, rfl, .inl ⟨rfl, _, .inl (.inl ePa6)⟩, .str t, rfl, .ref S, rfl, S, rfl, .inl ⟨_, .inl hb4.st⟩, .str t, rfl, _, Sum.inr t, gI n1, hb4.st, rfl, by rw [kd_val hb4.ks, en]; rfl, ?_⟩
      rw [kd_drop]
      have k7 : ∀ x u, x ≠ S → H4 x = some u → upd H4 S (.dK (kvE (gE gI (setT τ t none)) (keysDrop ks t))) x = some u := fun x u n e => by
        rw [upd_ne n]
        exact e
      have eS7 : upd H4 S (.dK (kvE (gE gI (setT τ t none)) (keysDrop ks t))) S = some (.dK (kvE (gE gI (setT τ t none)) (keysDrop ks t))) := upd_same
      have t7 : TupsStay H4 (upd H4 S (.dK (kvE (gE gI (setT τ t none)) (keysDrop ks t)))) := fun x xs e => k7 x _ (ne_of e hb4.st (fun z => nomatch z)) e
      generalize upd H4 S (.dK (kvE (gE gI (setT τ t none)) (keysDrop ks t))) = H7 at k7 eS7 t7
      refine ⟨(by show 2 ≤ sizeLine; decide), fun U hU => ?_⟩
      have sU := same_new (o := .tup [.str t, gI n1]) hU
      have eU : upd H7 U (.tup [.str t, gI n1]) U = some (.tup [.str t, oI (τ t)]) := by rw [upd_same, en]; rfl
      have ePa8 := sU _ _ (k7 _ _ nSPa.symm ePa6)
      have eS8 := sU _ _ eS7
      generalize upd H7 U (.tup [.str t, gI n1]) = H8 at sU eU ePa8 eS8
      refine ⟨Pa, _, .ref U, rfl, rfl, ePa8, by rw [List.length_map, ps6l, sizeLine_eq]; omega, ?_⟩
      have k9 : ∀ x u, x ≠ Pa → H8 x = some u → upd H8 Pa (.lst (ps6.map V.ref ++ [.ref U])) x = some u := fun x u n e => by
        rw [upd_ne n]
        exact e
      have eP9 : upd H8 Pa (.lst (ps6.map V.ref ++ [.ref U])) Pa = some (.lst ((ps6 ++ [U]).map V.ref)) := by
        rw [upd_same, List.map_append]
        rfl
      have t9 : TupsStay H8 (upd H8 Pa (.lst (ps6.map V.ref ++ [.ref U]))) := tups_put ePa8
      generalize upd H8 Pa (.lst (ps6.map V.ref ++ [.ref U])) = H9 at k9 eP9 t9
      have t69 : TupsStay H4 H9 := fun x xs e => t9 _ _ (sU _ _ (t7 _ _ e))
      have st69 : ∀ x u, x ≠ S → x ≠ Pa → H4 x = some u → H9 x = some u := fun x u n1 n2 e => k9 _ _ n2 (sU _ _ (k7 _ _ n1 e))
      have bk9 : BkAt C H9 p Kd Dn Lk (kvE (gE (gB Rs) τ) kb) (past.map (dnE Rs)) := hb4.bk.stay (fun x u z e => by
        rcases z with rfl | rfl | rfl
        · exact st69 _ _ nSp.symm npPa e
        · exact st69 _ _ ap.SK.symm nKPa e
        · exact st69 _ _ nSDn.symm ap.PD.symm e) t69
      have lk9 : LkAt P w H9 Lk 64 := hb4.lk.stay (fun u e => st69 _ _ nSLk.symm nLPa e) t69
      obtain ⟨dx9, ob9⟩ := bk9.ob
      refine ⟨.ref p, rfl, p, dx9, _, rfl, ob9, bF_no _ _ _ (by decide +kernel) (by decide +kernel) (by decide +kernel), .str t, rfl, p, Kd, Dn, Lk, _, _, t, Rs.getD n1 0, rfl, bk9, by rw [List.length_map]; omega, hnm t tm, by rw [kd_val hb3.kb, en]; rfl, fun HA bkA kpA => ⟨rfl, ?_⟩⟩
      rw [kd_drop] at bkA
      have t9A : TupsStay H9 HA := fun x xs e => by
        obtain ⟨ts6, eD6, _⟩ := bk9.done
        exact kpA x _ (ne_of e bk9.kept (fun z => nomatch z)) (ne_of e eD6 (fun z => nomatch z)) e
      obtain ⟨nac, csU, rU, sU', eaU, ecU⟩ := id w4
      have nPK : Pa ≠ Kd := nKPa.symm
      have eS9 := k9 _ _ nSPa eS8
      refine qq HA (setT τ t none) (keysDrop ks t) (keysDrop kb t) (past ++ [(t, τ t)]) ⟨nac, csU, rU, sU', ?_, ?_⟩ ⟨?_, hb3.kb.drop t, ?_, ?_, hb3.ks.drop t, ⟨ps6 ++ [U], ?_, ?_⟩, ?_, hb3.rg.set tm (fun n' e => by cases e), ?_⟩ (by rw [List.length_append]; exact Nat.le_refl _) (und_told _ _ _ _) (fun x u n1 n2 n3 n4 n5 n6 e => ?_)
      · exact kpA _ _ (ne_of eaU hb4.bk.kept (fun z => nomatch z)) ap.Da.symm (st69 _ _ (ne_of eaU hb4.st (fun z => nomatch z)) ap.Pa'.symm eaU)
      · exact kpA _ _ (ne_of ecU hb4.bk.kept (fun z => nomatch z)) ap.Dc.symm (st69 _ _ (ne_of ecU hb4.st (fun z => nomatch z)) ap.Pc.symm ecU)
      · rw [List.map_append]
        show BkAt C HA p Kd Dn Lk _ (past.map (dnE Rs) ++ [(t, (τ t).map fun n => Rs.getD n 0)])
        rw [en]
        exact bkA
      · exact lk9.stay (fun u e => kpA _ _ nLK nLD e) t9A
      · exact kpA _ _ ap.SK nSDn eS9
      · exact kpA _ _ nPK ap.PD eP9
      · exact awAppend (awMap (fun _ _ e => t9A _ _ (t69 _ _ e)) hps6) (.cons (t9A _ _ (t9 _ _ eU)) .nil)
      · rw [hist_snoc]
        refine ⟨fun z => ?_, ?_⟩
        · have z' : τ t = none := z
          rw [en] at z'
          cases z'
        · show HistOk past (setT (setT τ t none) t (τ t))
          rw [setT_set, setT_self]
          exact hb3.hi
      · intro e he
        rcases List.mem_append.mp he with he | he
        · exact hb3.pr e he
        · rw [List.mem_singleton.mp he]
          exact ⟨tm, fun n' e' => (hb3.rg t n' e').2⟩
      · exact kpA _ _ n5 n6 (st69 _ _ n3 n4 (s4 _ _ (kb3 x u n1 n2 n3 n4 n5 n6 e)))
    rintro σ5 H5 ⟨rfl, s5⟩
    have hb5 := hb3.same s5
    have w5 := w3.same s5
    obtain ⟨ps5, ePa5, hps5⟩ := id hb5.pa
    have dg : DGet H5 S (.str t) ((τ t).map gI) := by
      have := DGet.k (k := Sum.inr t) hb5.st
      rw [kd_val hb5.ks] at this
      exact this
    refine ⟨.ref Pa, rfl, .inl ⟨rfl, _, .inl (.inl ePa5)⟩, .str t, rfl, .ref S, rfl, S, rfl, .inl ⟨_, .inl hb5.st⟩, .str t, rfl, _, dg, ?_⟩
    have eo : ((τ t).map gI).getD .non = oI (τ t) := by cases τ t <;> rfl
    rw [eo]
    refine ⟨(by show 2 ≤ sizeLine; decide), fun U hU => ?_⟩
    obtain ⟨ps', ePa', psl, go⟩ := told_go hb5 ap w5 tm (show n < 5 by omega) hU
    have nUP : Pa ≠ U := ne_of_none ePa' hU
    refine ⟨Pa, _, .ref U, rfl, rfl, by rw [upd_ne nUP]; exact ePa', by rw [List.length_map, psl, sizeLine_eq]; omega, ?_⟩
    obtain ⟨H6, hH6⟩ : ∃ H6, H6 = upd (upd H5 U (.tup [.str t, oI (τ t)])) Pa (.lst (ps'.map V.ref ++ [.ref U])) := ⟨_, rfl⟩
    obtain ⟨k6, eS6, go⟩ := go H6 hH6
    rw [← hH6]
    refine ⟨.int (n : Int), rfl, .ref S, rfl, .str t, rfl, S, _, rfl, DPut.k (k := Sum.inr t) eS6 (by rw [kvE_len, sizeLine_eq]; omega), ?_⟩
    obtain ⟨H7, hH7⟩ : ∃ H7, H7 = upd H6 S (.dK (putK (kvE (gE gI τ) ks) (Sum.inr t) (.int (n : Int)))) := ⟨_, rfl⟩
    obtain ⟨bk7, k7, vb, go⟩ := go H7 hH7
    rw [← hH7]
    obtain ⟨dx7, ob7⟩ := id bk7.ob
    have hRn : n < Rs.length := by omega
    obtain ⟨r, hr1, hr2⟩ := awGet hrs3 (List.getElem?_eq_getElem hRn)
    have t37 : TupsStay H3 H7 := fun y xs e => k7 y _ (ne_of e ePa (fun z => nomatch z)) (ne_of e hb3.st (fun z => nomatch z)) (s5 _ _ e)
    have hr8 : RwAt H7 (Rs.getD n 0) r := by
      have := t37.row hr2
      rw [List.getD_eq_getElem?_getD, List.getElem?_eq_getElem hRn]
      exact this
    have atR : atI (Rs.map V.ref) (n : Int) = some (.ref (Rs.getD n 0)) := atI_nat (by rw [List.getElem?_map, List.getElem?_eq_getElem hRn, List.getD_eq_getElem?_getD, List.getElem?_eq_getElem hRn]; rfl)
    refine ⟨.ref p, rfl, p, dx7, _, rfl, ob7, bF_no _ _ _ (by decide +kernel) (by decide +kernel) (by decide +kernel), .str t, rfl, .ref RL, rfl, .int (n : Int), rfl, RL, _, _, .ref (Rs.getD n 0), rfl, rfl, .inl (.inl (k7 _ _ nRL.2.2.1 (ne_of hb3.st eRL3 (fun z => nomatch z)).symm (s5 _ _ eRL3))), atR, ?_⟩
    refine ⟨p, Kd, Dn, Lk, Rs.getD n 0, _, _, t, (τ t).map (fun n => Rs.getD n 0), (fun _ => False), rowD r.m r.ds r.o, 459, 3, rfl, bk7, by rw [List.length_map]; omega, by rw [kvE_len]; omega, hnm t tm, any_row hr8, nc_row (hok r (List.mem_of_getElem? hr1)), by decide, rowA_ok (hok r (List.mem_of_getElem? hr1)), vb, fun H8 bk8 kp8 => ⟨rfl, ?_⟩⟩
    obtain ⟨⟨τ', ks', kb', past', hb', pl', u'⟩, w8, kk8⟩ := go H8 bk8 kp8
    exact qq H8 τ' ks' kb' past' w8 hb' (by omega) u' (fun x u n1 n2 n3 n4 n5 n6 e => kk8 x u n1 n2 n3 n4 n5 n6 (s5 _ _ (kb3 x u n1 n2 n3 n4 n5 n6 e)))
/-! ### _law_looked: all names and each one's row, in a drawn order -/
theorem map_erase7 {α β : Type} (f : α → β) : ∀ (l : List α) (i : Nat), (l.map f).eraseIdx i = (l.eraseIdx i).map f
  | [], _ => rfl
  | _ :: _, 0 => rfl
  | x :: l, i + 1 => congrArg (f x :: ·) (map_erase7 f l i)
theorem seq_in {n k : Nat} (h : k < n) : seqIndex? (k : Int) n = some k := (ixN_seq (by unfold ixN; rw [if_pos (Int.natCast_nonneg k), if_pos (by omega)]; rfl)).1
def spLd3 (P : Program) (w : World) (C : Addr) : Sp := fun vs H Q _ => ∃ (a c p RL S Pa Kd Dn Lk : Addr) (Rs : List Addr) (rws : List Rw) (nms : List Str) (m : Nat) (τ : Tau) (ks kb : List Str) (past : List Ev), vs = [.ref a, .ref p, .ref S, .ref RL] ∧ WL H a c ∧ Ap a c Dn Pa S Kd ∧ (RL ≠ a ∧ RL ≠ c) ∧
  H RL = some (.lst (Rs.map V.ref)) ∧ Rs.length = m ∧ RwsAt H Rs rws ∧ (∀ r ∈ rws, RwOk r) ∧ nms.length ≤ 60 ∧ (∀ t ∈ nms, nameS t = true) ∧ BS P w C H p Kd Dn Lk S Pa Rs nms m τ ks kb past ∧ ∀ H', WL H' a c → Kp a c H H' → Q (.bl true) H'
set_option maxHeartbeats 4000000 in
theorem ok_ld3 {f fD fN fR C : Addr} {fd fdD fdN fdR : FuncData} {k : Nat} (F : Fun K "_law_looked" "_law_looked" s_law_looked f fd) (T : BCls K mg C)
    (GD : FnOk P w K mg base CX0 (k + 1) fD fdD ["well", "many"] spDraw) (kD : PySem.W.keepIn K (.ref fD) = true) (bD : Binds K fdD ["well", "many"] []) (gD : mg "_law_draw" = some (.ref fD))
    (MN : Meth K C "names" fN) (GN : FnOk P w K mg base CX0 (k + 1) fN fdN ["self"] (spBn C)) (bN : Binds K fdN ["self"] [])
    (MR : Meth K C "row" fR) (GR : FnOk P w K mg base CX0 (k + 4) fR fdR ["self", "name"] (spBr C)) (bR : Binds K fdR ["self", "name"] [])
    (ms : mg "sorted" = none) (mn : mg "len" = none) (mp : mg "repr" = none) (ml : mg "list" = none) : FnG P w K mg base (k + 5) f fd ["well", "book", "state", "rows"] (spLd3 P w C) := by
  refine fun_okG F sc_law_looked (fun vs H Q E h => ?_) (fun cdv A outer s H vs Q E hr hg h => ?_)
  · obtain ⟨a, c, p, RL, S, Pa, Kd, Dn, Lk, Rs, rws, nms, m, τ, ks, kb, past, rfl, _⟩ := h
    rfl
  · obtain ⟨a, c, p, RL, S, Pa, Kd, Dn, Lk, Rs, rws, nms, m, τ, ks, kb, past, rfl, hw, ap, nRL, eRL, rsl, hrs, hok, nml, hnm, hb, qq⟩ := h
    have hu := hu_of hr
    have R1 := hr.mono (show k + 1 ≤ k + 4 by omega)
    refine ⟨_, pss_cons (ps_set (i := 4) sc_law_looked.nd rfl (.inl rfl) (pe_op op_cat (pe_callTy (call_listD rfl) (by rfl) ml (by decide +kernel) (pa_cons (pv 2) pa_nil)) (pe_lst (pa_cons pe_str pa_nil))))
      (pss_cons (ps_while PassesOwn.never (pt_cmpR (op_neL0 hr.units) (pv 4) (pe_lst pa_nil) (nomark _))
        (pss_cons (ps_set (i := 5) sc_law_looked.nd rfl (.inl rfl) (pe_bm PySem.F.plainAttrs_list PySem.F.slot_list_pop PySem.F.type_list_pop mt_popAt (pv 4) (pa_cons (pe_call GD R1 (by rfl) gD kD bD .nil pass0 (pa_cons (pv 0) (pa_cons (pe_callB call_len_seq (by rfl) mn PySem.boot_len (pa_cons (pv 4) pa_nil)) pa_nil))) pa_nil)))
        (pss_mid (ps_if (PW.pt (pw_and (pt_cmpR op_eq (pv 5) pe_str (nomark _)) (pw_and1 (pt_cmpR op_ne (pe_callB (call_repr hg hr.units) (by rfl) mp (by decide +kernel) (pa_cons (pe_meth0 (pv 1) T.cl MN GN R1 bN .nil pass0) pa_nil)) (pe_callB (call_repr hg hr.units) (by rfl) mp (by decide +kernel) (pa_cons (pe_callB (call_sortedD rfl) (by rfl) ms (by decide +kernel) (pa_cons (pv 2) pa_nil)) pa_nil)) (nomark _)))))
          (pss_one (ps_ret pe_bl)) pss_nil)
        (pss_one (ps_if (PW.pt (pw_and (pt_cmpR op_ne (pv 5) pe_str (nomark _)) (pw_and1 (pt_cmpR op_ne (pe_callB (call_repr hg hr.units) (by rfl) mp (by decide +kernel) (pa_cons (pe_meth (pv 1) T.cl MR GR hr bR .nil pass0 (pa_cons (pv 5) pa_nil)) pa_nil)) (pe_callB (call_repr hg hr.units) (by rfl) mp (by decide +kernel) (pa_cons (pe_ix ix_list (pv 3) (pe_dget hu (pv 2) (pv 5) (fun _ _ => rfl)) (fun _ _ => rfl)) pa_nil)) (nomark _)))))
          (pss_one (ps_ret pe_bl)) pss_nil)))))
      (pss_one (ps_ret pe_bl))), ?_⟩
    have kbl := hb.rg.few hb.kb
    have ksl := hb.rg.few hb.ks
    have kne : ∀ t ∈ ks, ¬ t = "" ∧ nameS t = true := fun t ht => by
      have h1 := (hb.ks.mem t).mp ht
      cases e : τ t with
      | none => rw [e] at h1; cases h1
      | some n =>
        have h2 := hnm t (hb.rg t n e).1
        exact ⟨fun z => by rw [z] at h2; exact absurd h2 (by decide +kernel), h2⟩
    refine ⟨.ref S, rfl, S, _, rfl, .inl hb.st, fun L0 hL0 => ?_⟩
    have s0 := same_new (o := .lst ((kvE (gE gI τ) ks).map fun kv => kV kv.1)) hL0
    have e0 : upd H L0 (.lst ((kvE (gE gI τ) ks).map fun kv => kV kv.1)) L0 = some (.lst (ks.map V.str)) := by
      rw [upd_same]
      unfold kvE
      rw [List.map_map]
      rfl
    generalize upd H L0 (.lst ((kvE (gE gI τ) ks).map fun kv => kV kv.1)) = H1 at s0 e0
    refine ⟨(by show 1 ≤ sizeLine; decide), fun L1 hL1 => ?_⟩
    have s1 := same_new (o := .lst [V.str ""]) hL1
    refine ⟨L0, L1, _, _, rfl, rfl, s1 _ _ e0, upd_same, by rw [List.length_map, sizeLine_eq]; show ks.length + 1 ≤ _; omega, fun Lf hLf => ?_⟩
    have s2 := same_new (o := .lst (ks.map V.str ++ [V.str ""])) hLf
    have eLf : upd (upd H1 L1 (.lst [V.str ""])) Lf (.lst (ks.map V.str ++ [V.str ""])) Lf = some (.lst ((ks ++ [(Str.ofString "")]).map V.str)) := by
      rw [upd_same, List.map_append]
      rfl
    have s02 := (s0.trans s1).trans s2
    have hLfH : H Lf = none := (s0.trans s1).free hLf
    obtain ⟨nLa, nLc⟩ := hw.ne_new hLfH
    generalize upd (upd H1 L1 (.lst [V.str ""])) Lf (.lst (ks.map V.str ++ [V.str ""])) = H3 at eLf s02
    refine ⟨fun n σ H' => ∃ (y5 : Option V) (lf : List Str), n = lf.length ∧ σ = [some (.ref a), some (.ref p), some (.ref S), some (.ref RL), some (.ref Lf), y5] ∧ WL H' a c ∧ Kp a c H H' ∧ H' Lf = some (.lst (lf.map V.str)) ∧ lf.length ≤ 100 ∧ ∀ x ∈ lf, x = "" ∨ x ∈ ks, ⟨(ks ++ [(Str.ofString "")]).length, none, ks ++ [(Str.ofString "")], rfl, rfl, hw.same s02, Same.kp s02, eLf, by rw [List.length_append]; show ks.length + 1 ≤ 100; omega, fun x hx => (List.mem_append.mp hx).elim .inr fun z => .inl (List.mem_singleton.mp z)⟩, ?_⟩
    rintro n σ H4 ⟨y5, lf, rfl, rfl, w4, k4, e4, lfl, hlf⟩
    refine ⟨.ref Lf, rfl, (by show 0 ≤ sizeLine; decide), fun Z hZ => ?_⟩
    have sZ := same_new (o := .lst []) hZ
    refine ⟨Lf, Z, _, rfl, rfl, sZ _ _ e4, upd_same, _, rfl, ite2 (fun e => ?_) (fun e => ?_)⟩
    · have lpos : 0 < lf.length := by
        cases lf with
        | nil => cases e
        | cons _ _ => exact Nat.succ_pos _
      have w5 := w4.same sZ
      have k5 := k4.trans (Same.kp sZ)
      have e5 := sZ _ _ e4
      generalize upd H4 Z (.lst []) = H5 at w5 k5 e5
      refine ⟨fun σ' H' => ∃ m', m' < lf.length ∧ ∃ (y5 : Option V) (lf : List Str), m' = lf.length ∧ σ' = [some (.ref a), some (.ref p), some (.ref S), some (.ref RL), some (.ref Lf), y5] ∧ WL H' a c ∧ Kp a c H H' ∧ H' Lf = some (.lst (lf.map V.str)) ∧ lf.length ≤ 100 ∧ ∀ x ∈ lf, x = "" ∨ x ∈ ks, fun σ' H' z => z, ?_⟩
      refine ⟨.ref Lf, rfl, .inl ⟨rfl, _, .inl (.inl e5)⟩, .ref a, rfl, .ref Lf, rfl, Lf, _, rfl, .inl (.inl (.inl e5)), a, c, _, rfl, by rw [List.length_map]; omega, by rw [List.length_map]; omega, w5, fun H6 y y0 y1 w6 k6 => ?_⟩
      rw [List.length_map] at y1
      obtain ⟨j, rfl⟩ : ∃ j : Nat, y = (j : Int) := ⟨y.toNat, by omega⟩
      have hj : j < lf.length := by omega
      have e6 := k6 _ _ nLa nLc e5
      refine ⟨Lf, _, (j : Int), j, .str lf[j], rfl, rfl, e6, by omega, by omega, by rw [List.length_map]; exact seq_in hj, by rw [List.getElem?_map, List.getElem?_eq_getElem hj]; rfl, ?_⟩
      have k6' := k5.trans k6
      have k7 : Kp a c H (upd H6 Lf (.lst ((lf.map V.str).eraseIdx j))) := fun b o n1 n2 e => by
        rw [upd_ne (ne_of_none e hLfH)]
        exact k6' b o n1 n2 e
      have w7 := w6.upd (o := .lst ((lf.map V.str).eraseIdx j)) nLa nLc
      have e7 : upd H6 Lf (.lst ((lf.map V.str).eraseIdx j)) Lf = some (.lst ((lf.eraseIdx j).map V.str)) := by rw [upd_same, map_erase7]
      generalize upd H6 Lf (.lst ((lf.map V.str).eraseIdx j)) = H7 at k7 w7 e7
      have ll : (lf.eraseIdx j).length < lf.length := by rw [List.length_eraseIdx_of_lt hj]; omega
      have hlf7 : ∀ x ∈ lf.eraseIdx j, x = "" ∨ x ∈ ks := fun x hx => hlf x (List.mem_of_mem_eraseIdx hx)
      obtain ⟨t, ht⟩ : ∃ t, t = lf[j] := ⟨_, rfl⟩
      have htl := hlf t (by rw [ht]; exact List.getElem_mem hj)
      rw [← ht]
      clear k6' k6 k5 e5 e6 w5 w6 sZ hZ
      refine ⟨fun σ' H' => σ' = [some (.ref a), some (.ref p), some (.ref S), some (.ref RL), some (.ref Lf), some (.str t)] ∧ Same H7 H', ?_, ?_⟩
      · refine ⟨.str t, rfl, rfl, _, rfl, ite2 (fun e => ?_) (fun e => ⟨rfl, Same.refl H7⟩)⟩
        have hb7 := hb.kp hw ap k7
        obtain ⟨dx, ob⟩ := hb7.bk.ob
        refine ⟨.ref p, rfl, p, dx, _, rfl, ob, bF_no _ _ _ (by decide +kernel) (by decide +kernel) (by decide +kernel), p, Kd, Dn, Lk, _, _, kb, rfl, hb7.bk, kvE_keys _ _, by omega, fun ys L pm srt hL => ?_⟩
        have sL := same_new (o := .lst (ys.map V.str)) hL
        have tx := ks_tx hb.rg hb.kb pm hnm
        have yl := pm.length_eq
        have nc := nice_nm tx (by omega)
        refine ⟨.ref L, nmD ys, rfl, .inr ⟨dp_nm upd_same, nodict_nm ys⟩, nc.sh, by have := nc.dp; omega, nc.fits (by decide), .ref S, rfl, S, _, ks, rfl, .inl (sL _ _ hb7.st), kvE_keys _ _, by omega, fun zs M pz sz hM => ?_⟩
        have sM := same_new (o := .lst (zs.map V.str)) hM
        obtain rfl : ys = zs := ksUp hb.ks hb.kb pm srt pz sz
        refine ⟨.ref M, nmD ys, rfl, .inr ⟨dp_nm upd_same, nodict_nm ys⟩, nc.sh, by have := nc.dp; omega, nc.fits (by decide), rfl, _, rfl, ?_⟩
        have ebb : (!decide (V.str (nmD ys).shown = V.str (nmD ys).shown)) = false := by simp
        rw [ebb]
        exact iteF ⟨rfl, sL.trans sM⟩
      rintro σ8 H8 ⟨rfl, s8⟩
      have k8 := k7.trans (Same.kp s8)
      have w8 := w7.same s8
      have e8 := s8 _ _ e7
      refine ⟨.str t, rfl, rfl, _, rfl, ite2 (fun e => ?_) (fun e => ⟨_, ll, _, _, rfl, rfl, w8, k8, e8, by omega, hlf7⟩)⟩
      have tks : t ∈ ks := htl.resolve_left fun z => by rw [z] at e; simp at e
      obtain ⟨n, en⟩ : ∃ n, τ t = some n := by
        have := (hb.ks.mem t).mp tks
        cases e5 : τ t with
        | none => rw [e5] at this; cases this
        | some n => exact ⟨n, rfl⟩
      obtain ⟨tn, hnm'⟩ := hb.rg t n en
      have hb8 := hb.kp hw ap k8
      obtain ⟨dx, ob⟩ := hb8.bk.ob
      have hRn : n < Rs.length := by omega
      obtain ⟨r, hr1, hr2⟩ := awGet hrs (List.getElem?_eq_getElem hRn)
      have t08 : TupsStay H H8 := fun x xs e => k8.tup hw e
      have vb : valV (kvE (gE (gB Rs) τ) kb) (Sum.inr t) = some (.ref Rs[n]) := by
        rw [kd_val hb.kb, en]
        show some (V.ref (Rs.getD n 0)) = _
        rw [List.getD_eq_getElem?_getD, List.getElem?_eq_getElem hRn]
        rfl
      refine ⟨.ref p, rfl, p, dx, _, rfl, ob, bF_no _ _ _ (by decide +kernel) (by decide +kernel) (by decide +kernel), .str t, rfl, p, Kd, Dn, Lk, _, _, t, .ref Rs[n], rfl, hb8.bk, hnm t tn, vb, fun H9 s9 => ?_⟩
      have ok := hok r (List.mem_of_getElem? hr1)
      have nc := nice_row ok
      have hr9 : RowAt H9 Rs[n] r.m r.ds r.o := (Same.tups s9).row (t08.row hr2)
      have hb9 := hb8.same s9
      have dg : DGet H9 S (.str t) (some (.int (n : Int))) := by
        have := DGet.k (k := Sum.inr t) hb9.st
        rw [kd_val hb9.ks, en] at this
        exact this
      have eRL9 := s9 _ _ (k8 _ _ nRL.1 nRL.2 eRL)
      refine ⟨.ref Rs[n], rowD r.m r.ds r.o, rfl, .inl (rz_row hr9), nc.sh, by have := nc.dp; omega, nc.fits (by decide), .ref RL, rfl, .ref S, rfl, .str t, rfl, S, .int (n : Int), rfl, dg, RL, _, _, .ref Rs[n], rfl, rfl, .inl (.inl eRL9), atI_nat (by rw [List.getElem?_map, List.getElem?_eq_getElem hRn]; rfl), .ref Rs[n], rowD r.m r.ds r.o, rfl, .inl (rz_row hr9), nc.sh, by have := nc.dp; omega, nc.fits (by decide), rfl, _, rfl, ?_⟩
      have ebb : (!decide (V.str (rowD r.m r.ds r.o).shown = V.str (rowD r.m r.ds r.o).shown)) = false := by simp
      rw [ebb]
      exact iteF ⟨_, ll, _, _, rfl, rfl, w8.same s9, k8.trans (Same.kp s9), s9 _ _ e8, by omega, hlf7⟩
    · exact qq _ (w4.same sZ) (k4.trans (Same.kp sZ))
/-! ### _law_refused -/
structure KMg (mg : Str → Option Value) (cW cN cR cO p1 p2 p3 p4 : Addr) : Prop where
  gW : mg "WideError" = some (.ref cW)
  gN : mg "NoName" = some (.ref cN)
  gR : mg "NoRow" = some (.ref cR)
  gO : mg "Nothing" = some (.ref cO)
  g1 : mg "NoPair" = some (.ref p1)
  g2 : mg "NoRule" = some (.ref p2)
  g3 : mg "NoText" = some (.ref p3)
  g4 : mg "TooMany" = some (.ref p4)
structure KD (K : PySem.W.Frag) (D cW cN cR cO p1 p2 p3 p4 : Addr) (b1 b2 b3 : Bool) : Prop where
  x : ExcC K D
  m : PySem.W.exmOne K (.ref D) (.ref cW) = some true
  a : PySem.W.kitAny K (.ref D) [.ref p1, .ref p2, .ref p3, .ref p4] = some false
  v : PySem.W.kitOne K (.ref D) (.type "ValueError") = some true
  t1 : PySem.W.kitOne K (.ref D) (.ref cN) = some b1
  t2 : PySem.W.kitOne K (.ref D) (.ref cR) = some b2
  t3 : PySem.W.kitOne K (.ref D) (.ref cO) = some b3
/-- what is refused, and the word of it -/
def Rfd (N : Addr → Prop) (H : Hp) (kvs : Kvs) (dn : List Dn1) (xs : List V) (ds : List PyData) (wd res : Str) : Prop :=
  (wd = "tell" ∧ ∃ x y dx dy, xs = [x, y] ∧ ds = [dx, dy] ∧ NmOk dx ∧ ((nameB dx = false ∧ res = "name") ∨ (nameB dx = true ∧ rowA dy = false ∧ res = "row"))) ∨
  ((wd = "forget" ∨ wd = "row") ∧ ∃ x dx, xs = [x] ∧ ds = [dx] ∧ NmOk dx ∧ BadN kvs dx ∧ res = "name") ∨
  (wd = "back" ∧ dn = [] ∧ res = "nothing")
def spRf (C : Addr) : Sp := fun vs H Q _ => ∃ (p Kd Dn Lk T : Addr) (kvs : Kvs) (dn : List Dn1) (N : Addr → Prop) (xs : List V) (ds : List PyData) (wd res : Str), vs = [.ref p, .str wd, .ref T] ∧ BkAt C H p Kd Dn Lk kvs dn ∧ kvs.length ≤ 900000 ∧ H T = some (.tup xs) ∧ ¬ N T ∧ AnyAll N H xs ds ∧ NcL 20000 30 ds ∧ Rfd N H kvs dn xs ds wd res ∧ ∀ H', Same H H' → Q (.str res) H'
set_option maxHeartbeats 2000000 in
theorem ok_rf {f fT fF fR fB C cW cN cR cO p1 p2 p3 p4 : Addr} {fd fdT fdF fdR fdB : FuncData} {k : Nat} (F : Fun K "_law_refused" "_law_refused" s_law_refused f fd) (T : BCls K mg C) (X : KMg mg cW cN cR cO p1 p2 p3 p4)
    (XN : KD K cN cW cN cR cO p1 p2 p3 p4 true false false) (XR : KD K cR cW cN cR cO p1 p2 p3 p4 false true false) (XO : KD K cO cW cN cR cO p1 p2 p3 p4 false false true)
    (MT : Meth K C "tell" fT) (GT : FnOk P w K mg base (L2.CX P w) (k + 6) fT fdT ["self", "name", "row"] (spBtX C cN cR)) (bT : Binds K fdT ["self", "name", "row"] [])
    (MF : Meth K C "forget" fF) (GF : FnOk P w K mg base (L2.CX P w) (k + 4) fF fdF ["self", "name"] (spBfX C cN)) (bF : Binds K fdF ["self", "name"] [])
    (MR : Meth K C "row" fR) (GR : FnOk P w K mg base (L2.CX P w) (k + 4) fR fdR ["self", "name"] (spBfX C cN)) (bR : Binds K fdR ["self", "name"] [])
    (MB : Meth K C "back" fB) (GB : FnOk P w K mg base (L2.CX P w) (k + 1) fB fdB ["self"] (spBbN C cO)) (bB : Binds K fdB ["self"] [])
    (mi : mg "isinstance" = none) (mp : mg "repr" = none) (mv : mg "ValueError" = none) : FnG P w K mg base (k + 7) f fd ["book", "word", "handed"] (spRf C) := by
  refine fun_okG F sc_law_refused (fun vs H Q E h => ?_) (fun cdv A outer s H vs Q E hr hg h => ?_)
  · obtain ⟨p, Kd, Dn, Lk, T, kvs, dn, N, xs, ds, wd, res, rfl, _⟩ := h
    rfl
  · obtain ⟨p, Kd, Dn, Lk, T', kvs, dn, N, xs, ds, wd, res, rfl, hb, hkl, eT, nT, hxs, nc, hbad, q⟩ := h
    have r4 := hr.mono (show k + 4 ≤ k + 6 by omega)
    have r1 := hr.mono (show k + 1 ≤ k + 6 by omega)
    refine ⟨_, pss_cons (ps_set (i := 3) sc_law_refused.nd rfl (.inl rfl) pe_non)
      (pss_cons (ps_set (i := 4) sc_law_refused.nd rfl (.inl rfl) (pe_callB (call_repr hg hr.units) (by rfl) mp (by decide +kernel) (pa_cons (pv 2) pa_nil)))
      (pss_mid (ps_try_asT (i := 5) (tb := fun W => tIfS (tTest (tOp rEq (tVar 1) (tC (.str "tell")))) (tDrop (tMethS "tell" C (spBtX C cN cR) (WE W) (tVar 0) (tCons (tOp (rIxT K) (tVar 2) (tC (.int 0))) (tCons (tOp (rIxT K) (tVar 2) (tC (.int 1))) tNil))))
            (tIfS (tTest (tOp rEq (tVar 1) (tC (.str "forget")))) (tDrop (tMethS "forget" C (spBfX C cN) (WE W) (tVar 0) (tCons (tOp (rIxT K) (tVar 2) (tC (.int 0))) tNil)))
            (tIfS (tTest (tOp rEq (tVar 1) (tC (.str "row")))) (tDrop (tMethS "row" C (spBfX C cN) (WE W) (tVar 0) (tCons (tOp (rIxT K) (tVar 2) (tC (.int 0))) tNil)))
              (tDrop (tMethS "back" C (spBbN C cO) (WE W) (tVar 0) tNil)))))
          (ts := fun _ _ _ => tAsg (tVar 5) (gName 3)) (Wout := fun _ _ _ _ => False) rfl rfl sc_law_refused.nd rfl rfl ⟨rfl, by decide, Or.inl X.gW⟩ takes0
          (fun W pn xe tk _ => pss_one (ps_if (pt_cmpR op_eq (pv 1) pe_str (nomark _)) (pss_one (ps_expr (by exact (pe_methS (pv 0) T.cl MT GT hr bT (fun σ => passAt tk σ) (by exact (pa_cons (pe_ix ix_tup (pv 2) pe_int (fun _ _ => rfl)) (pa_cons (pe_ix ix_tup (pv 2) pe_int (fun _ _ => rfl)) pa_nil)))))))
            (pss_one (ps_if (pt_cmpR op_eq (pv 1) pe_str (nomark _)) (pss_one (ps_expr (by exact (pe_methS (pv 0) T.cl MF GF r4 bF (fun σ => passAt tk σ) (by exact (pa_cons (pe_ix ix_tup (pv 2) pe_int (fun _ _ => rfl)) pa_nil))))))
            (pss_one (ps_if (pt_cmpR op_eq (pv 1) pe_str (nomark _)) (pss_one (ps_expr (by exact (pe_methS (pv 0) T.cl MR GR r4 bR (fun σ => passAt tk σ) (by exact (pa_cons (pe_ix ix_tup (pv 2) pe_int (fun _ _ => rfl)) pa_nil))))))
              (pss_one (ps_expr (by exact (pe_meth0S (pv 0) T.cl MB GB r1 bB (fun σ => passAt tk σ)))))))))))
          (fun a oe cls d pn hz hf => pss_one (ps_set (i := 3) sc_law_refused.nd rfl (Or.inl rfl) (pv 5))))
      (pss_cons (ps_if (PW.pt (pw_or (pt_cmpR op_isN (pv 3) pe_non (nomark _)) (pw_or (pt_val (pe_callB call_isRT (by rfl) mi (by decide +kernel) (pa_cons (pv 3) (pa_cons (pe_tup (pa_cons (pe_glob (v := .ref p1) (by rfl) X.g1 rfl) (pa_cons (pe_glob (v := .ref p2) (by rfl) X.g2 rfl) (pa_cons (pe_glob (v := .ref p3) (by rfl) X.g3 rfl) (pa_cons (pe_glob (v := .ref p4) (by rfl) X.g4 rfl) pa_nil))))) pa_nil))))
          (pw_or1 (pt_not (pt_val (pe_callB call_isR (by rfl) mi (by decide +kernel) (pa_cons (pv 3) (pa_cons (pe_bltn (v := .ty "ValueError") (by rfl) mv (by decide +kernel) rfl) pa_nil)))))))))
        (pss_one (ps_ret pe_str)) pss_nil)
      (pss_cons (ps_if (pt_cmpR op_ne (pe_callB (call_repr hg hr.units) (by rfl) mp (by decide +kernel) (pa_cons (pv 2) pa_nil)) (pv 4) (nomark _)) (pss_one (ps_ret pe_str)) pss_nil)
      (pss_cons (ps_set (i := 6) sc_law_refused.nd rfl (.inl rfl) (pe_lst (pa_cons (pe_callB call_isR (by rfl) mi (by decide +kernel) (pa_cons (pv 3) (pa_cons (pe_glob (v := .ref cN) (by rfl) X.gN rfl) pa_nil))) (pa_cons (pe_callB call_isR (by rfl) mi (by decide +kernel) (pa_cons (pv 3) (pa_cons (pe_glob (v := .ref cR) (by rfl) X.gR rfl) pa_nil))) (pa_cons (pe_callB call_isR (by rfl) mi (by decide +kernel) (pa_cons (pv 3) (pa_cons (pe_glob (v := .ref cO) (by rfl) X.gO rfl) pa_nil))) pa_nil)))))
      (pss_cons (ps_if (pt_cmpR op_ne (pe_bm PySem.F.plainAttrs_list PySem.F.slot_list_count PySem.F.type_list_count mt_countV (pv 6) (pa_cons pe_bl pa_nil)) pe_int (nomark _)) (pss_one (ps_ret pe_str)) pss_nil)
      (pss_one (ps_ret (pe_ix ix_list (pe_lst (pa_cons pe_str (pa_cons pe_str (pa_cons pe_str pa_nil)))) (pe_bm PySem.F.plainAttrs_list PySem.F.slot_list_index PySem.F.type_list_index mt_index (pv 6) (pa_cons pe_bl pa_nil)) (fun _ _ => rfl)))))))))), ?_⟩
    have ncb := ncl_tup nc
    have rz : ∀ {H2 : Hp}, Same H H2 → ∀ X : Cx, Rz X H2 (.ref T') (.tuple ds) := fun s2 X => rz_any (any_same s2 (.tup nT eT hxs))
    refine ⟨.ref T', rfl, .ref T', .tuple ds, rfl, .inl (rz (Same.refl H) _), ncb.sh, Nat.le_trans ncb.dp (by decide), ncb.fits (by decide), ?_⟩
    refine ⟨fun σ2 H2 => ∃ a D b1 b2 b3, σ2 = [some (.ref p), some (.str wd), some (.ref T'), some (.ref a), some (.str (PyData.tuple ds).shown), none, none] ∧ Same H H2 ∧ H2 a = some (ExR (.ref D) a) ∧ KD K D cW cN cR cO p1 p2 p3 p4 b1 b2 b3 ∧
      ((b1 = true ∧ b2 = false ∧ b3 = false ∧ res = "name") ∨ (b1 = false ∧ b2 = true ∧ b3 = false ∧ res = "row") ∨ (b1 = false ∧ b2 = false ∧ b3 = true ∧ res = "nothing")), ?_, ?_⟩
    · obtain ⟨dx, ob⟩ := hb.ob
      rcases hbad with ⟨rfl, x, y, dx', dy, rfl, rfl, hnm, hbad⟩ | ⟨hw, x, dx', rfl, rfl, hnm, hbad, rfl⟩ | ⟨rfl, rfl, rfl⟩
      · obtain ⟨_, b2, _, n2, l2⟩ := ncl_cut nc
        obtain ⟨b3, b4, n3, _, l3⟩ := ncl_cut n2
        cases hxs with
        | cons h1 hxs =>
        cases hxs with
        | cons h2 _ =>
        refine ⟨.str "tell", rfl, rfl, _, rfl, ite2 (fun _ => ?_) (fun e => absurd (by decide +kernel) e)⟩
        refine ⟨.ref p, rfl, p, dx, _, rfl, ob, bF_no _ _ _ (by decide +kernel) (by decide +kernel) (by decide +kernel), .ref T', rfl, T', _, 0, x, rfl, rfl, SqT.of eT, atI_nat (j := 0) rfl, .ref T', rfl, T', _, 1, y, rfl, rfl, SqT.of eT, atI_nat (j := 1) rfl, ?_⟩
        refine ⟨p, Kd, Dn, Lk, kvs, dn, N, x, y, dx', rfl, hb, h1, hnm, ?_⟩
        rcases hbad with ⟨e1, rfl⟩ | ⟨e1, e2, rfl⟩
        · exact .inl ⟨e1, fun H2 s2 => ⟨true, XN.m, fun _ => ⟨rfl, fun a ha => ⟨.ref a, rfl, a, cN, true, false, false, rfl, s2.trans (same_new ha), upd_same, XN, .inl ⟨rfl, rfl, rfl, rfl⟩⟩⟩, fun z => Bool.noConfusion z⟩⟩
        · exact .inr ⟨e1, dy, b3, 30, h2, n3, by omega, e2, fun H2 s2 => ⟨true, XR.m, fun _ => ⟨rfl, fun a ha => ⟨.ref a, rfl, a, cR, false, true, false, rfl, s2.trans (same_new ha), upd_same, XR, .inr (.inl ⟨rfl, rfl, rfl, rfl⟩)⟩⟩, fun z => Bool.noConfusion z⟩⟩
      · cases hxs with
        | cons h1 _ =>
        rcases hw with rfl | rfl
        · refine ⟨.str "forget", rfl, rfl, _, rfl, ite2 (fun e => absurd e (by decide +kernel)) (fun _ => ?_)⟩
          refine ⟨.str "forget", rfl, rfl, _, rfl, ite2 (fun _ => ?_) (fun e => absurd (by decide +kernel) e)⟩
          refine ⟨.ref p, rfl, p, dx, _, rfl, ob, bF_no _ _ _ (by decide +kernel) (by decide +kernel) (by decide +kernel), .ref T', rfl, T', _, 0, x, rfl, rfl, SqT.of eT, atI_nat (j := 0) rfl, ?_⟩
          exact ⟨p, Kd, Dn, Lk, kvs, dn, N, x, dx', rfl, hb, h1, hnm, hbad, fun H2 s2 => ⟨true, XN.m, fun _ => ⟨rfl, fun a ha => ⟨.ref a, rfl, a, cN, true, false, false, rfl, s2.trans (same_new ha), upd_same, XN, .inl ⟨rfl, rfl, rfl, rfl⟩⟩⟩, fun z => Bool.noConfusion z⟩⟩
        · refine ⟨.str "row", rfl, rfl, _, rfl, ite2 (fun e => absurd e (by decide +kernel)) (fun _ => ?_)⟩
          refine ⟨.str "row", rfl, rfl, _, rfl, ite2 (fun e => absurd e (by decide +kernel)) (fun _ => ?_)⟩
          refine ⟨.str "row", rfl, rfl, _, rfl, ite2 (fun _ => ?_) (fun e => absurd (by decide +kernel) e)⟩
          refine ⟨.ref p, rfl, p, dx, _, rfl, ob, bF_no _ _ _ (by decide +kernel) (by decide +kernel) (by decide +kernel), .ref T', rfl, T', _, 0, x, rfl, rfl, SqT.of eT, atI_nat (j := 0) rfl, ?_⟩
          exact ⟨p, Kd, Dn, Lk, kvs, dn, N, x, dx', rfl, hb, h1, hnm, hbad, fun H2 s2 => ⟨true, XN.m, fun _ => ⟨rfl, fun a ha => ⟨.ref a, rfl, a, cN, true, false, false, rfl, s2.trans (same_new ha), upd_same, XN, .inl ⟨rfl, rfl, rfl, rfl⟩⟩⟩, fun z => Bool.noConfusion z⟩⟩
      · refine ⟨.str "back", rfl, rfl, _, rfl, ite2 (fun e => absurd e (by decide +kernel)) (fun _ => ?_)⟩
        refine ⟨.str "back", rfl, rfl, _, rfl, ite2 (fun e => absurd e (by decide +kernel)) (fun _ => ?_)⟩
        refine ⟨.str "back", rfl, rfl, _, rfl, ite2 (fun e => absurd e (by decide +kernel)) (fun _ => ?_)⟩
        refine ⟨.ref p, rfl, p, dx, _, rfl, ob, bF_no _ _ _ (by decide +kernel) (by decide +kernel) (by decide +kernel), ?_⟩
        exact ⟨p, Kd, Dn, Lk, kvs, rfl, hb, ⟨true, XO.m, fun _ => ⟨rfl, fun a ha => ⟨.ref a, rfl, a, cO, false, false, true, rfl, same_new ha, upd_same, XO, .inr (.inr ⟨rfl, rfl, rfl, rfl⟩)⟩⟩, fun z => Bool.noConfusion z⟩⟩
    · rintro σ2 H2 ⟨a, D, b1, b2, b3, rfl, s2, ea, KX, hres⟩
      refine ⟨.ref a, rfl, rfl, _, rfl, ?_⟩
      refine ⟨.ref a, rfl, (by show 4 ≤ sizeLine; decide), fun U hU => ?_⟩
      have sU := same_new (o := .tup [.ref p1, .ref p2, .ref p3, .ref p4]) hU
      have ea1 := sU _ _ ea
      refine ⟨a, D, U, _, _, false, rfl, ea1, KX.x, upd_same, .cons (.own _) (.cons (.own _) (.cons (.own _) (.cons (.own _) .nil))), KX.a, false, rfl, ?_⟩
      refine ⟨.ref a, rfl, a, D, .ty "ValueError", .type "ValueError", true, rfl, ea1, KX.x, .ty _, KX.v, true, rfl, ?_⟩
      have s3 := s2.trans sU
      generalize upd H2 U (.tup [.ref p1, .ref p2, .ref p3, .ref p4]) = H3 at s3 ea1
      refine ⟨.ref T', rfl, .ref T', .tuple ds, rfl, .inl (rz s3 _), ncb.sh, Nat.le_trans ncb.dp (by decide), ncb.fits (by decide), ?_⟩
      refine ⟨.str (PyData.tuple ds).shown, rfl, rfl, _, rfl, iteNS rfl ?_⟩
      refine ⟨.ref a, rfl, a, D, .ref cN, .ref cN, b1, rfl, ea1, KX.x, .own _, KX.t1, .ref a, rfl, a, D, .ref cR, .ref cR, b2, rfl, ea1, KX.x, .own _, KX.t2, .ref a, rfl, a, D, .ref cO, .ref cO, b3, rfl, ea1, KX.x, .own _, KX.t3, (by show 3 ≤ sizeLine; decide), fun S hS => ?_⟩
      have sS := same_new (o := .lst [.bl b1, .bl b2, .bl b3]) hS
      have eS : upd H3 S (.lst [.bl b1, .bl b2, .bl b3]) S = some (.lst [.bl b1, .bl b2, .bl b3]) := upd_same
      have s4 := s3.trans sS
      generalize upd H3 S (.lst [.bl b1, .bl b2, .bl b3]) = H4 at s4 eS
      refine ⟨.ref S, rfl, .inl ⟨rfl, _, .inl (.inl eS)⟩, S, [.bl b1, .bl b2, .bl b3], .bl true, rfl, rfl, .inl (.inl eS), rfl, by rfl, ?_⟩
      have fin : ∀ (j : Nat) (L : Addr), H4 L = none → (j = 0 ∧ res = "name" ∨ j = 1 ∧ res = "row" ∨ j = 2 ∧ res = "nothing") → rIxL K (.ref L) (.int (j : Int)) (upd H4 L (.lst [V.str "name", .str "row", .str "nothing"])) Q := fun j L hL hj => by
        refine ⟨L, _, j, .str res, rfl, rfl, .inl (.inl upd_same), ?_, q _ (s4.trans (same_new hL))⟩
        rcases hj with ⟨rfl, rfl⟩ | ⟨rfl, rfl⟩ | ⟨rfl, rfl⟩
        · exact atI_nat (j := 0) rfl
        · exact atI_nat (j := 1) rfl
        · exact atI_nat (j := 2) rfl
      rcases hres with ⟨rfl, rfl, rfl, hres⟩ | ⟨rfl, rfl, rfl, hres⟩ | ⟨rfl, rfl, rfl, hres⟩
      · refine ⟨rfl, _, rfl, ite2 (fun e => absurd e (by decide +kernel)) (fun _ => ?_)⟩
        refine ⟨(by show 3 ≤ sizeLine; decide), fun L hL => ⟨.ref S, rfl, .inl ⟨rfl, _, .inl (.inl (same_new hL _ _ eS))⟩, S, _, .bl true, 0, .bl true, rfl, rfl, .inl (.inl (same_new hL _ _ eS)), rfl, rfl, rfl, rfl, fun m z hm => absurd hm (Nat.not_lt_zero _), fin 0 L hL (.inl ⟨rfl, hres⟩)⟩⟩
      · refine ⟨rfl, _, rfl, ite2 (fun e => absurd e (by decide +kernel)) (fun _ => ?_)⟩
        refine ⟨(by show 3 ≤ sizeLine; decide), fun L hL => ⟨.ref S, rfl, .inl ⟨rfl, _, .inl (.inl (same_new hL _ _ eS))⟩, S, _, .bl true, 1, .bl true, rfl, rfl, .inl (.inl (same_new hL _ _ eS)), rfl, rfl, rfl, rfl, fun m z hm hz => ?_, fin 1 L hL (.inr (.inl ⟨rfl, hres⟩))⟩⟩
        obtain rfl : m = 0 := by omega
        obtain rfl : V.bl false = z := Option.some.inj hz
        rfl
      · refine ⟨rfl, _, rfl, ite2 (fun e => absurd e (by decide +kernel)) (fun _ => ?_)⟩
        refine ⟨(by show 3 ≤ sizeLine; decide), fun L hL => ⟨.ref S, rfl, .inl ⟨rfl, _, .inl (.inl (same_new hL _ _ eS))⟩, S, _, .bl true, 2, .bl true, rfl, rfl, .inl (.inl (same_new hL _ _ eS)), rfl, rfl, rfl, rfl, fun m z hm hz => ?_, fin 2 L hL (.inr (.inr ⟨rfl, hres⟩))⟩⟩
        have hm2 : m = 0 ∨ m = 1 := by omega
        rcases hm2 with rfl | rfl
        · obtain rfl : V.bl false = z := Option.some.inj hz
          rfl
        · obtain rfl : V.bl false = z := Option.some.inj hz
          rfl
/-! ### _law_wrong_right -/
theorem noN_of {H : Hp} : ∀ {vs : List V} {ds : List PyData}, AnyAll noN H vs ds → AnyAll noN H vs ds := fun h => h
def spWr3 (P : Program) (w : World) (C : Addr) : Sp := fun vs H Q _ => ∃ (a c p RL Nm S Pa Kd Dn Lk : Addr) (Rs : List Addr) (rws : List Rw) (nms : List Str) (τ : Tau) (ks kb : List Str) (past : List Ev), vs = [.ref a, .ref p, .ref RL, .ref Nm, .ref S, .ref Pa] ∧ WL H a c ∧ Ap a c Dn Pa S Kd ∧
  (RL ≠ a ∧ RL ≠ c) ∧ (Nm ≠ a ∧ Nm ≠ c) ∧ H RL = some (.lst (Rs.map V.ref)) ∧ Rs.length = 5 ∧ RwsAt H Rs rws ∧ (∀ r ∈ rws, RwOk r) ∧ H Nm = some (.lst (nms.map V.str)) ∧ 1 ≤ nms.length ∧ nms.length ≤ 3 ∧ (∀ t ∈ nms, nameS t = true) ∧
  BS P w C H p Kd Dn Lk S Pa Rs nms 5 τ ks kb past ∧ ∀ (H' : Hp), WL H' a c → Kp a c H H' → Q (.bl true) H'
set_option maxHeartbeats 4000000 in
theorem ok_wr3 {f fD fR C : Addr} {fd fdD fdR : FuncData} {k : Nat} (F : Fun K "_law_wrong_right" "_law_wrong_right" s_law_wrong_right f fd)
    (GD : FnOk P w K mg base CX0 (k + 1) fD fdD ["well", "many"] spDraw) (kD : PySem.W.keepIn K (.ref fD) = true) (bD : Binds K fdD ["well", "many"] []) (gD : mg "_law_draw" = some (.ref fD))
    (GR : FnG P w K mg base (k + 7) fR fdR ["book", "word", "handed"] (spRf C)) (kR : PySem.W.keepIn K (.ref fR) = true) (bR : Binds K fdR ["book", "word", "handed"] []) (gR : mg "_law_refused" = some (.ref fR))
    (mn : mg "len" = none) : FnG P w K mg base (k + 8) f fd ["well", "book", "rows", "names", "state", "past"] (spWr3 P w C) := by
  refine fun_okG F sc_law_wrong_right (fun vs H Q E h => ?_) (fun cdv A outer s H vs Q E hr hg h => ?_)
  · obtain ⟨a, c, p, RL, Nm, S, Pa, Kd, Dn, Lk, Rs, rws, nms, τ, ks, kb, past, rfl, _⟩ := h
    rfl
  · obtain ⟨a, c, p, RL, Nm, S, Pa, Kd, Dn, Lk, Rs, rws, nms, τ, ks, kb, past, rfl, hw, ap, nRL, nNm, eRL, rsl, hrs, hok, eNm, nml1, nml, hnm, hb, qq⟩ := h
    have hu := hu_of hr
    have R1 := hr.mono (show k + 1 ≤ k + 7 by omega)
    refine ⟨_, pss_cons (ps_set (i := 6) sc_law_wrong_right.nd rfl (.inl rfl) (pe_call GD R1 (by rfl) gD kD bD .nil pass0 (pa_cons (pv 0) (pa_cons pe_int pa_nil))))
      (pss_cons (ps_set (i := 7) sc_law_wrong_right.nd rfl (.inl rfl) (pe_ix ix_list (pv 3) (pe_call GD R1 (by rfl) gD kD bD .nil pass0 (pa_cons (pv 0) (pa_cons (pe_callB call_len_seq (by rfl) mn PySem.boot_len (pa_cons (pv 3) pa_nil)) pa_nil))) (fun _ _ => rfl)))
      (pss_cons (ps_if (pt_cmpR op_eq (pv 6) pe_int (nomark _))
        (pss_one (ps_ret (pe_or (pe_cmpR (op_neL0 hr.units) (pv 5) (pe_lst pa_nil) (nomark _)) (pe_one (pe_cmpR op_eq (pe_callG GR hr hg (by rfl) gR kR bR (pa_cons (pv 1) (pa_cons pe_str (pa_cons (pe_tup pa_nil) pa_nil)))) pe_str (nomark _)))))) pss_nil)
      (pss_cons (ps_if (pt_cmpR op_eq (pv 6) pe_int (nomark _))
        (pss_one (ps_ret (pe_cmpR op_eq (pe_callG GR hr hg (by rfl) gR kR bR (pa_cons (pv 1) (pa_cons pe_str (pa_cons (pe_tup (pa_cons (pv 7) (pa_cons (pe_slice sl_tupZ (pe_ix ix_list (pv 2) pe_int (fun _ _ => rfl)) po_none (po_some pe_int)) pa_nil))) pa_nil)))) pe_str (nomark _)))) pss_nil)
      (pss_one (ps_ret (pe_or (pe_cmp (pc_din hu (pv 7) (pv 4))) (pe_one (pe_cmpR op_eq (pe_callG GR hr hg (by rfl) gR kR bR (pa_cons (pv 1) (pa_cons (pe_ix ix_list (pe_lst (pa_cons pe_str (pa_cons pe_str pa_nil))) (pe_op op_sub (pv 6) pe_int) (fun _ _ => rfl)) (pa_cons (pe_tup (pa_cons (pv 7) pa_nil)) pa_nil)))) pe_str (nomark _))))))))), ?_⟩
    refine ⟨.ref a, rfl, a, c, 4, rfl, by decide, by decide, hw, fun H1 wy wy0 wy1 w1 k1 => ?_⟩
    have eNm1 := k1 _ _ nNm.1 nNm.2 eNm
    refine ⟨.ref Nm, rfl, .ref a, rfl, .ref Nm, rfl, Nm, _, rfl, .inl (.inl (.inl eNm1)), a, c, _, rfl, by rw [List.length_map]; omega, by rw [List.length_map]; omega, w1, fun H2 ni ni0 ni1 w2 k2 => ?_⟩
    rw [List.length_map] at ni1
    have eNm2 := k2 _ _ nNm.1 nNm.2 eNm1
    obtain ⟨t, tm, hat⟩ := atStr (l := nms) ni0 (by omega)
    have hnt := hnm t tm
    refine ⟨Nm, _, ni, .str t, rfl, rfl, .inl (.inl eNm2), hat, ?_⟩
    have k02 := k1.trans k2
    have hb2 := hb.kp hw ap k02
    have eRL2 := k02 _ _ nRL.1 nRL.2 eRL
    have t02 : TupsStay H H2 := fun x xs e => k02.tup hw e
    have hrs2 := stayRws t02 hrs
    have kbl := hb2.rg.few hb2.kb
    have ntx := name_tx hnt
    have nct : NcB 8 29 (.str t) := (ncb_str ntx.1 ntx.small).mono (Nat.le_refl _) (Nat.zero_le _)
    have nmt : NmOk (.str t) := fun z e => by
      injection e with e
      rw [← e]
      have := nameS_len hnt
      omega
    obtain ⟨ps, ePa, hps⟩ := id hb2.pa
    have npl := awLen hps
    have fin : ∀ H', Same H2 H' → Q (.bl true) H' := fun H' s' => qq H' (w2.same s') (k02.trans (Same.kp s'))
    refine ⟨.int wy, rfl, rfl, _, rfl, ite2 (fun h0 => ?_) (fun h0 => ?_)⟩
    · refine ⟨.ref Pa, rfl, (by show 0 ≤ sizeLine; decide), fun Z hZ => ?_⟩
      have sZ := same_new (o := .lst []) hZ
      refine ⟨Pa, Z, _, rfl, rfl, sZ _ _ ePa, upd_same, _, rfl, ite2 (fun e => fin _ sZ) (fun e => ?_)⟩
      have hpast : past = [] := by
        cases ps with
        | nil => exact List.length_eq_zero_iff.mp npl.symm
        | cons _ _ => exact absurd rfl e
      refine ⟨.ref p, rfl, (by show 0 ≤ sizeLine; decide), fun U hU => ?_⟩
      have sU := same_new (o := .tup []) hU
      refine ⟨p, Kd, Dn, Lk, U, _, _, noN, [], [], "back", "nothing", rfl, hb2.bk.same (sZ.trans sU), by rw [kvE_len]; omega, upd_same, (fun z => z), .nil, ncl_nil, .inr (.inr ⟨rfl, by rw [hpast]; rfl, rfl⟩), fun H' s' => ⟨rfl, ?_⟩⟩
      rw [decide_eq_true rfl]
      exact fin _ ((sZ.trans sU).trans s')
    refine ⟨.int wy, rfl, rfl, _, rfl, ite2 (fun h1 => ?_) (fun h1 => ?_)⟩
    · obtain ⟨r0, hr1, hr2⟩ := awGet hrs2 (List.getElem?_eq_getElem (show 0 < Rs.length by omega))
      have rok := hok r0 (List.mem_of_getElem? hr1)
      obtain ⟨D, rs, eR, eD, hd⟩ := id hr2
      refine ⟨.ref p, rfl, .str t, rfl, .ref RL, rfl, RL, _, 0, .ref Rs[0], rfl, rfl, .inl (.inl eRL2), atI_nat (j := 0) (by rw [List.getElem?_map, List.getElem?_eq_getElem (show 0 < Rs.length by omega)]; rfl), ?_⟩
      refine ⟨2, rfl, Rs[0], _, rfl, eR, fun P2 H3 s3 e3 => ?_⟩
      have ec : cutV [V.int r0.m, .ref D, .int r0.o] none (some 2) = [V.int r0.m, .ref D] := by
        rw [show (2 : Int) = ((2 : Nat) : Int) from rfl, cut_take]
        rfl
      rw [ec] at e3
      refine ⟨(by show 2 ≤ sizeLine; decide), fun U hU => ?_⟩
      have sU := same_new (o := .tup [V.str t, .ref P2]) hU
      have s4 := s3.trans sU
      have aD : AnyAt noN (upd H3 U (.tup [V.str t, .ref P2])) (.ref D) (.tuple (r0.ds.map deedD)) := .tup (fun z => z) (s4 _ _ eD) (any_deeds0 ((Same.tups s4).ds hd))
      have aP : AnyAt noN (upd H3 U (.tup [V.str t, .ref P2])) (.ref P2) (.tuple [.int r0.m, .tuple (r0.ds.map deedD)]) := .tup (fun z => z) (sU _ _ e3) (.cons (.int _) (.cons aD .nil))
      have nP : NcB 459 29 (.tuple [.int r0.m, .tuple (r0.ds.map deedD)]) := (ncl_tup (ncl_take 2 (ncl_of (nc_row rok)))).mono (Nat.le_refl _) (by decide)
      refine ⟨p, Kd, Dn, Lk, U, _, _, noN, _, [.str t, .tuple [.int r0.m, .tuple (r0.ds.map deedD)]], "tell", "row", rfl, hb2.bk.same s4, by rw [kvE_len]; omega, upd_same, (fun z => z), .cons (.str t) (.cons aP .nil), (ncl_cons nct (ncl_cons nP (ncl_nil (b := 0)))).mono (by decide) (by decide),
        .inl ⟨rfl, _, _, _, _, rfl, rfl, nmt, .inr ⟨hnt, rfl, rfl⟩⟩, fun H' s' => ⟨rfl, ?_⟩⟩
      rw [decide_eq_true rfl]
      exact fin _ (s4.trans s')
    have h0 : ¬ wy = 0 := intNe h0
    have h1 : ¬ wy = 1 := intNe h1
    refine ⟨.str t, rfl, .ref S, rfl, S, _, rfl, DGet.k (k := Sum.inr t) hb2.st, _, rfl, ?_⟩
    rw [kd_val hb2.ks]
    cases en : τ t with
    | some n => exact fin _ (Same.refl _)
    | none =>
      refine ⟨.ref p, rfl, (by show 2 ≤ sizeLine; decide), fun M hM => ?_⟩
      have sM := same_new (o := .lst [V.str "forget", .str "row"]) hM
      obtain ⟨wd, hwd, hat2⟩ : ∃ wd : Str, (wd = "forget" ∨ wd = "row") ∧ atI [V.str "forget", .str "row"] (wy - 2) = some (.str wd) := by
        have hj : wy - 2 = 0 ∨ wy - 2 = 1 := by omega
        rcases hj with e | e <;> rw [e]
        · exact ⟨"forget", .inl rfl, atI_nat (j := 0) rfl⟩
        · exact ⟨"row", .inr rfl, atI_nat (j := 1) rfl⟩
      refine ⟨.int wy, rfl, wy, 2, rfl, rfl, M, _, wy - 2, .str wd, rfl, rfl, .inl (.inl upd_same), hat2, ?_⟩
      refine ⟨.str t, rfl, (by show 1 ≤ sizeLine; decide), fun U hU => ?_⟩
      have sU := same_new (o := .tup [V.str t]) hU
      have s4 := sM.trans sU
      refine ⟨p, Kd, Dn, Lk, U, _, _, noN, _, [.str t], wd, "name", rfl, hb2.bk.same s4, by rw [kvE_len]; omega, upd_same, (fun z => z), .cons (.str t) .nil, (ncl_cons nct (ncl_nil (b := 0))).mono (by decide) (by decide),
        .inr (.inl ⟨hwd, _, _, rfl, rfl, nmt, ?_, rfl⟩), fun H' s' => ⟨rfl, ?_⟩⟩
      · intro z e1 _
        injection e1 with e1
        rw [← e1, kd_val hb2.kb, en]
        rfl
      · rw [decide_eq_true rfl]
        exact fin _ (s4.trans s')
/-! ### _law_few_names -/
theorem strApp3 (x y : Str) : (x ++ y).length = x.length + y.length := by
  show (x.cps ++ y.cps).size = _
  rw [Array.size_append]
  rfl
theorem lt_at {W : Str} (h : Lt W) {i : Nat} (hi : i < W.cps.size) : Lt ⟨#[W.cps[i]]⟩ := fun c hc => by
  have hc' : c ∈ [W.cps[i]] := hc
  rw [List.mem_singleton.mp hc']
  exact h _ (Array.getElem_mem_toList hi)
def spFn : Sp := fun vs H Q _ => ∃ a c : Addr, vs = [.ref a] ∧ WL H a c ∧ ∀ (H' : Hp) (L : Addr) (ns : List Str), H' L = some (.lst (ns.map V.str)) → 1 ≤ ns.length → ns.length ≤ 3 → (∀ t ∈ ns, nameS t = true) → L ≠ a → L ≠ c → WL H' a c → Kp a c H H' → Q (.ref L) H'
set_option maxHeartbeats 2000000 in
theorem ok_fn {f fD : Addr} {fd fdD : FuncData} {k : Nat} (F : Fun K "_law_few_names" "_law_few_names" s_law_few_names f fd)
    (GD : FnOk P w K mg base CX0 (k + 1) fD fdD ["well", "many"] spDraw) (kD : PySem.W.keepIn K (.ref fD) = true) (bD : Binds K fdD ["well", "many"] []) (gD : mg "_law_draw" = some (.ref fD)) (mr : mg "range" = none) : FnOk P w K mg base CX0 (k + 2) f fd ["well"] spFn := by
  refine F.ok sc_law_few_names (fun vs H Q E h => ?_) (fun cdv A outer s H vs Q E hr h => ?_)
  · obtain ⟨a, c, rfl, _⟩ := h
    rfl
  · obtain ⟨a, c, rfl, hw, q⟩ := h
    refine ⟨_, pss_cons (ps_set (i := 1) sc_law_few_names.nd rfl (.inr rfl) pe_str)
    (pss_cons (ps_set (i := 2) sc_law_few_names.nd rfl (.inr rfl) (pe_join pe_str (pe_lc (own := [("k", 5)]) (g := gName 5) (by rfl) sc_law_few_names.nd (pi_range1 (by rfl) mr (pa_cons (pe_op op_add pe_int (pe_call GD hr (by rfl) gD kD bD .nil pass0 (pa_cons (pv 0) (pa_cons pe_int pa_nil)))) pa_nil)) (blkOk_by (own := [("k", 5)]) (N := N_law_few_names) (sc := defScope s_law_few_names) (by decide +kernel)) (fun _ _ _ _ _ => (pg_name (i := 5) sc_law_few_names.nd rfl (.inl rfl))) (fun _ _ _ _ _ => pts_nil) (fun _ _ _ _ _ => pe_item_str (pv 1) (pe_call GD hr (by rfl) gD kD bD .nil pass0 (pa_cons (pv 0) (pa_cons pe_int pa_nil))) (fun _ _ => rfl)))))
    (pss_cons (ps_set (i := 3) sc_law_few_names.nd rfl (.inl rfl) (pe_call GD hr (by rfl) gD kD bD .nil pass0 (pa_cons (pv 0) (pa_cons pe_int pa_nil))))
    (pss_cons (ps_set (i := 4) sc_law_few_names.nd rfl (.inl rfl) (pe_lst (pa_cons (pv 2) (pa_cons (pe_slice sl_str (pv 2) (po_some pe_int) po_none) (pa_cons (pe_slice sl_str (pv 2) po_none (po_some (pe_un un_neg pe_int))) pa_nil)))))
    (pss_mid (ps_if (pt_cmpR op_eq (pv 3) pe_int (nomark _))
      (pss_one (ps_set (i := 4) sc_law_few_names.nd rfl (.inl rfl) (pe_op op_cat (pe_slice sl_list (pe_lc (own := [("letter", 6)]) (g := gName 6) (by rfl) sc_law_few_names.nd (pi_str (pe_op op_add_str (pe_item_str (pv 2) pe_int (fun _ _ => rfl)) (pv 1))) (blkOk_by (own := [("letter", 6)]) (N := N_law_few_names) (sc := defScope s_law_few_names) (by decide +kernel)) (fun _ _ _ _ _ => (pg_name (i := 6) sc_law_few_names.nd rfl (.inl rfl))) (fun _ _ _ _ _ => pts_one (pt_cmpR (r := rNe) op_ne (pv 6) (pe_item_str (pv 2) pe_int (fun _ _ => rfl)) (nomark _))) (fun _ _ _ _ _ => pe_op op_add_str (pe_slice sl_str (pv 2) po_none (po_some pe_int)) (pv 6))) po_none (po_some pe_int)) (pe_lst (pa_cons (pe_slice sl_str (pv 2) po_none (po_some pe_int)) pa_nil)))))
      pss_nil)
    (pss_mid (ps_if (pt_cmpR op_eq (pv 3) pe_int (nomark _))
      (pss_one (ps_set (i := 4) sc_law_few_names.nd rfl (.inl rfl) (pe_lst (pa_cons pe_str (pa_cons pe_str (pa_cons pe_str pa_nil))))))
      pss_nil)
    (pss_one (ps_ret (pe_slice sl_list (pv 4) po_none (po_some (pe_op op_add pe_int (pe_call GD hr (by rfl) gD kD bD .nil pass0 (pa_cons (pv 0) (pa_cons pe_int pa_nil))))))))))))), ?_⟩
    refine ⟨⟨_, rfl⟩, ?_⟩
    refine ⟨.ref a, rfl, a, c, 6, rfl, by decide, by decide, hw, fun H1 g g0 g1 w1 k1 => ?_⟩
    obtain ⟨gn, rfl⟩ : ∃ gn : Nat, g = (gn : Int) := ⟨g.toNat, by omega⟩
    refine ⟨3, (gn : Int), rfl, rfl, 3 + gn, by push_cast; rfl, by omega, by omega, fun C hC => ?_⟩
    obtain ⟨nCa, nCc⟩ := w1.ne_new hC
    have sC0 := same_new (o := .lst []) hC
    refine lc_range (lo := 0) (n := 3 + gn) (fun i H4 => ∃ ys : List Str, H4 C = some (.lst (ys.map V.str)) ∧ ys.length = i ∧ (∀ y ∈ ys, y.length = 1) ∧ (∀ y ∈ ys, Lt y) ∧ WL H4 a c ∧ Kp a c H1 H4) ⟨[], upd_same, rfl, (fun _ z => nomatch z), (fun _ z => nomatch z), w1.upd nCa nCc, Same.kp sC0⟩ (fun i H4 hi hp => ?_) (fun H4 hp => ?_)
    · obtain ⟨ys, eC, hyl, hy1, hy2, w4, k4⟩ := hp
      refine ⟨rfl, .str letS, rfl, .ref a, rfl, a, c, 26, rfl, by decide, by decide, w4, fun H5 z z0 z1 w5 k5 => ?_⟩
      have hz : z.toNat < letS.cps.size := by
        have : letS.cps.size = 26 := let_len
        omega
      refine ⟨letS, z, _, rfl, rfl, z0, by omega, by rw [let_len]; exact z1, Array.getElem?_eq_getElem hz, _, k5 _ _ nCa nCc eC, by rw [List.length_map, hyl, sizeLine_eq]; omega, ys ++ [⟨#[letS.cps[z.toNat]]⟩], ?_, by rw [List.length_append, hyl]; rfl, ?_, ?_, w5.upd nCa nCc, ?_⟩
      · rw [upd_same, List.map_append]
        rfl
      · intro y hy
        rcases List.mem_append.mp hy with hy | hy
        · exact hy1 y hy
        · rw [List.mem_singleton.mp hy]
          rfl
      · intro y hy
        rcases List.mem_append.mp hy with hy | hy
        · exact hy2 y hy
        · rw [List.mem_singleton.mp hy]
          exact lt_let hz
      · intro b o n1 n2 e
        rw [upd_ne (ne_of_none e hC)]
        exact k5 b o n1 n2 (k4 b o n1 n2 e)
    obtain ⟨ys, eC, hyl, hy1, hy2, w4, k4⟩ := hp
    obtain ⟨jl, jt⟩ := join_ones hy1 hy2
    refine ⟨"", C, ys, rfl, rfl, .inl (.inl (.inl eC)), ?_, ?_⟩
    · have e0 : (ys.map (·.length)).sum = ys.length := by
        clear eC hyl hy2 jl jt
        induction ys with
        | nil => rfl
        | cons y ys ih =>
          rw [List.map_cons, List.sum_cons, ih fun z hz => hy1 z (List.mem_cons_of_mem _ hz), List.length_cons, hy1 y List.mem_cons_self]
          omega
      have e1 : (Str.ofString "").length = 0 := by decide +kernel
      rw [e0, hyl]
      show 3 + gn + (3 + gn) * (Str.ofString "").length ≤ _
      rw [e1, Nat.mul_zero]
      omega
    rw [hyl] at jl
    generalize Txt.join "" ys = W at jl jt
    have hW : W.length ≤ sizeLine := by rw [sizeLine_eq]; omega
    have k14 := k1.trans k4
    refine ⟨.ref a, rfl, a, c, 3, rfl, by decide, by decide, w4, fun H5 wy wy0 wy1 w5 k5 => ?_⟩
    have k15 := k14.trans k5
    clear k14 k1 k4 k5 w4 w1 eC hyl hy1 hy2 sC0
    -- the three
    have c1 : (cutS W (some 1) none).length = W.length - min 1 W.length := by
      have h := cut_len W (some ((1 : Nat) : Int)) none
      rw [HT.sIx_none, HT.sIx_nat, Nat.min_self] at h
      exact h
    have c2 : (cutS W none (some (-2))).length = W.length - 2 := by
      have h := cut_len W none (some (-2))
      have c2' : HT.sIx W.length W.length (some (-2)) = W.length - 2 := by
        unfold HT.sIx
        simp
        omega
      rw [HT.sIx_none, c2'] at h
      omega
    have c3 : (cutS W none (some 3)).length = 3 := by
      have h := cut_len W none (some ((3 : Nat) : Int))
      rw [HT.sIx_none, HT.sIx_nat] at h
      have h' : (cutS W none (some 3)).length = min (min 3 W.length - 0) (W.length - 0) := h
      omega
    have c4 : (cutS W none (some 2)).length = 2 := by
      have h := cut_len W none (some ((2 : Nat) : Int))
      rw [HT.sIx_none, HT.sIx_nat] at h
      have h' : (cutS W none (some 2)).length = min (min 2 W.length - 0) (W.length - 0) := h
      omega
    refine ⟨.str W, rfl, .str W, rfl, 1, rfl, W, rfl, hW, .str W, rfl, 2, rfl, -2, rfl, W, rfl, hW, (by show 3 ≤ sizeLine; decide), fun F1 hF1 => ?_⟩
    have sF := same_new (o := .lst [V.str W, .str (cutS W (some 1) none), .str (cutS W none (some (-2)))]) hF1
    obtain ⟨n1, n2⟩ := w5.ne_new hF1
    have w6 := w5.same sF
    have k6 := k15.trans (Same.kp sF)
    have eF : upd H5 F1 (.lst [V.str W, .str (cutS W (some 1) none), .str (cutS W none (some (-2)))]) F1 = some (.lst ([W, cutS W (some 1) none, cutS W none (some (-2))].map V.str)) := upd_same
    generalize upd H5 F1 (.lst [V.str W, .str (cutS W (some 1) none), .str (cutS W none (some (-2)))]) = H6 at sF w6 k6 eF
    have hns : ∀ t ∈ [W, cutS W (some 1) none, cutS W none (some (-2))], nameS t = true := fun t ht => by
      simp only [List.mem_cons, List.not_mem_nil, or_false] at ht
      rcases ht with rfl | rfl | rfl
      · exact name_of jt (by omega) (by omega)
      · exact name_of (lt_cut jt _ _) (by omega) (by omega)
      · exact name_of (lt_cut jt _ _) (by omega) (by omega)
    refine ⟨fun σ' H' => ∃ (L : Addr) (ns : List Str), σ' = [some (.ref a), some (.str letS), some (.str W), some (.int wy), some (.ref L), none, none] ∧ H' L = some (.lst (ns.map V.str)) ∧ 1 ≤ ns.length ∧ ns.length ≤ 3 ∧ (∀ t ∈ ns, nameS t = true) ∧ L ≠ a ∧ L ≠ c ∧ WL H' a c ∧ Kp a c H H', ?_, ?_⟩
    · refine ⟨.int wy, rfl, rfl, _, rfl, ite2 (fun h1 => ?_) (fun h1 => ⟨F1, _, rfl, eF, (by show 1 ≤ 3; decide), (by show 3 ≤ 3; decide), hns, n1, n2, w6, k6⟩)⟩
      have h2s : 2 < W.cps.size := by
        show 2 < W.length
        omega
      have at2 : W.cps[(2 : Int).toNat]? = some W.cps[2] := Array.getElem?_eq_getElem h2s
      refine ⟨.str W, rfl, W, 2, _, rfl, rfl, by decide, by decide, by omega, at2, .str letS, rfl, _, _, rfl, rfl, ?_, ?_⟩
      · have : letS.length = 26 := let_len
        rw [this, sizeLine_eq]
        show 1 + 26 ≤ _
        omega
      have ltZ : Lt ((⟨#[W.cps[2]]⟩ : Str) ++ letS) := lt_app (lt_at jt h2s) (fun c hc => decide_eq_true hc)
      have lZ : ((⟨#[W.cps[2]]⟩ : Str) ++ letS).length = 27 := by
        rw [strApp3, let_len]
        rfl
      generalize (⟨#[W.cps[2]]⟩ : Str) ++ letS = Z at ltZ lZ
      refine ⟨Z, rfl, fun C2 hC2 => ?_⟩
      have sC2 : ∀ o, Same H6 (upd H6 C2 o) := fun o => same_new hC2
      refine lc_it (walk_str (z := Z)) (fun j H7 => ∃ zs : List Str, H7 = upd H6 C2 (.lst (zs.map V.str)) ∧ zs.length ≤ j ∧ ∀ t ∈ zs, nameS t = true) ⟨[], rfl, Nat.zero_le _, fun _ z => nomatch z⟩ (fun _ _ _ _ => trivial) (fun j x H7 H8 hj h7 hx => ?_) (fun H7 h7 => ?_)
      · obtain ⟨rfl, cc, hcc, rfl⟩ := hx
        obtain ⟨zs, rfl, zl, hzs⟩ := h7
        have hj27 : j < 27 := by
          have : Z.cps.size = 27 := lZ
          omega
        have lcc : Lt ⟨#[cc]⟩ := fun d hd => by
          have hd' : d ∈ [cc] := hd
          rw [List.mem_singleton.mp hd']
          exact ltZ cc (by
            rw [← Array.getElem?_toList] at hcc
            exact List.mem_of_getElem? hcc)
        have l1 : (⟨#[cc]⟩ : Str).length = 1 := rfl
        refine ⟨rfl, .str ⟨#[cc]⟩, rfl, .str W, rfl, W, 2, _, rfl, rfl, by decide, by decide, by omega, at2, rfl, _, rfl, ite2 (fun _ => ?_) (fun _ => ⟨zs, rfl, by omega, hzs⟩)⟩
        refine ⟨.str W, rfl, 2, rfl, W, rfl, hW, .str ⟨#[cc]⟩, rfl, _, _, rfl, rfl, by rw [l1, sizeLine_eq]; omega, zs.map V.str, upd_same, by rw [List.length_map, sizeLine_eq]; omega, zs ++ [cutS W none (some 2) ++ ⟨#[cc]⟩], by rw [upd_upd, List.map_append]; rfl, by rw [List.length_append]; exact Nat.add_le_add_right zl 1, fun t ht => ?_⟩
        rcases List.mem_append.mp ht with ht | ht
        · exact hzs t ht
        · rw [List.mem_singleton.mp ht]
          refine name_of (lt_app (lt_cut jt _ _) lcc) ?_ ?_ <;> rw [strApp3, l1] <;> omega
      obtain ⟨zs, e7, zl, hzs⟩ := h7
      have eC2 : H7 C2 = some (.lst (zs.map V.str)) := by rw [e7, upd_same]
      have s7 : Same H6 H7 := by rw [e7]; exact sC2 _
      clear e7
      refine ⟨2, rfl, C2, _, rfl, .inl (.inl eC2), fun X hX => ?_⟩
      have sX := same_new (o := .lst (cutV (zs.map V.str) none (some 2))) hX
      have ecut : cutV (zs.map V.str) none (some 2) = (zs.take 2).map V.str := by
        rw [show (2 : Int) = ((2 : Nat) : Int) from rfl, cut_take, List.map_take]
      have eX : upd H7 X (.lst (cutV (zs.map V.str) none (some 2))) X = some (.lst ((zs.take 2).map V.str)) := by rw [upd_same, ecut]
      generalize upd H7 X (.lst (cutV (zs.map V.str) none (some 2))) = H8 at sX eX
      refine ⟨.str W, rfl, 3, rfl, W, rfl, hW, (by show 1 ≤ sizeLine; decide), fun Y hY => ?_⟩
      have sY := same_new (o := .lst [V.str (cutS W none (some 3))]) hY
      have lt2 : (zs.take 2).length ≤ 2 := List.length_take_le _ _
      refine ⟨X, Y, _, _, rfl, rfl, sY _ _ eX, upd_same, by rw [List.length_map, sizeLine_eq]; show (zs.take 2).length + 1 ≤ _; omega, fun L hL => ?_⟩
      have s9 := ((s7.trans sX).trans sY).trans (same_new (o := .lst ((zs.take 2).map V.str ++ [V.str (cutS W none (some 3))])) hL)
      obtain ⟨m1, m2⟩ := ((w6.same ((s7.trans sX).trans sY))).ne_new hL
      refine ⟨L, zs.take 2 ++ [cutS W none (some 3)], rfl, by rw [upd_same, List.map_append]; rfl, by rw [List.length_append]; exact Nat.le_add_left 1 _, by rw [List.length_append]; exact Nat.add_le_add_right lt2 1, fun t ht => ?_, m1, m2, w6.same s9, k6.trans (Same.kp s9)⟩
      rcases List.mem_append.mp ht with ht | ht
      · exact hzs t (List.mem_of_mem_take ht)
      · rw [List.mem_singleton.mp ht]
        exact name_of (lt_cut jt _ _) (by omega) (by omega)
    rintro σ7 H7 ⟨L, ns, rfl, eL, nl1, nl3, hn, m1, m2, w7, k7⟩
    refine ⟨fun σ' H' => ∃ (L : Addr) (ns : List Str), σ' = [some (.ref a), some (.str letS), some (.str W), some (.int wy), some (.ref L), none, none] ∧ H' L = some (.lst (ns.map V.str)) ∧ 1 ≤ ns.length ∧ ns.length ≤ 3 ∧ (∀ t ∈ ns, nameS t = true) ∧ L ≠ a ∧ L ≠ c ∧ WL H' a c ∧ Kp a c H H', ?_, ?_⟩
    · refine ⟨.int wy, rfl, rfl, _, rfl, ite2 (fun h1 => ?_) (fun h1 => ⟨L, ns, rfl, eL, nl1, nl3, hn, m1, m2, w7, k7⟩)⟩
      refine ⟨(by show 3 ≤ sizeLine; decide), fun M hM => ?_⟩
      obtain ⟨q1, q2⟩ := w7.ne_new hM
      have sM := same_new (o := .lst [V.str "none", .str "back", .str "kinds"]) hM
      exact ⟨M, ["none", "back", "kinds"], rfl, upd_same, (by show 1 ≤ 3; decide), (by show 3 ≤ 3; decide), by decide +kernel, q1, q2, w7.same sM, k7.trans (Same.kp sM)⟩
    rintro σ8 H8 ⟨L, ns, rfl, eL, nl1, nl3, hn, m1, m2, w8, k8⟩
    refine ⟨.ref L, rfl, .ref a, rfl, a, c, 3, rfl, by decide, by decide, w8, fun H9 z z0 z1 w9 k9 => ?_⟩
    refine ⟨1, z, rfl, rfl, 1 + z, rfl, L, _, rfl, .inl (.inl (k9 _ _ m1 m2 eL)), fun X hX => ?_⟩
    have sX := same_new (o := .lst (cutV (ns.map V.str) none (some (1 + z)))) hX
    obtain ⟨q1, q2⟩ := w9.ne_new hX
    have ecut : cutV (ns.map V.str) none (some (1 + z)) = (ns.take (1 + z).toNat).map V.str := by
      rw [show (1 + z) = (((1 + z).toNat : Nat) : Int) by omega, cut_take, List.map_take]
      rfl
    refine q _ X (ns.take (1 + z).toNat) (by rw [upd_same, ecut]) (by rw [List.length_take]; omega) (by rw [List.length_take]; omega) (fun t ht => hn t (List.mem_of_mem_take ht)) q1 q2 (w9.same sX) ((k8.trans k9).trans (Same.kp sX))
/-! ### two books -/
structure BA where
  p : Addr
  Kd : Addr
  Dn : Addr
  S : Addr
  Pa : Addr
structure Dj (b d : BA) : Prop where
  pp : b.p ≠ d.p
  ss : b.S ≠ d.S
  sk : b.S ≠ d.Kd
  ks : b.Kd ≠ d.S
  kk : b.Kd ≠ d.Kd
  qq : b.Pa ≠ d.Pa
  qd : b.Pa ≠ d.Dn
  dq : b.Dn ≠ d.Pa
  dd : b.Dn ≠ d.Dn
def B1 (P : Program) (w : World) (C : Addr) (Rs : List Addr) (nms : List Str) (H : Hp) (b : BA) (n : Nat) : Prop := ∃ Lk τ ks kb past, BS P w C H b.p b.Kd b.Dn Lk b.S b.Pa Rs nms 5 τ ks kb past ∧ past.length ≤ n ∧ und past τ = fun _ => none
structure L7 (a c RL Cl Nm BL SL PL : Addr) (B : Nat → BA) : Prop where
  ap : ∀ k, k < 2 → Ap a c (B k).Dn (B k).Pa (B k).S (B k).Kd
  dj : ∀ j k, j < 2 → k < 2 → j ≠ k → Dj (B j) (B k)
  li : ∀ x ∈ [RL, Cl, Nm, BL, SL, PL], x ≠ a ∧ x ≠ c ∧ ∀ k, k < 2 → x ≠ (B k).Pa ∧ x ≠ (B k).Dn
structure I7 (P : Program) (w : World) (C : Addr) (a c RL Cl Nm BL SL PL : Addr) (B : Nat → BA) (Rs : List Addr) (rws : List Rw) (cls : List Nat) (nms : List Str) (H : Hp) (n : Nat) : Prop where
  wl : WL H a c
  bs : ∀ k, k < 2 → B1 P w C Rs nms H (B k) n
  rl : H RL = some (.lst (Rs.map V.ref))
  rw : RwsAt H Rs rws
  cl : H Cl = some (.lst (nV cls))
  nm : H Nm = some (.lst (nms.map V.str))
  bl : H BL = some (.lst [.ref (B 0).p, .ref (B 1).p])
  sl : H SL = some (.lst [.ref (B 0).S, .ref (B 1).S])
  pl : H PL = some (.lst [.ref (B 0).Pa, .ref (B 1).Pa])
section i7
variable {C : Addr} {H H' : Hp} {a c RL Cl Nm BL SL PL : Addr} {B : Nat → BA} {Rs : List Addr} {rws : List Rw} {cls : List Nat} {nms : List Str} {n n' k : Nat}
theorem I7.mv (s : L7 a c RL Cl Nm BL SL PL B) (hk : k < 2) (h : I7 P w C a c RL Cl Nm BL SL PL B Rs rws cls nms H n) (w' : WL H' a c) (b : B1 P w C Rs nms H' (B k) n') (hn : n ≤ n')
    (kk : KBk a c (B k).S (B k).Pa (B k).Kd (B k).Dn H H') : I7 P w C a c RL Cl Nm BL SL PL B Rs rws cls nms H' n' := by
  obtain ⟨nac, cs, r, sd, ea, ec⟩ := id h.wl
  obtain ⟨Lk0, τ0, ks0, kb0, past0, b0, _⟩ := h.bs k hk
  obtain ⟨ps, eP, _⟩ := b0.pa
  obtain ⟨ts, eD, _⟩ := b0.bk.done
  have tt : TupsStay H H' := fun x xs e => kk x _ (ne_of e ea (fun z => nomatch z)) (ne_of e ec (fun z => nomatch z)) (ne_of e b0.st (fun z => nomatch z)) (ne_of e eP (fun z => nomatch z)) (ne_of e b0.bk.kept (fun z => nomatch z)) (ne_of e eD (fun z => nomatch z)) e
  have li : ∀ x xs, x ≠ a → x ≠ c → x ≠ (B k).Pa → x ≠ (B k).Dn → H x = some (.lst xs) → H' x = some (.lst xs) := fun x xs n1 n2 n3 n4 e => kk x _ n1 n2 (ne_of e b0.st (fun z => nomatch z)) n3 (ne_of e b0.bk.kept (fun z => nomatch z)) n4 e
  have di : ∀ x xs, x ≠ (B k).S → x ≠ (B k).Kd → H x = some (.dK xs) → H' x = some (.dK xs) := fun x xs n1 n2 e => kk x _ (ne_of e ea (fun z => nomatch z)) (ne_of e ec (fun z => nomatch z)) n1 (ne_of e eP (fun z => nomatch z)) n2 (ne_of e eD (fun z => nomatch z)) e
  have oi : ∀ x C dx fs, H x = some (.ins C dx fs) → H' x = some (.ins C dx fs) := fun x C dx fs e => kk x _ (ne_of e ea (fun z => nomatch z)) (ne_of e ec (fun z => nomatch z)) (ne_of e b0.st (fun z => nomatch z)) (ne_of e eP (fun z => nomatch z)) (ne_of e b0.bk.kept (fun z => nomatch z)) (ne_of e eD (fun z => nomatch z)) e
  have ni : ∀ x xs, H x = some (NDO P w x xs) → H' x = some (NDO P w x xs) := fun x xs e => kk x _ (ne_of e ea (fun z => nomatch z)) (ne_of e ec (fun z => nomatch z)) (ne_of e b0.st (fun z => nomatch z)) (ne_of e eP (fun z => nomatch z)) (ne_of e b0.bk.kept (fun z => nomatch z)) (ne_of e eD (fun z => nomatch z)) e
  have L : ∀ x xs, x ∈ [RL, Cl, Nm, BL, SL, PL] → H x = some (.lst xs) → H' x = some (.lst xs) := fun x xs hx e => by
    obtain ⟨z1, z2, z3⟩ := s.li x hx
    exact li x xs z1 z2 (z3 k hk).1 (z3 k hk).2 e
  have sw : ∀ {x : Addr} {o u : HO}, H x = some u → H' x = some u → H x = some o → H' x = some o := fun e1 e2 e3 => by
    rw [e1] at e3
    rw [← Option.some.inj e3]
    exact e2
  refine ⟨w', fun j hj => ?_, L _ _ (by simp) h.rl, stayRws tt h.rw, L _ _ (by simp) h.cl, L _ _ (by simp) h.nm, L _ _ (by simp) h.bl, L _ _ (by simp) h.sl, L _ _ (by simp) h.pl⟩
  · by_cases e : j = k
    · rw [e]
      exact b
    · obtain ⟨Lk, τ, ks, kb, past, bb, pl, uu⟩ := h.bs j hj
      have d := s.dj j k hj hk e
      have ap := s.ap j hj
      obtain ⟨dx, ob⟩ := bb.bk.ob
      obtain ⟨lx, nd, _⟩ := bb.lk
      obtain ⟨ps2, eP2, _⟩ := bb.pa
      obtain ⟨ts2, eD2, _⟩ := bb.bk.done
      refine ⟨Lk, τ, ks, kb, past, bb.stay (fun x o z e => ?_) tt, by omega, uu⟩
      rcases z with rfl | rfl | rfl | rfl | rfl | rfl
      · exact sw ob (oi _ _ _ _ ob) e
      · exact sw bb.bk.kept (di _ _ d.ks d.kk bb.bk.kept) e
      · exact sw eD2 (li _ _ ap.Da ap.Dc d.dq d.dd eD2) e
      · exact sw nd.ob (ni _ _ nd.ob) e
      · exact sw bb.st (di _ _ d.ss d.sk bb.st) e
      · exact sw eP2 (li _ _ ap.Pa' ap.Pc d.qq d.qd eP2) e
theorem I7.kp (s : L7 a c RL Cl Nm BL SL PL B) (h : I7 P w C a c RL Cl Nm BL SL PL B Rs rws cls nms H n) (w' : WL H' a c) (k : Kp a c H H') : I7 P w C a c RL Cl Nm BL SL PL B Rs rws cls nms H' n := by
  obtain ⟨Lk, τ, ks, kb, past, bb, pl, uu⟩ := h.bs 0 (by decide)
  exact h.mv s (k := 0) (by decide) w' ⟨Lk, τ, ks, kb, past, bb.kp h.wl (s.ap 0 (by decide)) k, pl, uu⟩ (Nat.le_refl _) (fun x o n1 n2 _ _ _ _ e => k x o n1 n2 e)
theorem I7.more (h : I7 P w C a c RL Cl Nm BL SL PL B Rs rws cls nms H n) (hn : n ≤ n') : I7 P w C a c RL Cl Nm BL SL PL B Rs rws cls nms H n' :=
  ⟨h.wl, fun k hk => by obtain ⟨Lk, τ, ks, kb, past, b, pl, uu⟩ := h.bs k hk; exact ⟨Lk, τ, ks, kb, past, b, by omega, uu⟩, h.rl, h.rw, h.cl, h.nm, h.bl, h.sl, h.pl⟩
theorem I7.same (h : I7 P w C a c RL Cl Nm BL SL PL B Rs rws cls nms H n) (s : Same H H') : I7 P w C a c RL Cl Nm BL SL PL B Rs rws cls nms H' n :=
  ⟨h.wl.same s, fun k hk => by obtain ⟨Lk, τ, ks, kb, past, b, pl, uu⟩ := h.bs k hk; exact ⟨Lk, τ, ks, kb, past, b.same s, pl, uu⟩, s _ _ h.rl, stayRws (Same.tups s) h.rw, s _ _ h.cl, s _ _ h.nm, s _ _ h.bl, s _ _ h.sl, s _ _ h.pl⟩
/-- all but one book's own object stays -/
theorem I7.lk (s : L7 a c RL Cl Nm BL SL PL B) (hk : k < 2) (h : I7 P w C a c RL Cl Nm BL SL PL B Rs rws cls nms H n) (b : B1 P w C Rs nms H' (B k) n)
    (kk : ∀ x o, x ≠ (B k).p → H x = some o → H' x = some o) : I7 P w C a c RL Cl Nm BL SL PL B Rs rws cls nms H' n := by
  obtain ⟨nac, cs, r, sd, ea, ec⟩ := id h.wl
  obtain ⟨Lk0, τ0, ks0, kb0, past0, b0, _⟩ := h.bs k hk
  obtain ⟨dx, ob⟩ := b0.bk.ob
  have tt : TupsStay H H' := fun x xs e => kk x _ (ne_of e ob (fun z => nomatch z)) e
  have li : ∀ x xs, H x = some (.lst xs) → H' x = some (.lst xs) := fun x xs e => kk x _ (ne_of e ob (fun z => nomatch z)) e
  have di : ∀ x xs, H x = some (.dK xs) → H' x = some (.dK xs) := fun x xs e => kk x _ (ne_of e ob (fun z => nomatch z)) e
  have ni : ∀ x xs, H x = some (NDO P w x xs) → H' x = some (NDO P w x xs) := fun x xs e => kk x _ (ne_of e ob (fun z => nomatch z)) e
  have sw : ∀ {x : Addr} {o u : HO}, H x = some u → H' x = some u → H x = some o → H' x = some o := fun e1 e2 e3 => by
    rw [e1] at e3
    rw [← Option.some.inj e3]
    exact e2
  refine ⟨⟨nac, cs, r, sd, li _ _ ea, li _ _ ec⟩, fun j hj => ?_, li _ _ h.rl, stayRws tt h.rw, li _ _ h.cl, li _ _ h.nm, li _ _ h.bl, li _ _ h.sl, li _ _ h.pl⟩
  · by_cases e : j = k
    · rw [e]
      exact b
    · obtain ⟨Lk, τ, ks, kb, past, bb, pl, uu⟩ := h.bs j hj
      obtain ⟨lx, nd, _⟩ := bb.lk
      obtain ⟨ps2, eP2, _⟩ := bb.pa
      obtain ⟨ts2, eD2, _⟩ := bb.bk.done
      refine ⟨Lk, τ, ks, kb, past, bb.stay (fun x o z e2 => ?_) tt, pl, uu⟩
      rcases z with rfl | rfl | rfl | rfl | rfl | rfl
      · exact kk _ _ (s.dj j k hj hk e).pp e2
      · exact sw bb.bk.kept (di _ _ bb.bk.kept) e2
      · exact sw eD2 (li _ _ eD2) e2
      · exact sw nd.ob (ni _ _ nd.ob) e2
      · exact sw bb.st (di _ _ bb.st) e2
      · exact sw eP2 (li _ _ eP2) e2
end i7
theorem at3p {B : Nat → BA} {k : Nat} (h : k < 2) : atI [V.ref (B 0).p, .ref (B 1).p] (k : Int) = some (.ref (B k).p) := by
  match k, h with
  | 0, _ => exact atI_nat (j := 0) rfl
  | 1, _ => exact atI_nat (j := 1) rfl
theorem at2S {B : Nat → BA} {k : Nat} (h : k < 2) : atI [V.ref (B 0).S, .ref (B 1).S] (k : Int) = some (.ref (B k).S) := by
  match k, h with
  | 0, _ => exact atI_nat (j := 0) rfl
  | 1, _ => exact atI_nat (j := 1) rfl
theorem at2P {B : Nat → BA} {k : Nat} (h : k < 2) : atI [V.ref (B 0).Pa, .ref (B 1).Pa] (k : Int) = some (.ref (B k).Pa) := by
  match k, h with
  | 0, _ => exact atI_nat (j := 0) rfl
  | 1, _ => exact atI_nat (j := 1) rfl
theorem atRs {Rs : List Addr} {n : Nat} (h : n < Rs.length) : atI (Rs.map V.ref) (n : Int) = some (.ref (Rs.getD n 0)) := atI_nat (by rw [List.getElem?_map, List.getElem?_eq_getElem h, List.getD_eq_getElem?_getD, List.getElem?_eq_getElem h]; rfl)
def two (x y : BA) : Nat → BA
  | 0 => x
  | _ + 1 => y
theorem two_all {x y : BA} {p : BA → Prop} (h0 : p x) (h1 : p y) : ∀ k, k < 2 → p (two x y k)
  | 0, _ => h0
  | 1, _ => h1
theorem Dj.symm {b d : BA} (h : Dj b d) : Dj d b := ⟨h.pp.symm, h.ss.symm, h.ks.symm, h.sk.symm, h.kk.symm, h.qq.symm, h.dq.symm, h.qd.symm, h.dd.symm⟩
theorem two_dj {x y : BA} (h : Dj x y) : ∀ j k, j < 2 → k < 2 → j ≠ k → Dj (two x y j) (two x y k)
  | 0, 0, _, _, n => absurd rfl n
  | 0, 1, _, _, _ => h
  | 1, 0, _, _, _ => h.symm
  | 1, 1, _, _, n => absurd rfl n
/-- a book that was made -/
theorem made_one {C p dx Kd Dn Lk : Addr} {H H' : Hp} (np : H p = none) (ndx : H dx = none) (nKd : upd (upd H dx (.own p)) p (.ins C dx []) Kd = none) (nDn : upd (upd H dx (.own p)) p (.ins C dx []) Dn = none) (keep : ∀ c o, c ≠ p → upd (upd H dx (.own p)) p (.ins C dx []) c = some o → H' c = some o) :
    Same H H' ∧ H Kd = none ∧ H Dn = none := by
  have s5 : Same H (upd (upd H dx (.own p)) p (.ins C dx [])) := fun x o e => by
    rw [upd_ne (ne_of_none e np), upd_ne (ne_of_none e ndx)]
    exact e
  exact ⟨fun x o e => keep _ _ (ne_of_none e np) (s5 _ _ e), s5.free nKd, s5.free nDn⟩
theorem b1_new {C : Addr} {Rs : List Addr} {nms : List Str} {H : Hp} {p Kd Dn Lk S Pa : Addr} (bk : BkAt C H p Kd Dn Lk [] []) (lk : H Lk = some (NDO P w Lk [])) (st : H S = some (.dK [])) (pa : H Pa = some (.lst [])) : B1 P w C Rs nms H ⟨p, Kd, Dn, S, Pa⟩ 0 :=
  ⟨Lk, fun _ => none, [], [], [], ⟨bk, ⟨List.nodup_nil, fun x => ⟨(fun z => nomatch z), (fun z => nomatch z)⟩⟩, ⟨[], ⟨lk, (fun _ z => nomatch z)⟩, Nat.zero_le _, (fun _ z => nomatch z)⟩, st, ⟨List.nodup_nil, fun x => ⟨(fun z => nomatch z), (fun z => nomatch z)⟩⟩, ⟨[], pa, .nil⟩, trivial, (fun t n z => nomatch z), (fun e z => nomatch z)⟩, Nat.le_refl _, rfl⟩
/-! ### repr(books[at].kinds()) != repr(_law_kinds(states[at], classes)) -/
theorem kin_ok2 {X : Cx} (hK : X.K = K) {C p Kd Dn Lk S Pa Cl : Addr} {Rs : List Addr} {rws : List Rw} {cls : List Nat} {nms : List Str} {m : Nat} {τ : Tau} {ks kb : List Str} {past : List Ev} {σ : L2.St} {H : Hp} {Q : VK} {te5 te6 te3 : TE}
    (h5 : ∀ Q : VK, Q (.ref p) H → te5 σ H Q) (h6 : ∀ (H' : Hp) (Q : VK), (∀ x o, x ≠ p → H x = some o → H' x = some o) → Q (.ref S) H' → te6 σ H' Q) (h3 : ∀ (H' : Hp) (Q : VK), Q (.ref Cl) H' → te3 σ H' Q) (bs : BS P w C H p Kd Dn Lk S Pa Rs nms m τ ks kb past) (eCl : H Cl = some (.lst (nV cls))) (hrs : RwsAt H Rs rws) (rsl : Rs.length = m) (hok : ∀ r ∈ rws, RwOk r) (hcls : ClsOk rws cls) (nl : nms.length ≤ 60) (hnm : ∀ t ∈ nms, nameS t = true)
    (q : ∀ H' D, BS P w C H' p Kd Dn D S Pa Rs nms m τ ks kb past → (∀ x o, x ≠ p → H x = some o → H' x = some o) → Q (.bl false) H') :
    tOp rNe (tCB (rRepr X) (tCons (tMeth C "kinds" (spBk P w C) [] E0 te5 tNil) tNil)) (tCB (rRepr X) (tCons (tCall spLkd [] E0 (tCons te6 (tCons te3 tNil))) tNil)) σ H Q := by
  obtain ⟨dx, ob⟩ := bs.bk.ob
  have kbl := bs.rg.few bs.kb
  have ksl := bs.rg.few bs.ks
  have rwl := awLen hrs
  obtain ⟨rd, hrd⟩ : ∃ rd : Rw, rd = ⟨0, [], 0⟩ := ⟨_, rfl⟩
  have hτ : ∀ t, t ∈ kb → ∃ n, τ t = some n ∧ n < rws.length := fun t ht => by
    have := (bs.kb.mem t).mp ht
    cases e : τ t with
    | none => rw [e] at this; cases this
    | some n => exact ⟨n, rfl, by have := (bs.rg t n e).2; omega⟩
  have hrows : ∀ t ∈ kb, RwAt H (Rs.getD ((τ t).getD 0) 0) (rws.getD ((τ t).getD 0) rd) ∧ RwOk (rws.getD ((τ t).getD 0) rd) := fun t ht => by
    obtain ⟨n, en, nl⟩ := hτ t ht
    rw [en]
    show RwAt H (Rs.getD n 0) (rws.getD n rd) ∧ RwOk (rws.getD n rd)
    have hRn : n < Rs.length := by omega
    obtain ⟨r, h1, h2⟩ := awGet hrs (List.getElem?_eq_getElem hRn)
    have e1 : Rs.getD n 0 = Rs[n] := by rw [List.getD_eq_getElem?_getD, List.getElem?_eq_getElem hRn]; rfl
    have e2 : rws.getD n rd = r := by rw [List.getD_eq_getElem?_getD, h1]; rfl
    rw [e1, e2]
    exact ⟨h2, hok r (List.mem_of_getElem? h1)⟩
  refine h5 _ ⟨p, dx, _, rfl, ob, bF_no _ _ _ (by decide +kernel) (by decide +kernel) (by decide +kernel), p, Kd, Dn, Lk, _, kb, (fun t => Rs.getD ((τ t).getD 0) 0), (fun t => rws.getD ((τ t).getD 0) rd), 64, rfl, bs.bk, bs.lk, bs.kb.nd, by omega, hrows, fun H2 L D qs ys lab pm up hlab eL hqs hL hq ndq bk2 lk2 hD nDL nDq keep => ?_⟩
  obtain ⟨gs, hgs⟩ : ∃ gs : List (List Str), gs = ((grpL (fun t => lookK (rws.getD ((τ t).getD 0) rd).m.toNat (lab t)) ys).map (·.2)) := ⟨_, rfl⟩
  have hqs3 : GqAt H2 qs gs := by rw [hgs]; exact hqs
  have tx := ks_tx bs.rg bs.kb pm hnm
  have ysl := pm.length_eq
  obtain ⟨gl, gt⟩ := grp_tx (lab := fun t => lookK (rws.getD ((τ t).getD 0) rd).m.toNat (lab t)) up tx (by omega)
  rw [← hgs] at gl gt
  have nk := nice_kd gt gl
  have dk : Dp X.K H2 (.ref L) (kdD gs) := by rw [hK]; exact dp_kd eL hqs3
  have dp3 : PyData.depth (kdD gs) ≤ 40 := Nat.le_trans nk.dp (by omega)
  have fit3 := nk.fits (show 44170 ≤ 100000 by omega)
  have t2 : TupsStay H H2 := fun x xs e => keep _ _ (ne_of e ob (fun z => nomatch z)) e
  have bs2 : BS P w C H2 p Kd Dn D S Pa Rs nms m τ ks kb past := by
    obtain ⟨ps, e1, e2⟩ := bs.pa
    exact ⟨bk2, bs.kb, lk2, keep _ _ (ne_of bs.st ob (fun z => nomatch z)) bs.st, bs.ks, ⟨ps, keep _ _ (ne_of e1 ob (fun z => nomatch z)) e1, awMap (fun _ _ e => t2 _ _ e) e2⟩, bs.hi, bs.rg, bs.pr⟩
  refine ⟨.ref L, kdD gs, rfl, .inr ⟨dk, nodict_kd gs⟩, nk.sh, dp3, fit3, h6 _ _ keep (h3 _ _ ⟨S, Cl, ks, (fun t => (τ t).getD 0), cls, rfl, bs2.st, keep _ _ (ne_of eCl ob (fun z => nomatch z)) eCl, bs2.ks.nd, by omega, fun t ht => ?_, fun H3 L4 qs4 ys4 pm4 up4 eL4 hqs4 s3 => ?_⟩)⟩
  · have := (bs.ks.mem t).mp ht
    cases e : τ t with
    | none => rw [e] at this; cases this
    | some n =>
      have := (bs.rg t n e).2
      have := hcls.len
      show (τ t).getD 0 < cls.length
      rw [e]
      show n < cls.length
      omega
  obtain rfl : ys = ys4 := up_uniq (pm.trans ((bs.ks.perm bs.kb).symm.trans pm4.symm)) up up4
  have egs := kinds_same hcls hok rd (τ := τ) (ys := ys) (lab := lab) (fun t ht => hτ t (pm.mem_iff.mp ht)) (fun t ht => hlab t (pm.mem_iff.mp ht))
  rw [← egs, ← hgs] at hqs4
  have dk4 : Dp X.K H3 (.ref L4) (kdD gs) := by rw [hK]; exact dp_kd eL4 hqs4
  refine ⟨.ref L4, kdD gs, rfl, .inr ⟨dk4, nodict_kd gs⟩, nk.sh, dp3, fit3, rfl, ?_⟩
  have ebb : (!decide (V.str (kdD gs).shown = V.str (kdD gs).shown)) = false := by simp
  rw [ebb]
  exact q H3 D (bs2.same s3) fun x o n e => s3 _ _ (keep x o n e)
/-! ### the law -/
theorem map_ref_inj : ∀ {l k : List Addr}, l.map V.ref = k.map V.ref → l = k
  | [], [], _ => rfl
  | [], _ :: _, h => by simp at h
  | _ :: _, [], h => by simp at h
  | x :: l, y :: k, h => by
    rw [List.map_cons, List.map_cons] at h
    injection h with h1 h2
    injection h1 with h1
    rw [h1, map_ref_inj h2]
set_option maxHeartbeats 8000000 in
theorem law_run {fa fW fD fR fC fN fG fGb fEd : Addr} {fd fdW fdD fdR fdC fdN fdG fdGb fdEd : FuncData} {s : Shared} {a : Addr} {ns : List Int} {H : Hp} (F : Fun K "law" "law" s_law fa fd) (bL : Binds K fd ["script"] [])
    {CB fI fK : Addr} {fdI fdK : FuncData} (T : BCls K mg CB) (KB : Mk K CB fI) (GI : FnOk P w K mg base CX0 1 fI fdI ["self"] (spBi P w CB)) (bI : Binds K fdI ["self"] []) (MK : Meth K CB "kinds" fK) (GK : FnOk P w K mg base CX0 8 fK fdK ["self"] (spBk P w CB)) (bK : Binds K fdK ["self"] [])
    {fO : Addr} {fdO : FuncData} (GO : FnG P w K mg base 5 fO fdO ["well", "book", "state", "rows"] (spLd3 P w CB)) (kO : PySem.W.keepIn K (.ref fO) = true) (bO : Binds K fdO ["well", "book", "state", "rows"] []) (gO : mg "_law_looked" = some (.ref fO))
    {fWr : Addr} {fdWr : FuncData} (GWr : FnG P w K mg base 8 fWr fdWr ["well", "book", "rows", "names", "state", "past"] (spWr3 P w CB)) (kWr : PySem.W.keepIn K (.ref fWr) = true) (bWr : Binds K fdWr ["well", "book", "rows", "names", "state", "past"] []) (gWr : mg "_law_wrong_right" = some (.ref fWr))
    {fRf : Addr} {fdRf : FuncData} (GRf : FnG P w K mg base 7 fRf fdRf ["book", "word", "handed"] (spRf CB)) (kRf : PySem.W.keepIn K (.ref fRf) = true) (bRf : Binds K fdRf ["book", "word", "handed"] []) (gRf : mg "_law_refused" = some (.ref fRf))
    (GW : FnOk P w K mg base CX0 1 fW fdW ["script"] (spWell K)) (kW : PySem.W.keepIn K (.ref fW) = true) (bW : Binds K fdW ["script"] []) (gW : mg "_law_well" = some (.ref fW))
    (GD : FnOk P w K mg base CX0 1 fD fdD ["well", "many"] spDraw) (kD : PySem.W.keepIn K (.ref fD) = true) (bD : Binds K fdD ["well", "many"] []) (gD : mg "_law_draw" = some (.ref fD))
    (GR : FnOk P w K mg base CX0 4 fR fdR ["well"] spRws) (kR : PySem.W.keepIn K (.ref fR) = true) (bR : Binds K fdR ["well"] []) (gR : mg "_law_rows" = some (.ref fR))
    (GC : FnOk P w K mg base CX0 3 fC fdC ["rows"] spLcs) (kC : PySem.W.keepIn K (.ref fC) = true) (bC : Binds K fdC ["rows"] []) (gC : mg "_law_classes" = some (.ref fC))
    (GN : FnOk P w K mg base CX0 2 fN fdN ["well"] spFn) (kN : PySem.W.keepIn K (.ref fN) = true) (bN : Binds K fdN ["well"] []) (gN : mg "_law_few_names" = some (.ref fN))
    (GG : FnOk P w K mg base CX0 1 fG fdG ["state", "classes"] spLkd) (kG : PySem.W.keepIn K (.ref fG) = true) (bG : Binds K fdG ["state", "classes"] []) (gG : mg "_law_kinds" = some (.ref fG))
    (GGb : FnOk P w K mg base CX0 2 fGb fdGb ["book", "state", "past"] (spGb P w CB)) (kGb : PySem.W.keepIn K (.ref fGb) = true) (bGb : Binds K fdGb ["book", "state", "past"] []) (gGb : mg "_law_gone_back" = some (.ref fGb))
    (GEd : FnOk P w K mg base CX0 7 fEd fdEd ["well", "book", "rows", "names", "state", "past"] (spDd3 P w CB)) (kEd : PySem.W.keepIn K (.ref fEd) = true) (bEd : Binds K fdEd ["well", "book", "rows", "names", "state", "past"] []) (gEd : mg "_law_deed_done" = some (.ref fEd))
    (mr : mg "range" = none) (mp : mg "repr" = none)
    (hlen : ns.length ≤ 63) (hbits : ∀ z ∈ ns, Builtin.Int.intBits z ≤ 1048576) (e0 : Env0 P w K mg base callerA [] s H) (hS : SqL K H a (ns.map V.int)) :
    codeAny (model P w) callerA (.call (.ref fa) ⟨[.ref a], []⟩) (CR CX0 [] P w H s (fun v _ => v = .bl true) E0) s := by
  refine fn_at (k := 9) (us := [.ref a]) (vs := [.ref a]) F sc_law ⟨rfl, by decide, by decide⟩ e0 ?_ (.cons rfl .nil) rfl (fun cdv => ?_)
  · have := bL s [.ref a] (e0.mod.kin.keeps fun b o e => (e0.bs b o e).1) rfl
    simpa using this
  have hr : Room 9 (callerA.deeper (envOfC "law" (defScope s_law) s.heap.objs.size fa cdv)) := Room.deeper (k := 9) ⟨rfl, by decide, by decide⟩ _
  have hg : (callerA.deeper (envOfC "law" (defScope s_law) s.heap.objs.size fa cdv)).guards = some [] := rfl
  have R8 := hr.mono (show 8 ≤ 9 by decide)
  have R5 := hr.mono (show 5 ≤ 9 by decide)
  have R1 := hr.mono (show 1 ≤ 9 by decide)
  have R2 := hr.mono (show 2 ≤ 9 by decide)
  have R3 := hr.mono (show 3 ≤ 9 by decide)
  have R4 := hr.mono (show 4 ≤ 9 by decide)
  have R7 := hr.mono (show 7 ≤ 9 by decide)
  have hu := hu_of hr
  refine ⟨_, pss_cons (ps_set (i := 1) sc_law.nd rfl (.inl rfl) (pe_call GW R1 (by rfl) gW kW bW .nil pass0 (pa_cons (pv 0) pa_nil)))
    (pss_cons (ps_set (i := 2) sc_law.nd rfl (.inl rfl) (pe_call GR R4 (by rfl) gR kR bR .nil pass0 (pa_cons (pv 1) pa_nil)))
    (pss_cons (ps_set (i := 3) sc_law.nd rfl (.inl rfl) (pe_call GC R3 (by rfl) gC kC bC .nil pass0 (pa_cons (pv 2) pa_nil)))
    (pss_cons (ps_set (i := 4) sc_law.nd rfl (.inl rfl) (pe_call GN R2 (by rfl) gN kN bN .nil pass0 (pa_cons (pv 1) pa_nil)))
    (pss_cons (ps_set (i := 5) sc_law.nd rfl (.inl rfl) (pe_lst (pa_cons (pe_make0 KB GI R2 (by rfl) T.mgC bI .nil pass0) (pa_cons (pe_make0 KB GI R2 (by rfl) T.mgC bI .nil pass0) pa_nil))))
    (pss_cons (ps_set (i := 6) sc_law.nd rfl (.inl rfl) (pe_lst (pa_cons pe_dnewK (pa_cons pe_dnewK pa_nil))))
    (pss_cons (ps_set (i := 7) sc_law.nd rfl (.inl rfl) (pe_lst (pa_cons (pe_lst pa_nil) (pa_cons (pe_lst pa_nil) pa_nil))))
    (pss_cons (ps_set (i := 8) sc_law.nd rfl (.inl rfl) pe_int)
    (pss_cons (ps_for PassesOwn.never rfl (pi_range1 (by rfl) mr (pa_cons (pe_op op_add pe_int (pe_call GD R1 (by rfl) gD kD bD .nil pass0 (pa_cons (pv 1) (pa_cons pe_int pa_nil)))) pa_nil)) (pg_name (i := 9) sc_law.nd rfl (.inl rfl))
      (pss_cons (ps_set (i := 10) sc_law.nd rfl (.inl rfl) (pe_call GD R1 (by rfl) gD kD bD .nil pass0 (pa_cons (pv 1) (pa_cons pe_int pa_nil))))
      (pss_mid (ps_if (pt_cmpR op_eq (pe_call GD R1 (by rfl) gD kD bD .nil pass0 (pa_cons (pv 1) (pa_cons pe_int pa_nil))) pe_int (nomark _))
        (pss_one (ps_if (pt_not (pt_val (pe_callG GWr R8 hg (by rfl) gWr kWr bWr (pa_cons (pv 1) (pa_cons (pe_ix ix_list (pv 5) (pv 10) (fun _ _ => rfl)) (pa_cons (pv 2) (pa_cons (pv 4) (pa_cons (pe_ix ix_list (pv 6) (pv 10) (fun _ _ => rfl)) (pa_cons (pe_ix ix_list (pv 7) (pv 10) (fun _ _ => rfl)) pa_nil)))))))))
          (pss_one (ps_ret pe_bl)) pss_nil))
        pss_nil)
      (pss_cons (ps_if (pt_not (pt_val (pe_call GEd R7 (by rfl) gEd kEd bEd .nil pass0 (pa_cons (pv 1) (pa_cons (pe_ix ix_list (pv 5) (pv 10) (fun _ _ => rfl)) (pa_cons (pv 2) (pa_cons (pv 4) (pa_cons (pe_ix ix_list (pv 6) (pv 10) (fun _ _ => rfl)) (pa_cons (pe_ix ix_list (pv 7) (pv 10) (fun _ _ => rfl)) pa_nil)))))))))
        (pss_one (ps_ret pe_bl)) pss_nil)
      (pss_one (ps_for PassesOwn.never rfl (pi_tup (pe_tup (pa_cons (pv 10) (pa_cons (pe_op op_sub pe_int (pv 10)) pa_nil)))) (pg_name (i := 11) sc_law.nd rfl (.inl rfl))
        (pss_cons (ps_if (pt_not (pt_val (pe_callG GO R5 hg (by rfl) gO kO bO (pa_cons (pv 1) (pa_cons (pe_ix ix_list (pv 5) (pv 11) (fun _ _ => rfl)) (pa_cons (pe_ix ix_list (pv 6) (pv 11) (fun _ _ => rfl)) (pa_cons (pv 2) pa_nil)))))))
          (pss_one (ps_ret pe_bl)) pss_nil)
        (pss_one (ps_if (PW.pt (pw_and (pt_cmpR op_gt (pv 8) pe_int (nomark _)) (pw_and1 (pt_cmpR op_eq (pe_call GD R1 (by rfl) gD kD bD .nil pass0 (pa_cons (pv 1) (pa_cons pe_int pa_nil))) pe_int (nomark _)))))
          (pss_cons (ps_set (i := 8) sc_law.nd rfl (.inl rfl) (pe_op op_sub (pv 8) pe_int))
          (pss_one (ps_if (pt_cmpR op_ne (pe_callB (call_repr hg hr.units) (by rfl) mp (by decide +kernel) (pa_cons (pe_meth0 (pe_ix ix_list (pv 5) (pv 11) (fun _ _ => rfl)) T.cl MK GK R8 bK .nil pass0) pa_nil)) (pe_callB (call_repr hg hr.units) (by rfl) mp (by decide +kernel) (pa_cons (pe_call GG R1 (by rfl) gG kG bG .nil pass0 (pa_cons (pe_ix ix_list (pv 6) (pv 11) (fun _ _ => rfl)) (pa_cons (pv 3) pa_nil))) pa_nil)) (nomark _))
            (pss_one (ps_ret pe_bl)) pss_nil)))
          pss_nil)))))))))
    (pss_cons (ps_for PassesOwn.never rfl (pi_tup (pe_tup (pa_cons pe_int (pa_cons pe_int pa_nil)))) (pg_name (i := 10) sc_law.nd rfl (.inl rfl))
      (pss_cons (ps_while PassesOwn.never (pt_cmpR (op_neL0 hr.units) (pe_ix ix_list (pv 7) (pv 10) (fun _ _ => rfl)) (pe_lst pa_nil) (nomark _))
        (pss_cons (ps_if (pt_not (pt_val (pe_call GGb R2 (by rfl) gGb kGb bGb .nil pass0 (pa_cons (pe_ix ix_list (pv 5) (pv 10) (fun _ _ => rfl)) (pa_cons (pe_ix ix_list (pv 6) (pv 10) (fun _ _ => rfl)) (pa_cons (pe_ix ix_list (pv 7) (pv 10) (fun _ _ => rfl)) pa_nil))))))
          (pss_one (ps_ret pe_bl)) pss_nil)
        (pss_one (ps_if (pt_not (pt_val (pe_callG GO R5 hg (by rfl) gO kO bO (pa_cons (pv 1) (pa_cons (pe_ix ix_list (pv 5) (pv 10) (fun _ _ => rfl)) (pa_cons (pe_ix ix_list (pv 6) (pv 10) (fun _ _ => rfl)) (pa_cons (pv 2) pa_nil)))))))
          (pss_one (ps_ret pe_bl)) pss_nil))))
      (pss_one (ps_if (pt_cmpR op_ne (pe_callG GRf R7 hg (by rfl) gRf kRf bRf (pa_cons (pe_ix ix_list (pv 5) (pv 10) (fun _ _ => rfl)) (pa_cons pe_str (pa_cons (pe_tup pa_nil) pa_nil)))) pe_str (nomark _))
        (pss_one (ps_ret pe_bl)) pss_nil))))
    (pss_one (ps_ret pe_bl))))))))))), ?_⟩
  refine ⟨.ref a, rfl, a, ns, rfl, hS, hlen, hbits, fun H1 wa wc s1 hwa hwc w1 => ?_⟩
  refine ⟨.ref wa, rfl, wa, wc, rfl, w1, fun H2 RL Rs rws eRL rsl hrs hok nRa nRc w2 k2 => ?_⟩
  have rwl := awLen hrs
  refine ⟨.ref RL, rfl, RL, Rs, rws, rfl, eRL, hrs, hok, by omega, fun H3 Cl cls s3 nCl eCl hcls => ?_⟩
  obtain ⟨nCa, nCc⟩ := w2.ne_new nCl
  have w3 := w2.same s3
  refine ⟨.ref wa, rfl, wa, wc, rfl, w3, fun H4 Nm nms eNm nml1 nml hnm nNa nNc w4 k4 => ?_⟩
  have eRL4 := k4 _ _ nRa nRc (s3 _ _ eRL)
  have eCl4 := k4 _ _ nCa nCc eCl
  have hrs4 : RwsAt H4 Rs rws := stayRws (fun x xs e => k4.tup w3 e) (stayRws (Same.tups s3) hrs)
  clear k4 k2 w3 w2 w1 eCl eRL hrs s1 s3 nCl
  intro p0 dx0 np0 ndx0 nxp0
  refine ⟨p0, dx0, rfl, upd_same, fun H5 Kd0 Dn0 Lk0 bk0 eLk0 nKd0 nDn0 nLk0 keep0 => ⟨rfl, ?_⟩⟩
  obtain ⟨s5, nKd0, nDn0⟩ := made_one (Lk := Lk0) np0 ndx0 nKd0 nDn0 keep0
  intro p1 dx1 np1 ndx1 nxp1
  refine ⟨p1, dx1, rfl, upd_same, fun H6 Kd1 Dn1 Lk1 bk1 eLk1 nKd1 nDn1 nLk1 keep1 => ⟨rfl, ?_⟩⟩
  obtain ⟨s6, nKd1, nDn1⟩ := made_one (Lk := Lk1) np1 ndx1 nKd1 nDn1 keep1
  clear keep0 keep1 nLk0 nLk1
  refine ⟨(by show 2 ≤ sizeLine; decide), fun BL hBL => ?_⟩
  have s8 := same_new (o := .lst [.ref p0, .ref p1]) hBL
  have eBL : upd H6 BL (.lst [.ref p0, .ref p1]) BL = some (.lst [.ref p0, .ref p1]) := upd_same
  generalize upd H6 BL (.lst [.ref p0, .ref p1]) = H8 at s8 eBL
  intro S0 hS0
  have s9 := same_new (o := .dK []) hS0
  have eS0 : upd H8 S0 (.dK []) S0 = some (.dK []) := upd_same
  generalize upd H8 S0 (.dK []) = H9 at s9 eS0
  intro S1 hS1
  have s10 := same_new (o := .dK []) hS1
  have eS1 : upd H9 S1 (.dK []) S1 = some (.dK []) := upd_same
  generalize upd H9 S1 (.dK []) = H10 at s10 eS1
  refine ⟨(by show 2 ≤ sizeLine; decide), fun SL hSL => ?_⟩
  have s11 := same_new (o := .lst [.ref S0, .ref S1]) hSL
  have eSL : upd H10 SL (.lst [.ref S0, .ref S1]) SL = some (.lst [.ref S0, .ref S1]) := upd_same
  generalize upd H10 SL (.lst [.ref S0, .ref S1]) = H11 at s11 eSL
  refine ⟨Nat.zero_le _, fun P0 hP0 => ?_⟩
  have s12 := same_new (o := .lst []) hP0
  have eP0 : upd H11 P0 (.lst []) P0 = some (.lst []) := upd_same
  generalize upd H11 P0 (.lst []) = H12 at s12 eP0
  refine ⟨Nat.zero_le _, fun P1 hP1 => ?_⟩
  have s13 := same_new (o := .lst []) hP1
  have eP1 : upd H12 P1 (.lst []) P1 = some (.lst []) := upd_same
  generalize upd H12 P1 (.lst []) = H13 at s13 eP1
  refine ⟨(by show 2 ≤ sizeLine; decide), fun PL hPL => ?_⟩
  have s14 := same_new (o := .lst [.ref P0, .ref P1]) hPL
  have ePL : upd H13 PL (.lst [.ref P0, .ref P1]) PL = some (.lst [.ref P0, .ref P1]) := upd_same
  generalize upd H13 PL (.lst [.ref P0, .ref P1]) = H14 at s14 ePL
  obtain ⟨nac, csw, rw_, sw_, ewa, ewc⟩ := id w4
  obtain ⟨ld0, ob0⟩ := id bk0.ob
  obtain ⟨t0, eD0, _⟩ := id bk0.done
  obtain ⟨ld1, ob1⟩ := id bk1.ob
  obtain ⟨t1, eD1, _⟩ := id bk1.done
  have s78 : Same H6 H11 := s8.trans (s9.trans (s10.trans s11))
  have s711 : Same H6 H12 := s78.trans s12
  have s47 : Same H4 H6 := s5.trans s6
  -- what was there ahead is not a later thing
  have o7 : ∀ x o, H6 x = some o → x ≠ P0 ∧ x ≠ P1 ∧ x ≠ S0 ∧ x ≠ S1 := fun x o e => ⟨ne_of_none (s78 _ _ e) hP0, ne_of_none (s711 _ _ e) hP1, ne_of_none (s8 _ _ e) hS0, ne_of_none (s9 _ _ (s8 _ _ e)) hS1⟩
  have o4 : ∀ x o, H4 x = some o → x ≠ Dn0 ∧ x ≠ Dn1 ∧ x ≠ P0 ∧ x ≠ P1 := fun x o e => ⟨ne_of_none e nDn0, ne_of_none (s5 _ _ e) nDn1, (o7 x o (s47 _ _ e)).1, (o7 x o (s47 _ _ e)).2.1⟩
  have eD07 := s6 _ _ eD0
  have eD17 := eD1
  have eK07 := s6 _ _ bk0.kept
  have eK17 := bk1.kept
  have s813 : Same H8 H13 := s9.trans (s10.trans (s11.trans (s12.trans s13)))
  have s413 : Same H4 H13 := s47.trans (s8.trans s813)
  have e413 : ∀ x o, H4 x = some o → x ≠ BL ∧ x ≠ SL ∧ x ≠ PL := fun x o e => ⟨ne_of_none (s47 _ _ e) hBL, ne_of_none (s10 _ _ (s9 _ _ (s8 _ _ (s47 _ _ e)))) hSL, ne_of_none (s413 _ _ e) hPL⟩
  have e7 : ∀ x o, H6 x = some o → x ≠ BL ∧ x ≠ SL ∧ x ≠ PL := fun x o e => ⟨ne_of_none e hBL, ne_of_none (s10 _ _ (s9 _ _ (s8 _ _ e))) hSL, ne_of_none (s813 _ _ (s8 _ _ e)) hPL⟩
  obtain ⟨B, hB⟩ : ∃ B, B = two ⟨p0, Kd0, Dn0, S0, P0⟩ ⟨p1, Kd1, Dn1, S1, P1⟩ := ⟨_, rfl⟩
  have L : L7 wa wc RL Cl Nm BL SL PL B := by
    subst hB
    refine ⟨two_all (p := fun b => Ap wa wc b.Dn b.Pa b.S b.Kd) ⟨(o4 _ _ ewa).1.symm, (o4 _ _ ewc).1.symm, (o4 _ _ ewa).2.2.1.symm, (o4 _ _ ewc).2.2.1.symm, (o7 _ _ eD07).1.symm, (o7 _ _ eK07).2.2.1.symm⟩
      ⟨(o4 _ _ ewa).2.1.symm, (o4 _ _ ewc).2.1.symm, (o4 _ _ ewa).2.2.2.symm, (o4 _ _ ewc).2.2.2.symm, (o7 _ _ eD17).2.1.symm, (o7 _ _ eK17).2.2.2.symm⟩,
      two_dj ⟨ne_of_none ob0 np1, ne_of_none eS0 hS1, (o7 _ _ eK17).2.2.1.symm, (o7 _ _ eK07).2.2.2, ne_of_none bk0.kept nKd1, ne_of_none eP0 hP1, (o7 _ _ eD17).1.symm, (o7 _ _ eD07).2.1, ne_of_none eD0 nDn1⟩, fun x hx => ?_⟩
    have mk : ∀ {x : Addr}, x ≠ wa → x ≠ wc → x ≠ P0 → x ≠ Dn0 → x ≠ P1 → x ≠ Dn1 → x ≠ wa ∧ x ≠ wc ∧ ∀ k, k < 2 → x ≠ (two ⟨p0, Kd0, Dn0, S0, P0⟩ ⟨p1, Kd1, Dn1, S1, P1⟩ k).Pa ∧ x ≠ (two ⟨p0, Kd0, Dn0, S0, P0⟩ ⟨p1, Kd1, Dn1, S1, P1⟩ k).Dn := fun {x} n1 n2 n3 n4 n5 n6 => ⟨n1, n2, two_all (p := fun b => x ≠ b.Pa ∧ x ≠ b.Dn) ⟨n3, n4⟩ ⟨n5, n6⟩⟩
    simp only [List.mem_cons, List.not_mem_nil, or_false] at hx
    rcases hx with rfl | rfl | rfl | rfl | rfl | rfl
    · exact mk nRa nRc (o4 _ _ eRL4).2.2.1 (o4 _ _ eRL4).1 (o4 _ _ eRL4).2.2.2 (o4 _ _ eRL4).2.1
    · exact mk nCa nCc (o4 _ _ eCl4).2.2.1 (o4 _ _ eCl4).1 (o4 _ _ eCl4).2.2.2 (o4 _ _ eCl4).2.1
    · exact mk nNa nNc (o4 _ _ eNm).2.2.1 (o4 _ _ eNm).1 (o4 _ _ eNm).2.2.2 (o4 _ _ eNm).2.1
    · exact mk (e413 _ _ ewa).1.symm (e413 _ _ ewc).1.symm (ne_of_none (s11 _ _ (s10 _ _ (s9 _ _ eBL))) hP0) (e7 _ _ eD07).1.symm (ne_of_none (s12 _ _ (s11 _ _ (s10 _ _ (s9 _ _ eBL)))) hP1) (e7 _ _ eD17).1.symm
    · exact mk (e413 _ _ ewa).2.1.symm (e413 _ _ ewc).2.1.symm (ne_of_none eSL hP0) (e7 _ _ eD07).2.1.symm (ne_of_none (s12 _ _ eSL) hP1) (e7 _ _ eD17).2.1.symm
    · exact mk (e413 _ _ ewa).2.2.symm (e413 _ _ ewc).2.2.symm (ne_of_none (s13 _ _ eP0) hPL).symm (e7 _ _ eD07).2.2.symm (ne_of_none eP1 hPL).symm (e7 _ _ eD17).2.2.symm
  have s814 := s813.trans s14
  have s714 := s8.trans s814
  have s414 := s47.trans s714
  have i14 : I7 P w CB wa wc RL Cl Nm BL SL PL B Rs rws cls nms H14 0 := by
    subst hB
    exact ⟨w4.same s414, two_all (p := fun b => B1 P w CB Rs nms H14 b 0) (b1_new (bk0.same (s6.trans s714)) (s714 _ _ (s6 _ _ eLk0)) (s14 _ _ (s13 _ _ (s12 _ _ (s11 _ _ (s10 _ _ eS0))))) (s14 _ _ (s13 _ _ eP0)))
      (b1_new (bk1.same s714) (s714 _ _ eLk1) (s14 _ _ (s13 _ _ (s12 _ _ (s11 _ _ eS1)))) (s14 _ _ eP1)), 
      s414 _ _ eRL4, stayRws (Same.tups s414) hrs4, s414 _ _ eCl4, s414 _ _ eNm, s814 _ _ eBL, s14 _ _ (s13 _ _ (s12 _ _ eSL)), ePL⟩
  clear s814 s714 s414 s413 s813 s78 s711 s47 o7 o4 e413 e7 eD07 eD17 eK07 eK17 eD0 eD1 ob0 ob1 bk0 bk1 eLk0 eLk1 nKd0 nKd1 nDn0 nDn1 np0 np1 ndx0 ndx1 nxp0 nxp1 hBL hS0 hS1 hSL hP0 hP1 hPL s5 s6 s8 s9 s10 s11 s12 s13 s14 eBL eS0 eS1 eSL eP0 eP1 ePL ewa ewc eRL4 eCl4 hrs4 w4
  clear hB
  clear eNm nCa nCc nNa nNc nRa nRc
  refine ⟨.ref wa, rfl, wa, wc, 16, rfl, by decide, by decide, i14.wl, fun H15 z z0 z1 w15 k15 => ?_⟩
  obtain ⟨zn, rfl⟩ : ∃ zn : Nat, z = (zn : Int) := ⟨z.toNat, by omega⟩
  have i15 := i14.kp L w15 k15
  clear i14 k15 w15
  have lR := L.li RL (by simp)
  have lN := L.li Nm (by simp)
  refine ⟨30, (zn : Int), rfl, rfl, 30 + zn, by push_cast; rfl, by omega, by omega, for_range (lo := 0) (n := 30 + zn) (fun i σ H => ∃ (y9 y10 y11 : Option V) (l : Int), σ = [some (.ref a), some (.ref wa), some (.ref RL), some (.ref Cl), some (.ref Nm), some (.ref BL), some (.ref SL), some (.ref PL), some (.int l), y9, y10, y11] ∧ I7 P w CB wa wc RL Cl Nm BL SL PL B Rs rws cls nms H i) ⟨none, none, none, 6, rfl, i15⟩ (fun i σ H16 hi hp => ?_) (fun σ H16 hp => ?_)⟩
  · obtain ⟨y9, y10, y11, l, rfl, i16⟩ := hp
    refine ⟨.ref wa, rfl, wa, wc, 2, rfl, by decide, by decide, i16.wl, fun H17 at_ at0 at1 w17 k17 => ?_⟩
    have i17 := i16.kp L w17 k17
    clear i16 k17 w17
    obtain ⟨j, rfl⟩ : ∃ j : Nat, at_ = (j : Int) := ⟨at_.toNat, by omega⟩
    have hj : j < 2 := by omega
    refine ⟨fun σ' H' => σ' = [some (.ref a), some (.ref wa), some (.ref RL), some (.ref Cl), some (.ref Nm), some (.ref BL), some (.ref SL), some (.ref PL), some (.int l), some (.int (0 + (i : Int))), some (.int (j : Int)), y11] ∧ I7 P w CB wa wc RL Cl Nm BL SL PL B Rs rws cls nms H' i, ?_, ?_⟩
    · refine ⟨.ref wa, rfl, wa, wc, 5, rfl, by decide, by decide, i17.wl, fun H18 x x0 x1 w18 k18 => ⟨rfl, _, rfl, ite2 (fun _ => ?_) (fun _ => ⟨rfl, i17.kp L w18 k18⟩)⟩⟩
      have i18 := i17.kp L w18 k18
      obtain ⟨Lk, τ, ks, kb, past, hb, pl, uu⟩ := i18.bs j hj
      refine ⟨.ref wa, rfl, .ref BL, rfl, .int (j : Int), rfl, BL, _, _, .ref (B j).p, rfl, rfl, .inl (.inl i18.bl), at3p hj, .ref RL, rfl, .ref Nm, rfl, .ref SL, rfl, .int (j : Int), rfl, SL, _, _, .ref (B j).S, rfl, rfl, .inl (.inl i18.sl), at2S hj, .ref PL, rfl, .int (j : Int), rfl, PL, _, _, .ref (B j).Pa, rfl, rfl, .inl (.inl i18.pl), at2P hj, ?_⟩
      exact ⟨wa, wc, (B j).p, RL, Nm, (B j).S, (B j).Pa, (B j).Kd, (B j).Dn, Lk, Rs, rws, nms, τ, ks, kb, past, rfl, i18.wl, L.ap j hj, ⟨lR.1, lR.2.1⟩, ⟨lN.1, lN.2.1⟩, i18.rl, rsl, i18.rw, hok, i18.nm, nml1, nml, hnm, hb, fun H19 w19 k19 => ⟨true, rfl, iteF ⟨rfl, i18.kp L w19 k19⟩⟩⟩
    rintro σ2 H18 ⟨rfl, i18⟩
    clear i17
    obtain ⟨Lk, τ, ks, kb, past, hb, pl, uu⟩ := i18.bs j hj
    refine ⟨.ref wa, rfl, .ref BL, rfl, .int (j : Int), rfl, BL, _, _, .ref (B j).p, rfl, rfl, .inl (.inl i18.bl), at3p hj, .ref RL, rfl, .ref Nm, rfl, .ref SL, rfl, .int (j : Int), rfl, SL, _, _, .ref (B j).S, rfl, rfl, .inl (.inl i18.sl), at2S hj, .ref PL, rfl, .int (j : Int), rfl, PL, _, _, .ref (B j).Pa, rfl, rfl, .inl (.inl i18.pl), at2P hj, ?_⟩
    refine ⟨wa, wc, (B j).p, RL, Nm, (B j).S, (B j).Pa, (B j).Kd, (B j).Dn, Lk, Rs, rws, nms, τ, ks, kb, past, rfl, i18.wl, L.ap j hj, ⟨lR.1, lR.2.1, (lR.2.2 j hj).1, (lR.2.2 j hj).2⟩, ⟨lN.1, lN.2.1⟩, i18.rl, rsl, i18.rw, hok, i18.nm, nml1, nml, hnm, hb, by omega, fun H19 τ2 ks2 kb2 past2 w19 bs2 pl2 u2 kk2 => ⟨true, rfl, iteF ?_⟩⟩
    have i19 := i18.mv L hj w19 ⟨Lk, τ2, ks2, kb2, past2, bs2, by omega, u2.trans uu⟩ (show i ≤ i + 1 by omega) kk2
    clear i18 hb kk2 bs2 w19
    refine ⟨.int (j : Int), rfl, .int (j : Int), rfl, 1, (j : Int), rfl, rfl, (by show 2 ≤ sizeLine; decide), fun U hU => ?_⟩
    have sU := same_new (o := .tup [V.int (j : Int), .int (1 - (j : Int))]) hU
    have i20 := i19.same sU
    have eU : upd H19 U (.tup [V.int (j : Int), .int (1 - (j : Int))]) U = some (.tup [V.int (j : Int), .int (1 - (j : Int))]) := upd_same
    generalize upd H19 U (.tup [V.int (j : Int), .int (1 - (j : Int))]) = H20 at sU i20 eU
    refine ⟨U, rfl, ⟨_, SqT.of eU⟩, for_tup (K := K) (a := U) (xs := [V.int (j : Int), .int (1 - (j : Int))]) (fun m σ H => ∃ (y11 : Option V) (l : Int), σ = [some (.ref a), some (.ref wa), some (.ref RL), some (.ref Cl), some (.ref Nm), some (.ref BL), some (.ref SL), some (.ref PL), some (.int l), some (.int (0 + (i : Int))), some (.int (j : Int)), y11] ∧ I7 P w CB wa wc RL Cl Nm BL SL PL B Rs rws cls nms H (i + 1) ∧ H U = some (.tup [V.int (j : Int), .int (1 - (j : Int))])) ⟨_, l, rfl, i20, eU⟩ (fun m σ H21 _ hp => ?_) (fun m x σ H21 hx hp => ?_) (fun σ H21 hp => ?_)⟩
    · obtain ⟨_, _, _, _, e⟩ := hp
      exact SqT.of e
    · obtain ⟨y11, l, rfl, i21, eU21⟩ := hp
      obtain ⟨o, ho, rfl⟩ : ∃ o : Nat, o < 2 ∧ x = .int (o : Int) := by
        match m, hx with
        | 0, hx =>
          obtain rfl := Option.some.inj hx
          exact ⟨j, hj, rfl⟩
        | 1, hx =>
          obtain rfl := Option.some.inj hx
          exact ⟨1 - j, by omega, by congr 1; omega⟩
      clear hx
      obtain ⟨Lk, τ, ks, kb, past, hb, pl, uu⟩ := i21.bs o ho
      refine ⟨.ref wa, rfl, .ref BL, rfl, .int (o : Int), rfl, BL, _, _, .ref (B o).p, rfl, rfl, .inl (.inl i21.bl), at3p ho, .ref SL, rfl, .int (o : Int), rfl, SL, _, _, .ref (B o).S, rfl, rfl, .inl (.inl i21.sl), at2S ho, .ref RL, rfl, ?_⟩
      refine ⟨wa, wc, (B o).p, RL, (B o).S, (B o).Pa, (B o).Kd, (B o).Dn, Lk, Rs, rws, nms, 5, τ, ks, kb, past, rfl, i21.wl, L.ap o ho, ⟨lR.1, lR.2.1⟩, i21.rl, rsl, i21.rw, hok, by omega, hnm, hb, fun H22 w22 k22 => ⟨true, rfl, iteF ?_⟩⟩
      have i22 := i21.kp L w22 k22
      have eU22 := k22.tup i21.wl eU21
      clear i21 hb
      refine ⟨.int l, rfl, l, 0, rfl, rfl, _, rfl, ite2 (fun _ => ?_) (fun _ => ⟨_, l, rfl, i22, eU22⟩)⟩
      refine ⟨.ref wa, rfl, wa, wc, 6, rfl, by decide, by decide, i22.wl, fun H23 y y0 y1 w23 k23 => ⟨rfl, _, rfl, ite2 (fun _ => ?_) (fun _ => ⟨_, l, rfl, i22.kp L w23 k23, k23.tup i22.wl eU22⟩)⟩⟩
      have i23 := i22.kp L w23 k23
      have eU23 := k23.tup i22.wl eU22
      clear i22
      obtain ⟨Lk, τ, ks, kb, past, hb, pl, uu⟩ := i23.bs o ho
      refine ⟨.int l, rfl, l, 1, rfl, rfl, ?_⟩
      obtain ⟨dxo, obo⟩ := hb.bk.ob
      refine kin_ok2 (K := K) rfl (te5 := tOp (rIxL K) (tVar 5) (tVar 11)) (te6 := tOp (rIxL K) (tVar 6) (tVar 11)) (te3 := tVar 3) (fun Q q => ⟨.ref BL, rfl, .int (o : Int), rfl, BL, _, _, .ref (B o).p, rfl, rfl, .inl (.inl i23.bl), at3p ho, q⟩)
        (fun H' Q k q => ⟨.ref SL, rfl, .int (o : Int), rfl, SL, _, _, .ref (B o).S, rfl, rfl, .inl (.inl (k _ _ (ne_of i23.sl obo (fun z => nomatch z)) i23.sl)), at2S ho, q⟩) (fun H' Q q => ⟨.ref Cl, rfl, q⟩) hb i23.cl i23.rw rsl hok hcls (by omega) hnm fun H24 D b24 k24 => ?_
      exact ⟨false, rfl, iteF ⟨_, _, rfl, i23.lk L ho ⟨D, τ, ks, kb, past, b24, pl, uu⟩ k24, k24 _ _ (ne_of eU23 obo (fun z => nomatch z)) eU23⟩⟩
    · obtain ⟨y11, l, rfl, i21, _⟩ := hp
      exact ⟨_, _, _, _, rfl, i21⟩
  · obtain ⟨y9, y10, y11, l, rfl, i16⟩ := hp
    refine ⟨(by show 2 ≤ sizeLine; decide), fun U hU => ?_⟩
    have sU := same_new (o := .tup [V.int 0, .int 1]) hU
    have i17 := i16.same sU
    have eU : upd H16 U (.tup [V.int 0, .int 1]) U = some (.tup [V.int 0, .int 1]) := upd_same
    generalize upd H16 U (.tup [V.int 0, .int 1]) = H17 at sU i17 eU
    refine ⟨U, rfl, ⟨_, SqT.of eU⟩, for_tup (K := K) (a := U) (xs := [V.int 0, .int 1]) (fun m σ H => ∃ (y10 : Option V), σ = [some (.ref a), some (.ref wa), some (.ref RL), some (.ref Cl), some (.ref Nm), some (.ref BL), some (.ref SL), some (.ref PL), some (.int l), y9, y10, y11] ∧ I7 P w CB wa wc RL Cl Nm BL SL PL B Rs rws cls nms H (30 + zn) ∧ H U = some (.tup [V.int 0, .int 1])) ⟨_, rfl, i17, eU⟩ (fun m σ H21 _ hp => ?_) (fun m x σ H21 hx hp => ?_) (fun σ H21 hp => ?_)⟩
    · obtain ⟨_, _, _, e⟩ := hp
      exact SqT.of e
    · obtain ⟨y10, rfl, i21, eU21⟩ := hp
      obtain ⟨o, ho, rfl⟩ : ∃ o : Nat, o < 2 ∧ x = .int (o : Int) := by
        match m, hx with
        | 0, hx =>
          obtain rfl := Option.some.inj hx
          exact ⟨0, by decide, rfl⟩
        | 1, hx =>
          obtain rfl := Option.some.inj hx
          exact ⟨1, by decide, rfl⟩
      clear hx
      have ap := L.ap o ho
      obtain ⟨Lk0, τ0, ks0, kb0, past00, hb0, pl0, uu0⟩ := i21.bs o ho
      obtain ⟨ps0, eP0, hps0⟩ := hb0.pa
      refine ⟨fun n σ H => σ = [some (.ref a), some (.ref wa), some (.ref RL), some (.ref Cl), some (.ref Nm), some (.ref BL), some (.ref SL), some (.ref PL), some (.int l), y9, some (.int (o : Int)), y11] ∧ I7 P w CB wa wc RL Cl Nm BL SL PL B Rs rws cls nms H (30 + zn) ∧ H U = some (.tup [V.int 0, .int 1]) ∧ ∃ ps : List Addr, n = ps.length ∧ H (B o).Pa = some (.lst (ps.map V.ref)), ⟨ps0.length, rfl, i21, eU21, ps0, rfl, eP0⟩, ?_⟩
      clear i21 hb0 hps0 eP0
      rintro n σ H22 ⟨rfl, i22, eU22, ps, rfl, eP⟩
      obtain ⟨Lk, τ, ks, kb, past, hb, pl, uu⟩ := i22.bs o ho
      obtain ⟨ps', eP', hps⟩ := hb.pa
      have eps : ps' = ps := by
        rw [eP] at eP'
        have := HO.lst.inj (Option.some.inj eP')
        exact (map_ref_inj this).symm
      subst eps
      have npl := awLen hps
      refine ⟨.ref PL, rfl, .int (o : Int), rfl, PL, _, _, .ref (B o).Pa, rfl, rfl, .inl (.inl i22.pl), at2P ho, (by show 0 ≤ sizeLine; decide), fun Z hZ => ?_⟩
      have sZ := same_new (o := .lst []) hZ
      refine ⟨(B o).Pa, Z, _, rfl, rfl, sZ _ _ eP, upd_same, _, rfl, ?_⟩
      have i23 := i22.same sZ
      have hb3 := hb.same sZ
      have eU23 := sZ _ _ eU22
      generalize upd H22 Z (.lst []) = H23 at i23 hb3 eU23
      clear i22 hb eU22 sZ hps eP eP'
      refine ite2 (fun e => ?_) (fun e => ?_)
      · have hne : past ≠ [] := fun z => by
          rw [z] at npl
          have : ps' = [] := List.length_eq_zero_iff.mp npl
          rw [this] at e
          cases e
        obtain ⟨past0, ev, rfl⟩ : ∃ p0 ev, past = p0 ++ [ev] := ⟨past.dropLast, past.getLast hne, (List.dropLast_concat_getLast hne).symm⟩
        rw [List.length_append] at npl pl
        have npl : ps'.length = past0.length + 1 := npl
        refine ⟨fun σ' H' => ∃ m', m' < ps'.length ∧ (σ' = [some (.ref a), some (.ref wa), some (.ref RL), some (.ref Cl), some (.ref Nm), some (.ref BL), some (.ref SL), some (.ref PL), some (.int l), y9, some (.int (o : Int)), y11] ∧ I7 P w CB wa wc RL Cl Nm BL SL PL B Rs rws cls nms H' (30 + zn) ∧ H' U = some (.tup [V.int 0, .int 1]) ∧ ∃ ps : List Addr, m' = ps.length ∧ H' (B o).Pa = some (.lst (ps.map V.ref))), fun σ' H' z => z, ?_⟩
        refine ⟨.ref BL, rfl, .int (o : Int), rfl, BL, _, _, .ref (B o).p, rfl, rfl, .inl (.inl i23.bl), at3p ho, .ref SL, rfl, .int (o : Int), rfl, SL, _, _, .ref (B o).S, rfl, rfl, .inl (.inl i23.sl), at2S ho, .ref PL, rfl, .int (o : Int), rfl, PL, _, _, .ref (B o).Pa, rfl, rfl, .inl (.inl i23.pl), at2P ho, ?_⟩
        refine ⟨(B o).p, (B o).S, (B o).Pa, (B o).Kd, (B o).Dn, Lk, Rs, nms, 5, τ, ks, kb, past0, ev, rfl, ⟨ap.PD, ap.SK⟩, by omega, hb3, fun H24 τ' ks' kb' hb4 u4 k4 => ⟨true, rfl, iteF ?_⟩⟩
        obtain ⟨nac, csU, rU, sU', eaU, ecU⟩ := id i23.wl
        have w24 : WL H24 wa wc := ⟨nac, csU, rU, sU', k4 _ _ (ne_of eaU hb3.st (fun z => nomatch z)) ap.Pa'.symm (ne_of eaU hb3.bk.kept (fun z => nomatch z)) ap.Da.symm eaU, k4 _ _ (ne_of ecU hb3.st (fun z => nomatch z)) ap.Pc.symm (ne_of ecU hb3.bk.kept (fun z => nomatch z)) ap.Dc.symm ecU⟩
        have kk4 : KBk wa wc (B o).S (B o).Pa (B o).Kd (B o).Dn H23 H24 := fun x u _ _ n3 n4 n5 n6 e => k4 x u n3 n4 n5 n6 e
        have i24 := i23.mv L ho w24 ⟨Lk, τ', ks', kb', past0, hb4, by omega, u4.trans uu⟩ (Nat.le_refl _) kk4
        obtain ⟨ts3, eD3, _⟩ := id hb3.bk.done
        obtain ⟨ps3, eP3, _⟩ := id hb3.pa
        have eU24 := k4 _ _ (ne_of eU23 hb3.st (fun z => nomatch z)) (ne_of eU23 eP3 (fun z => nomatch z)) (ne_of eU23 hb3.bk.kept (fun z => nomatch z)) (ne_of eU23 eD3 (fun z => nomatch z)) eU23
        refine ⟨.ref wa, rfl, .ref BL, rfl, .int (o : Int), rfl, BL, _, _, .ref (B o).p, rfl, rfl, .inl (.inl i24.bl), at3p ho, .ref SL, rfl, .int (o : Int), rfl, SL, _, _, .ref (B o).S, rfl, rfl, .inl (.inl i24.sl), at2S ho, .ref RL, rfl, ?_⟩
        refine ⟨wa, wc, (B o).p, RL, (B o).S, (B o).Pa, (B o).Kd, (B o).Dn, Lk, Rs, rws, nms, 5, τ', ks', kb', past0, rfl, i24.wl, ap, ⟨lR.1, lR.2.1⟩, i24.rl, rsl, i24.rw, hok, by omega, hnm, hb4, fun H25 w25 k25 => ⟨true, rfl, iteF ?_⟩⟩
        obtain ⟨ps5, eP5, hps5⟩ := (hb4.kp i24.wl ap k25).pa
        exact ⟨past0.length, by omega, rfl, i24.kp L w25 k25, k25.tup i24.wl eU24, ps5, (awLen hps5).symm, eP5⟩
      · have hpast : past = [] := by
          have : ps' = [] := by
            cases ps' with
            | nil => rfl
            | cons _ _ => exact absurd rfl e
          rw [this] at npl
          exact List.length_eq_zero_iff.mp npl.symm
        subst hpast
        have kvl := hb3.rg.few hb3.kb
        refine ⟨.ref BL, rfl, .int (o : Int), rfl, BL, _, _, .ref (B o).p, rfl, rfl, .inl (.inl i23.bl), at3p ho, (by show 0 ≤ sizeLine; decide), fun U2 hU2 => ?_⟩
        have sU2 := same_new (o := .tup []) hU2
        exact ⟨(B o).p, (B o).Kd, (B o).Dn, Lk, U2, _, [], noN, [], [], "back", "nothing", rfl, hb3.bk.same sU2, by rw [kvE_len]; omega, upd_same, (fun z => z), .nil, ncl_nil, .inr (.inr ⟨rfl, rfl, rfl⟩), fun H24 s24 => ⟨rfl, _, rfl, ite2 (fun e => absurd e (by simp)) (fun _ => ⟨_, rfl, (i23.same sU2).same s24, s24 _ _ (sU2 _ _ eU23)⟩)⟩⟩
    · rfl
/-! ### what the top has written -/
set_option maxHeartbeats 4000000 in
theorem all_mk {l : PySem.W.OpenLaw} {w : World} {K : PySem.W.Frag} {h : Heap} {mg : Str → Option Value} {fa : Addr} (X : K.In h) (G : h.Ns mainGlobals mg) (hfa : mg "law" = some (.ref fa))
    {f0 : Addr} {od0 an0 : Option Addr} {sl0 : Array (Option Value)} {oc0 kV0 dc0 pm0 cd0 ct0 : Value}
    {f1 : Addr} {od1 an1 : Option Addr} {sl1 : Array (Option Value)} {oc1 kV1 dc1 pm1 cd1 ct1 : Value}
    {f2 : Addr} {od2 an2 : Option Addr} {sl2 : Array (Option Value)} {oc2 kV2 dc2 pm2 cd2 ct2 : Value}
    {f3 : Addr} {od3 an3 : Option Addr} {sl3 : Array (Option Value)} {oc3 kV3 dc3 pm3 cd3 ct3 : Value}
    {f4 : Addr} {od4 an4 : Option Addr} {sl4 : Array (Option Value)} {oc4 kV4 dc4 pm4 cd4 ct4 : Value}
    {f5 : Addr} {od5 an5 : Option Addr} {sl5 : Array (Option Value)} {oc5 kV5 dc5 pm5 cd5 ct5 : Value}
    {f6 : Addr} {od6 an6 : Option Addr} {sl6 : Array (Option Value)} {oc6 kV6 dc6 pm6 cd6 ct6 : Value}
    {f7 : Addr} {od7 an7 : Option Addr} {sl7 : Array (Option Value)} {oc7 kV7 dc7 pm7 cd7 ct7 : Value}
    {f8 : Addr} {od8 an8 : Option Addr} {sl8 : Array (Option Value)} {oc8 kV8 dc8 pm8 cd8 ct8 : Value}
    {f9 : Addr} {od9 an9 : Option Addr} {sl9 : Array (Option Value)} {oc9 kV9 dc9 pm9 cd9 ct9 : Value}
    {f10 : Addr} {od10 an10 : Option Addr} {sl10 : Array (Option Value)} {oc10 kV10 dc10 pm10 cd10 ct10 : Value}
    {f11 : Addr} {od11 an11 : Option Addr} {sl11 : Array (Option Value)} {oc11 kV11 dc11 pm11 cd11 ct11 : Value}
    {f12 : Addr} {od12 an12 : Option Addr} {sl12 : Array (Option Value)} {oc12 kV12 dc12 pm12 cd12 ct12 : Value}
    {f13 : Addr} {od13 an13 : Option Addr} {sl13 : Array (Option Value)} {oc13 kV13 dc13 pm13 cd13 ct13 : Value}
    {f14 : Addr} {od14 an14 : Option Addr} {sl14 : Array (Option Value)} {oc14 kV14 dc14 pm14 cd14 ct14 : Value}
    {f15 : Addr} {od15 an15 : Option Addr} {sl15 : Array (Option Value)} {oc15 kV15 dc15 pm15 cd15 ct15 : Value}
    {f16 : Addr} {od16 an16 : Option Addr} {sl16 : Array (Option Value)} {oc16 kV16 dc16 pm16 cd16 ct16 : Value}
    {f17 : Addr} {od17 an17 : Option Addr} {sl17 : Array (Option Value)} {oc17 kV17 dc17 pm17 cd17 ct17 : Value}
    {f18 : Addr} {od18 an18 : Option Addr} {sl18 : Array (Option Value)} {oc18 kV18 dc18 pm18 cd18 ct18 : Value}
    {f19 : Addr} {od19 an19 : Option Addr} {sl19 : Array (Option Value)} {oc19 kV19 dc19 pm19 cd19 ct19 : Value}
    {f20 : Addr} {od20 an20 : Option Addr} {sl20 : Array (Option Value)} {oc20 kV20 dc20 pm20 cd20 ct20 : Value}
    {f21 : Addr} {od21 an21 : Option Addr} {sl21 : Array (Option Value)} {oc21 kV21 dc21 pm21 cd21 ct21 : Value}
    {f22 : Addr} {od22 an22 : Option Addr} {sl22 : Array (Option Value)} {oc22 kV22 dc22 pm22 cd22 ct22 : Value}
    {f23 : Addr} {od23 an23 : Option Addr} {sl23 : Array (Option Value)} {oc23 kV23 dc23 pm23 cd23 ct23 : Value}
    {f24 : Addr} {od24 an24 : Option Addr} {sl24 : Array (Option Value)} {oc24 kV24 dc24 pm24 cd24 ct24 : Value}
    {f25 : Addr} {od25 an25 : Option Addr} {sl25 : Array (Option Value)} {oc25 kV25 dc25 pm25 cd25 ct25 : Value}
    {f26 : Addr} {od26 an26 : Option Addr} {sl26 : Array (Option Value)} {oc26 kV26 dc26 pm26 cd26 ct26 : Value}
    {f27 : Addr} {od27 an27 : Option Addr} {sl27 : Array (Option Value)} {oc27 kV27 dc27 pm27 cd27 ct27 : Value}
    {f28 : Addr} {od28 an28 : Option Addr} {sl28 : Array (Option Value)} {oc28 kV28 dc28 pm28 cd28 ct28 : Value}
    {f29 : Addr} {od29 an29 : Option Addr} {sl29 : Array (Option Value)} {oc29 kV29 dc29 pm29 cd29 ct29 : Value}
    {f30 : Addr} {od30 an30 : Option Addr} {sl30 : Array (Option Value)} {oc30 kV30 dc30 pm30 cd30 ct30 : Value}
    {f31 : Addr} {od31 an31 : Option Addr} {sl31 : Array (Option Value)} {oc31 kV31 dc31 pm31 cd31 ct31 : Value}
    {f32 : Addr} {od32 an32 : Option Addr} {sl32 : Array (Option Value)} {oc32 kV32 dc32 pm32 cd32 ct32 : Value}
    {f33 : Addr} {od33 an33 : Option Addr} {sl33 : Array (Option Value)} {oc33 kV33 dc33 pm33 cd33 ct33 : Value}
    {f34 : Addr} {od34 an34 : Option Addr} {sl34 : Array (Option Value)} {oc34 kV34 dc34 pm34 cd34 ct34 : Value}
    {f35 : Addr} {od35 an35 : Option Addr} {sl35 : Array (Option Value)} {oc35 kV35 dc35 pm35 cd35 ct35 : Value}
    {f36 : Addr} {od36 an36 : Option Addr} {sl36 : Array (Option Value)} {oc36 kV36 dc36 pm36 cd36 ct36 : Value}
    {f37 : Addr} {od37 an37 : Option Addr} {sl37 : Array (Option Value)} {oc37 kV37 dc37 pm37 cd37 ct37 : Value}
    {f38 : Addr} {od38 an38 : Option Addr} {sl38 : Array (Option Value)} {oc38 kV38 dc38 pm38 cd38 ct38 : Value}
    {f39 : Addr} {od39 an39 : Option Addr} {sl39 : Array (Option Value)} {oc39 kV39 dc39 pm39 cd39 ct39 : Value}
    {CWalk : Addr}
    {fWalk___init__ : Addr} {odWalk___init__ anWalk___init__ : Option Addr} {slWalk___init__ : Array (Option Value)} {ocWalk___init__ kVWalk___init__ dcWalk___init__ pmWalk___init__ cdWalk___init__ ctWalk___init__ : Value}
    {fWalk_meet : Addr} {odWalk_meet anWalk_meet : Option Addr} {slWalk_meet : Array (Option Value)} {ocWalk_meet kVWalk_meet dcWalk_meet pmWalk_meet cdWalk_meet ctWalk_meet : Value}
    {CBook : Addr}
    {fBook___init__ : Addr} {odBook___init__ anBook___init__ : Option Addr} {slBook___init__ : Array (Option Value)} {ocBook___init__ kVBook___init__ dcBook___init__ pmBook___init__ cdBook___init__ ctBook___init__ : Value}
    {fBook_check_kept : Addr} {odBook_check_kept anBook_check_kept : Option Addr} {slBook_check_kept : Array (Option Value)} {ocBook_check_kept kVBook_check_kept dcBook_check_kept pmBook_check_kept cdBook_check_kept ctBook_check_kept : Value}
    {fBook_tell : Addr} {odBook_tell anBook_tell : Option Addr} {slBook_tell : Array (Option Value)} {ocBook_tell kVBook_tell dcBook_tell pmBook_tell cdBook_tell ctBook_tell : Value}
    {fBook_forget : Addr} {odBook_forget anBook_forget : Option Addr} {slBook_forget : Array (Option Value)} {ocBook_forget kVBook_forget dcBook_forget pmBook_forget cdBook_forget ctBook_forget : Value}
    {fBook_back : Addr} {odBook_back anBook_back : Option Addr} {slBook_back : Array (Option Value)} {ocBook_back kVBook_back dcBook_back pmBook_back cdBook_back ctBook_back : Value}
    {fBook_row : Addr} {odBook_row anBook_row : Option Addr} {slBook_row : Array (Option Value)} {ocBook_row kVBook_row dcBook_row pmBook_row cdBook_row ctBook_row : Value}
    {fBook_names : Addr} {odBook_names anBook_names : Option Addr} {slBook_names : Array (Option Value)} {ocBook_names kVBook_names dcBook_names pmBook_names cdBook_names ctBook_names : Value}
    {fBook_kinds : Addr} {odBook_kinds anBook_kinds : Option Addr} {slBook_kinds : Array (Option Value)} {ocBook_kinds kVBook_kinds dcBook_kinds pmBook_kinds cdBook_kinds ctBook_kinds : Value}
    {t_LONGEST_NAME : Tok}
    {t_MOST_DEEDS : Tok}
    {t_MOST_INPUTS : Tok}
    {t_LETTERS : Tok}
    {pl_PLACES : Addr} {es_PLACES : Array DictEntry} {n_PLACES : Nat}
    {pt0_PLACES : Tok} {pt1_PLACES : Tok} {pt2_PLACES : Tok} {pt3_PLACES : Tok} {pt4_PLACES : Tok} {pt5_PLACES : Tok} {pt6_PLACES : Tok} {pt7_PLACES : Tok} {pt8_PLACES : Tok} {pt9_PLACES : Tok} {pt10_PLACES : Tok}
    {cWideError : Addr}
    {cNoRow : Addr}
    {cNoPair : Addr}
    {cNoRule : Addr}
    {cNoName : Addr}
    {cNoText : Addr}
    {cTooMany : Addr}
    {cNothing : Addr}
    (a0 : PySem.W.nsIn K mainGlobals "_wall" = some (some (.ref f0)))
    (l0 : K.lookup f0 = some ⟨oc0, od0, .func (PySem.W.fnOf "_wall" "_wall" (defArgs s_wall) (defBody s_wall) (defScope s_wall) .none kV0 dc0 pm0 an0 cd0 ct0), sl0⟩)
    (c0 : PySem.W.codeIn K cd0 "_wall" = true) (k0 : PySem.W.keepIn K (.ref f0) = true)
    (a1 : PySem.W.nsIn K mainGlobals "all_bits" = some (some (.ref f1)))
    (l1 : K.lookup f1 = some ⟨oc1, od1, .func (PySem.W.fnOf "all_bits" "all_bits" (defArgs s_all_bits) (defBody s_all_bits) (defScope s_all_bits) .none kV1 dc1 pm1 an1 cd1 ct1), sl1⟩)
    (c1 : PySem.W.codeIn K cd1 "all_bits" = true) (k1 : PySem.W.keepIn K (.ref f1) = true)
    (a2 : PySem.W.nsIn K mainGlobals "first_carry" = some (some (.ref f2)))
    (l2 : K.lookup f2 = some ⟨oc2, od2, .func (PySem.W.fnOf "first_carry" "first_carry" (defArgs s_first_carry) (defBody s_first_carry) (defScope s_first_carry) .none kV2 dc2 pm2 an2 cd2 ct2), sl2⟩)
    (c2 : PySem.W.codeIn K cd2 "first_carry" = true) (k2 : PySem.W.keepIn K (.ref f2) = true)
    (a3 : PySem.W.nsIn K mainGlobals "deed_bit" = some (some (.ref f3)))
    (l3 : K.lookup f3 = some ⟨oc3, od3, .func (PySem.W.fnOf "deed_bit" "deed_bit" (defArgs s_deed_bit) (defBody s_deed_bit) (defScope s_deed_bit) .none kV3 dc3 pm3 an3 cd3 ct3), sl3⟩)
    (c3 : PySem.W.codeIn K cd3 "deed_bit" = true) (k3 : PySem.W.keepIn K (.ref f3) = true)
    (a4 : PySem.W.nsIn K mainGlobals "bits_of" = some (some (.ref f4)))
    (l4 : K.lookup f4 = some ⟨oc4, od4, .func (PySem.W.fnOf "bits_of" "bits_of" (defArgs s_bits_of) (defBody s_bits_of) (defScope s_bits_of) .none kV4 dc4 pm4 an4 cd4 ct4), sl4⟩)
    (c4 : PySem.W.codeIn K cd4 "bits_of" = true) (k4 : PySem.W.keepIn K (.ref f4) = true)
    (a5 : PySem.W.nsIn K mainGlobals "two_or_more" = some (some (.ref f5)))
    (l5 : K.lookup f5 = some ⟨oc5, od5, .func (PySem.W.fnOf "two_or_more" "two_or_more" (defArgs s_two_or_more) (defBody s_two_or_more) (defScope s_two_or_more) .none kV5 dc5 pm5 an5 cd5 ct5), sl5⟩)
    (c5 : PySem.W.codeIn K cd5 "two_or_more" = true) (k5 : PySem.W.keepIn K (.ref f5) = true)
    (a6 : PySem.W.nsIn K mainGlobals "deed_carry" = some (some (.ref f6)))
    (l6 : K.lookup f6 = some ⟨oc6, od6, .func (PySem.W.fnOf "deed_carry" "deed_carry" (defArgs s_deed_carry) (defBody s_deed_carry) (defScope s_deed_carry) .none kV6 dc6 pm6 an6 cd6 ct6), sl6⟩)
    (c6 : PySem.W.codeIn K cd6 "deed_carry" = true) (k6 : PySem.W.keepIn K (.ref f6) = true)
    (a7 : PySem.W.nsIn K mainGlobals "carry_behind" = some (some (.ref f7)))
    (l7 : K.lookup f7 = some ⟨oc7, od7, .func (PySem.W.fnOf "carry_behind" "carry_behind" (defArgs s_carry_behind) (defBody s_carry_behind) (defScope s_carry_behind) .none kV7 dc7 pm7 an7 cd7 ct7), sl7⟩)
    (c7 : PySem.W.codeIn K cd7 "carry_behind" = true) (k7 : PySem.W.keepIn K (.ref f7) = true)
    (a8 : PySem.W.nsIn K mainGlobals "steps" = some (some (.ref f8)))
    (l8 : K.lookup f8 = some ⟨oc8, od8, .func (PySem.W.fnOf "steps" "steps" (defArgs s_steps) (defBody s_steps) (defScope s_steps) .none kV8 dc8 pm8 an8 cd8 ct8), sl8⟩)
    (c8 : PySem.W.codeIn K cd8 "steps" = true) (k8 : PySem.W.keepIn K (.ref f8) = true)
    (a9 : PySem.W.nsIn K mainGlobals "whole_machine" = some (some (.ref f9)))
    (l9 : K.lookup f9 = some ⟨oc9, od9, .func (PySem.W.fnOf "whole_machine" "whole_machine" (defArgs s_whole_machine) (defBody s_whole_machine) (defScope s_whole_machine) .none kV9 dc9 pm9 an9 cd9 ct9), sl9⟩)
    (c9 : PySem.W.codeIn K cd9 "whole_machine" = true) (k9 : PySem.W.keepIn K (.ref f9) = true)
    (a10 : PySem.W.nsIn K mainGlobals "numbered" = some (some (.ref f10)))
    (l10 : K.lookup f10 = some ⟨oc10, od10, .func (PySem.W.fnOf "numbered" "numbered" (defArgs s_numbered) (defBody s_numbered) (defScope s_numbered) .none kV10 dc10 pm10 an10 cd10 ct10), sl10⟩)
    (c10 : PySem.W.codeIn K cd10 "numbered" = true) (k10 : PySem.W.keepIn K (.ref f10) = true)
    (a11 : PySem.W.nsIn K mainGlobals "kinds_of_states" = some (some (.ref f11)))
    (l11 : K.lookup f11 = some ⟨oc11, od11, .func (PySem.W.fnOf "kinds_of_states" "kinds_of_states" (defArgs s_kinds_of_states) (defBody s_kinds_of_states) (defScope s_kinds_of_states) .none kV11 dc11 pm11 an11 cd11 ct11), sl11⟩)
    (c11 : PySem.W.codeIn K cd11 "kinds_of_states" = true) (k11 : PySem.W.keepIn K (.ref f11) = true)
    (a12 : PySem.W.nsIn K mainGlobals "least_machine" = some (some (.ref f12)))
    (l12 : K.lookup f12 = some ⟨oc12, od12, .func (PySem.W.fnOf "least_machine" "least_machine" (defArgs s_least_machine) (defBody s_least_machine) (defScope s_least_machine) .none kV12 dc12 pm12 an12 cd12 ct12), sl12⟩)
    (c12 : PySem.W.codeIn K cd12 "least_machine" = true) (k12 : PySem.W.keepIn K (.ref f12) = true)
    (a13 : PySem.W.nsIn K mainGlobals "is_whole" = some (some (.ref f13)))
    (l13 : K.lookup f13 = some ⟨oc13, od13, .func (PySem.W.fnOf "is_whole" "is_whole" (defArgs s_is_whole) (defBody s_is_whole) (defScope s_is_whole) .none kV13 dc13 pm13 an13 cd13 ct13), sl13⟩)
    (c13 : PySem.W.codeIn K cd13 "is_whole" = true) (k13 : PySem.W.keepIn K (.ref f13) = true)
    (a14 : PySem.W.nsIn K mainGlobals "is_number_below" = some (some (.ref f14)))
    (l14 : K.lookup f14 = some ⟨oc14, od14, .func (PySem.W.fnOf "is_number_below" "is_number_below" (defArgs s_is_number_below) (defBody s_is_number_below) (defScope s_is_number_below) .none kV14 dc14 pm14 an14 cd14 ct14), sl14⟩)
    (c14 : PySem.W.codeIn K cd14 "is_number_below" = true) (k14 : PySem.W.keepIn K (.ref f14) = true)
    (a15 : PySem.W.nsIn K mainGlobals "is_deed" = some (some (.ref f15)))
    (l15 : K.lookup f15 = some ⟨oc15, od15, .func (PySem.W.fnOf "is_deed" "is_deed" (defArgs s_is_deed) (defBody s_is_deed) (defScope s_is_deed) .none kV15 dc15 pm15 an15 cd15 ct15), sl15⟩)
    (c15 : PySem.W.codeIn K cd15 "is_deed" = true) (k15 : PySem.W.keepIn K (.ref f15) = true)
    (a16 : PySem.W.nsIn K mainGlobals "are_deeds" = some (some (.ref f16)))
    (l16 : K.lookup f16 = some ⟨oc16, od16, .func (PySem.W.fnOf "are_deeds" "are_deeds" (defArgs s_are_deeds) (defBody s_are_deeds) (defScope s_are_deeds) .none kV16 dc16 pm16 an16 cd16 ct16), sl16⟩)
    (c16 : PySem.W.codeIn K cd16 "are_deeds" = true) (k16 : PySem.W.keepIn K (.ref f16) = true)
    (a17 : PySem.W.nsIn K mainGlobals "is_row" = some (some (.ref f17)))
    (l17 : K.lookup f17 = some ⟨oc17, od17, .func (PySem.W.fnOf "is_row" "is_row" (defArgs s_is_row) (defBody s_is_row) (defScope s_is_row) .none kV17 dc17 pm17 an17 cd17 ct17), sl17⟩)
    (c17 : PySem.W.codeIn K cd17 "is_row" = true) (k17 : PySem.W.keepIn K (.ref f17) = true)
    (a18 : PySem.W.nsIn K mainGlobals "is_name" = some (some (.ref f18)))
    (l18 : K.lookup f18 = some ⟨oc18, od18, .func (PySem.W.fnOf "is_name" "is_name" (defArgs s_is_name) (defBody s_is_name) (defScope s_is_name) .none kV18 dc18 pm18 an18 cd18 ct18), sl18⟩)
    (c18 : PySem.W.codeIn K cd18 "is_name" = true) (k18 : PySem.W.keepIn K (.ref f18) = true)
    (a19 : PySem.W.nsIn K mainGlobals "check_name" = some (some (.ref f19)))
    (l19 : K.lookup f19 = some ⟨oc19, od19, .func (PySem.W.fnOf "check_name" "check_name" (defArgs s_check_name) (defBody s_check_name) (defScope s_check_name) .none kV19 dc19 pm19 an19 cd19 ct19), sl19⟩)
    (c19 : PySem.W.codeIn K cd19 "check_name" = true) (k19 : PySem.W.keepIn K (.ref f19) = true)
    (a20 : PySem.W.nsIn K mainGlobals "look_of" = some (some (.ref f20)))
    (l20 : K.lookup f20 = some ⟨oc20, od20, .func (PySem.W.fnOf "look_of" "look_of" (defArgs s_look_of) (defBody s_look_of) (defScope s_look_of) .none kV20 dc20 pm20 an20 cd20 ct20), sl20⟩)
    (c20 : PySem.W.codeIn K cd20 "look_of" = true) (k20 : PySem.W.keepIn K (.ref f20) = true)
    (a21 : PySem.W.nsIn K mainGlobals "_law_well" = some (some (.ref f21)))
    (l21 : K.lookup f21 = some ⟨oc21, od21, .func (PySem.W.fnOf "_law_well" "_law_well" (defArgs s_law_well) (defBody s_law_well) (defScope s_law_well) .none kV21 dc21 pm21 an21 cd21 ct21), sl21⟩)
    (c21 : PySem.W.codeIn K cd21 "_law_well" = true) (k21 : PySem.W.keepIn K (.ref f21) = true)
    (a22 : PySem.W.nsIn K mainGlobals "_law_draw" = some (some (.ref f22)))
    (l22 : K.lookup f22 = some ⟨oc22, od22, .func (PySem.W.fnOf "_law_draw" "_law_draw" (defArgs s_law_draw) (defBody s_law_draw) (defScope s_law_draw) .none kV22 dc22 pm22 an22 cd22 ct22), sl22⟩)
    (c22 : PySem.W.codeIn K cd22 "_law_draw" = true) (k22 : PySem.W.keepIn K (.ref f22) = true)
    (a23 : PySem.W.nsIn K mainGlobals "_law_first_words" = some (some (.ref f23)))
    (l23 : K.lookup f23 = some ⟨oc23, od23, .func (PySem.W.fnOf "_law_first_words" "_law_first_words" (defArgs s_law_first_words) (defBody s_law_first_words) (defScope s_law_first_words) .none kV23 dc23 pm23 an23 cd23 ct23), sl23⟩)
    (c23 : PySem.W.codeIn K cd23 "_law_first_words" = true) (k23 : PySem.W.keepIn K (.ref f23) = true)
    (a24 : PySem.W.nsIn K mainGlobals "_law_deed" = some (some (.ref f24)))
    (l24 : K.lookup f24 = some ⟨oc24, od24, .func (PySem.W.fnOf "_law_deed" "_law_deed" (defArgs s_law_deed) (defBody s_law_deed) (defScope s_law_deed) .none kV24 dc24 pm24 an24 cd24 ct24), sl24⟩)
    (c24 : PySem.W.codeIn K cd24 "_law_deed" = true) (k24 : PySem.W.keepIn K (.ref f24) = true)
    (a25 : PySem.W.nsIn K mainGlobals "_law_row" = some (some (.ref f25)))
    (l25 : K.lookup f25 = some ⟨oc25, od25, .func (PySem.W.fnOf "_law_row" "_law_row" (defArgs s_law_row) (defBody s_law_row) (defScope s_law_row) .none kV25 dc25 pm25 an25 cd25 ct25), sl25⟩)
    (c25 : PySem.W.codeIn K cd25 "_law_row" = true) (k25 : PySem.W.keepIn K (.ref f25) = true)
    (a26 : PySem.W.nsIn K mainGlobals "_law_step" = some (some (.ref f26)))
    (l26 : K.lookup f26 = some ⟨oc26, od26, .func (PySem.W.fnOf "_law_step" "_law_step" (defArgs s_law_step) (defBody s_law_step) (defScope s_law_step) .none kV26 dc26 pm26 an26 cd26 ct26), sl26⟩)
    (c26 : PySem.W.codeIn K cd26 "_law_step" = true) (k26 : PySem.W.keepIn K (.ref f26) = true)
    (a27 : PySem.W.nsIn K mainGlobals "_law_first" = some (some (.ref f27)))
    (l27 : K.lookup f27 = some ⟨oc27, od27, .func (PySem.W.fnOf "_law_first" "_law_first" (defArgs s_law_first) (defBody s_law_first) (defScope s_law_first) .none kV27 dc27 pm27 an27 cd27 ct27), sl27⟩)
    (c27 : PySem.W.codeIn K cd27 "_law_first" = true) (k27 : PySem.W.keepIn K (.ref f27) = true)
    (a28 : PySem.W.nsIn K mainGlobals "_law_choices" = some (some (.ref f28)))
    (l28 : K.lookup f28 = some ⟨oc28, od28, .func (PySem.W.fnOf "_law_choices" "_law_choices" (defArgs s_law_choices) (defBody s_law_choices) (defScope s_law_choices) .none kV28 dc28 pm28 an28 cd28 ct28), sl28⟩)
    (c28 : PySem.W.codeIn K cd28 "_law_choices" = true) (k28 : PySem.W.keepIn K (.ref f28) = true)
    (a29 : PySem.W.nsIn K mainGlobals "_law_alike" = some (some (.ref f29)))
    (l29 : K.lookup f29 = some ⟨oc29, od29, .func (PySem.W.fnOf "_law_alike" "_law_alike" (defArgs s_law_alike) (defBody s_law_alike) (defScope s_law_alike) .none kV29 dc29 pm29 an29 cd29 ct29), sl29⟩)
    (c29 : PySem.W.codeIn K cd29 "_law_alike" = true) (k29 : PySem.W.keepIn K (.ref f29) = true)
    (a30 : PySem.W.nsIn K mainGlobals "_law_rows" = some (some (.ref f30)))
    (l30 : K.lookup f30 = some ⟨oc30, od30, .func (PySem.W.fnOf "_law_rows" "_law_rows" (defArgs s_law_rows) (defBody s_law_rows) (defScope s_law_rows) .none kV30 dc30 pm30 an30 cd30 ct30), sl30⟩)
    (c30 : PySem.W.codeIn K cd30 "_law_rows" = true) (k30 : PySem.W.keepIn K (.ref f30) = true)
    (a31 : PySem.W.nsIn K mainGlobals "_law_classes" = some (some (.ref f31)))
    (l31 : K.lookup f31 = some ⟨oc31, od31, .func (PySem.W.fnOf "_law_classes" "_law_classes" (defArgs s_law_classes) (defBody s_law_classes) (defScope s_law_classes) .none kV31 dc31 pm31 an31 cd31 ct31), sl31⟩)
    (c31 : PySem.W.codeIn K cd31 "_law_classes" = true) (k31 : PySem.W.keepIn K (.ref f31) = true)
    (a32 : PySem.W.nsIn K mainGlobals "_law_kinds" = some (some (.ref f32)))
    (l32 : K.lookup f32 = some ⟨oc32, od32, .func (PySem.W.fnOf "_law_kinds" "_law_kinds" (defArgs s_law_kinds) (defBody s_law_kinds) (defScope s_law_kinds) .none kV32 dc32 pm32 an32 cd32 ct32), sl32⟩)
    (c32 : PySem.W.codeIn K cd32 "_law_kinds" = true) (k32 : PySem.W.keepIn K (.ref f32) = true)
    (a33 : PySem.W.nsIn K mainGlobals "_law_refused" = some (some (.ref f33)))
    (l33 : K.lookup f33 = some ⟨oc33, od33, .func (PySem.W.fnOf "_law_refused" "_law_refused" (defArgs s_law_refused) (defBody s_law_refused) (defScope s_law_refused) .none kV33 dc33 pm33 an33 cd33 ct33), sl33⟩)
    (c33 : PySem.W.codeIn K cd33 "_law_refused" = true) (k33 : PySem.W.keepIn K (.ref f33) = true)
    (a34 : PySem.W.nsIn K mainGlobals "_law_few_names" = some (some (.ref f34)))
    (l34 : K.lookup f34 = some ⟨oc34, od34, .func (PySem.W.fnOf "_law_few_names" "_law_few_names" (defArgs s_law_few_names) (defBody s_law_few_names) (defScope s_law_few_names) .none kV34 dc34 pm34 an34 cd34 ct34), sl34⟩)
    (c34 : PySem.W.codeIn K cd34 "_law_few_names" = true) (k34 : PySem.W.keepIn K (.ref f34) = true)
    (a35 : PySem.W.nsIn K mainGlobals "_law_gone_back" = some (some (.ref f35)))
    (l35 : K.lookup f35 = some ⟨oc35, od35, .func (PySem.W.fnOf "_law_gone_back" "_law_gone_back" (defArgs s_law_gone_back) (defBody s_law_gone_back) (defScope s_law_gone_back) .none kV35 dc35 pm35 an35 cd35 ct35), sl35⟩)
    (c35 : PySem.W.codeIn K cd35 "_law_gone_back" = true) (k35 : PySem.W.keepIn K (.ref f35) = true)
    (a36 : PySem.W.nsIn K mainGlobals "_law_deed_done" = some (some (.ref f36)))
    (l36 : K.lookup f36 = some ⟨oc36, od36, .func (PySem.W.fnOf "_law_deed_done" "_law_deed_done" (defArgs s_law_deed_done) (defBody s_law_deed_done) (defScope s_law_deed_done) .none kV36 dc36 pm36 an36 cd36 ct36), sl36⟩)
    (c36 : PySem.W.codeIn K cd36 "_law_deed_done" = true) (k36 : PySem.W.keepIn K (.ref f36) = true)
    (a37 : PySem.W.nsIn K mainGlobals "_law_wrong_right" = some (some (.ref f37)))
    (l37 : K.lookup f37 = some ⟨oc37, od37, .func (PySem.W.fnOf "_law_wrong_right" "_law_wrong_right" (defArgs s_law_wrong_right) (defBody s_law_wrong_right) (defScope s_law_wrong_right) .none kV37 dc37 pm37 an37 cd37 ct37), sl37⟩)
    (c37 : PySem.W.codeIn K cd37 "_law_wrong_right" = true) (k37 : PySem.W.keepIn K (.ref f37) = true)
    (a38 : PySem.W.nsIn K mainGlobals "_law_looked" = some (some (.ref f38)))
    (l38 : K.lookup f38 = some ⟨oc38, od38, .func (PySem.W.fnOf "_law_looked" "_law_looked" (defArgs s_law_looked) (defBody s_law_looked) (defScope s_law_looked) .none kV38 dc38 pm38 an38 cd38 ct38), sl38⟩)
    (c38 : PySem.W.codeIn K cd38 "_law_looked" = true) (k38 : PySem.W.keepIn K (.ref f38) = true)
    (a39 : PySem.W.nsIn K mainGlobals "law" = some (some (.ref f39)))
    (l39 : K.lookup f39 = some ⟨oc39, od39, .func (PySem.W.fnOf "law" "law" (defArgs s_law) (defBody s_law) (defScope s_law) .none kV39 dc39 pm39 an39 cd39 ct39), sl39⟩)
    (c39 : PySem.W.codeIn K cd39 "law" = true) (k39 : PySem.W.keepIn K (.ref f39) = true)
    (oa_Walk : PySem.W.nsIn K mainGlobals "Walk" = some (some (.ref CWalk)))
    (ma_Walk___init__ : PySem.W.findIn K (.ref CWalk) "__init__" = some (some (.ref fWalk___init__)))
    (mi_Walk___init__ : PySem.W.isFn K (.ref fWalk___init__) = true)
    (ml_Walk___init__ : K.lookup fWalk___init__ = some ⟨ocWalk___init__, odWalk___init__, .func (PySem.W.fnOf "__init__" "Walk.__init__" (defArgs sWalk___init__) (defBody sWalk___init__) (defScope sWalk___init__) .none kVWalk___init__ dcWalk___init__ pmWalk___init__ anWalk___init__ cdWalk___init__ ctWalk___init__), slWalk___init__⟩)
    (mc_Walk___init__ : PySem.W.codeIn K cdWalk___init__ "Walk.__init__" = true)
    (mk_Walk___init__ : PySem.W.keepIn K (.ref fWalk___init__) = true)
    (ma_Walk_meet : PySem.W.findIn K (.ref CWalk) "meet" = some (some (.ref fWalk_meet)))
    (mi_Walk_meet : PySem.W.isFn K (.ref fWalk_meet) = true)
    (ml_Walk_meet : K.lookup fWalk_meet = some ⟨ocWalk_meet, odWalk_meet, .func (PySem.W.fnOf "meet" "Walk.meet" (defArgs sWalk_meet) (defBody sWalk_meet) (defScope sWalk_meet) .none kVWalk_meet dcWalk_meet pmWalk_meet anWalk_meet cdWalk_meet ctWalk_meet), slWalk_meet⟩)
    (mc_Walk_meet : PySem.W.codeIn K cdWalk_meet "Walk.meet" = true)
    (mk_Walk_meet : PySem.W.keepIn K (.ref fWalk_meet) = true)
    (pg_Walk : PySem.W.plainGet K CWalk Str.empty = true)
    (hd_Walk : PySem.W.hasDictIn K CWalk = true)
    (po_Walk : PySem.W.plainOver K CWalk = true)
    (sa_Walk : PySem.W.findIn K (.ref CWalk) "__setattr__" = some (some (.builtin "object.__setattr__")))
    (mk_Walk : PySem.W.makesIn K CWalk = true)
    (kc_Walk : PySem.W.keepIn K (.ref CWalk) = true)
    (na_Walk_met : PySem.W.findIn K (.ref CWalk) "met" = some none)
    (na_Walk_numbers : PySem.W.findIn K (.ref CWalk) "numbers" = some none)
    (na_Walk_ways : PySem.W.findIn K (.ref CWalk) "ways" = some none)
    (oa_Book : PySem.W.nsIn K mainGlobals "Book" = some (some (.ref CBook)))
    (ma_Book___init__ : PySem.W.findIn K (.ref CBook) "__init__" = some (some (.ref fBook___init__)))
    (mi_Book___init__ : PySem.W.isFn K (.ref fBook___init__) = true)
    (ml_Book___init__ : K.lookup fBook___init__ = some ⟨ocBook___init__, odBook___init__, .func (PySem.W.fnOf "__init__" "Book.__init__" (defArgs sBook___init__) (defBody sBook___init__) (defScope sBook___init__) .none kVBook___init__ dcBook___init__ pmBook___init__ anBook___init__ cdBook___init__ ctBook___init__), slBook___init__⟩)
    (mc_Book___init__ : PySem.W.codeIn K cdBook___init__ "Book.__init__" = true)
    (mk_Book___init__ : PySem.W.keepIn K (.ref fBook___init__) = true)
    (ma_Book_check_kept : PySem.W.findIn K (.ref CBook) "check_kept" = some (some (.ref fBook_check_kept)))
    (mi_Book_check_kept : PySem.W.isFn K (.ref fBook_check_kept) = true)
    (ml_Book_check_kept : K.lookup fBook_check_kept = some ⟨ocBook_check_kept, odBook_check_kept, .func (PySem.W.fnOf "check_kept" "Book.check_kept" (defArgs sBook_check_kept) (defBody sBook_check_kept) (defScope sBook_check_kept) .none kVBook_check_kept dcBook_check_kept pmBook_check_kept anBook_check_kept cdBook_check_kept ctBook_check_kept), slBook_check_kept⟩)
    (mc_Book_check_kept : PySem.W.codeIn K cdBook_check_kept "Book.check_kept" = true)
    (mk_Book_check_kept : PySem.W.keepIn K (.ref fBook_check_kept) = true)
    (ma_Book_tell : PySem.W.findIn K (.ref CBook) "tell" = some (some (.ref fBook_tell)))
    (mi_Book_tell : PySem.W.isFn K (.ref fBook_tell) = true)
    (ml_Book_tell : K.lookup fBook_tell = some ⟨ocBook_tell, odBook_tell, .func (PySem.W.fnOf "tell" "Book.tell" (defArgs sBook_tell) (defBody sBook_tell) (defScope sBook_tell) .none kVBook_tell dcBook_tell pmBook_tell anBook_tell cdBook_tell ctBook_tell), slBook_tell⟩)
    (mc_Book_tell : PySem.W.codeIn K cdBook_tell "Book.tell" = true)
    (mk_Book_tell : PySem.W.keepIn K (.ref fBook_tell) = true)
    (ma_Book_forget : PySem.W.findIn K (.ref CBook) "forget" = some (some (.ref fBook_forget)))
    (mi_Book_forget : PySem.W.isFn K (.ref fBook_forget) = true)
    (ml_Book_forget : K.lookup fBook_forget = some ⟨ocBook_forget, odBook_forget, .func (PySem.W.fnOf "forget" "Book.forget" (defArgs sBook_forget) (defBody sBook_forget) (defScope sBook_forget) .none kVBook_forget dcBook_forget pmBook_forget anBook_forget cdBook_forget ctBook_forget), slBook_forget⟩)
    (mc_Book_forget : PySem.W.codeIn K cdBook_forget "Book.forget" = true)
    (mk_Book_forget : PySem.W.keepIn K (.ref fBook_forget) = true)
    (ma_Book_back : PySem.W.findIn K (.ref CBook) "back" = some (some (.ref fBook_back)))
    (mi_Book_back : PySem.W.isFn K (.ref fBook_back) = true)
    (ml_Book_back : K.lookup fBook_back = some ⟨ocBook_back, odBook_back, .func (PySem.W.fnOf "back" "Book.back" (defArgs sBook_back) (defBody sBook_back) (defScope sBook_back) .none kVBook_back dcBook_back pmBook_back anBook_back cdBook_back ctBook_back), slBook_back⟩)
    (mc_Book_back : PySem.W.codeIn K cdBook_back "Book.back" = true)
    (mk_Book_back : PySem.W.keepIn K (.ref fBook_back) = true)
    (ma_Book_row : PySem.W.findIn K (.ref CBook) "row" = some (some (.ref fBook_row)))
    (mi_Book_row : PySem.W.isFn K (.ref fBook_row) = true)
    (ml_Book_row : K.lookup fBook_row = some ⟨ocBook_row, odBook_row, .func (PySem.W.fnOf "row" "Book.row" (defArgs sBook_row) (defBody sBook_row) (defScope sBook_row) .none kVBook_row dcBook_row pmBook_row anBook_row cdBook_row ctBook_row), slBook_row⟩)
    (mc_Book_row : PySem.W.codeIn K cdBook_row "Book.row" = true)
    (mk_Book_row : PySem.W.keepIn K (.ref fBook_row) = true)
    (ma_Book_names : PySem.W.findIn K (.ref CBook) "names" = some (some (.ref fBook_names)))
    (mi_Book_names : PySem.W.isFn K (.ref fBook_names) = true)
    (ml_Book_names : K.lookup fBook_names = some ⟨ocBook_names, odBook_names, .func (PySem.W.fnOf "names" "Book.names" (defArgs sBook_names) (defBody sBook_names) (defScope sBook_names) .none kVBook_names dcBook_names pmBook_names anBook_names cdBook_names ctBook_names), slBook_names⟩)
    (mc_Book_names : PySem.W.codeIn K cdBook_names "Book.names" = true)
    (mk_Book_names : PySem.W.keepIn K (.ref fBook_names) = true)
    (ma_Book_kinds : PySem.W.findIn K (.ref CBook) "kinds" = some (some (.ref fBook_kinds)))
    (mi_Book_kinds : PySem.W.isFn K (.ref fBook_kinds) = true)
    (ml_Book_kinds : K.lookup fBook_kinds = some ⟨ocBook_kinds, odBook_kinds, .func (PySem.W.fnOf "kinds" "Book.kinds" (defArgs sBook_kinds) (defBody sBook_kinds) (defScope sBook_kinds) .none kVBook_kinds dcBook_kinds pmBook_kinds anBook_kinds cdBook_kinds ctBook_kinds), slBook_kinds⟩)
    (mc_Book_kinds : PySem.W.codeIn K cdBook_kinds "Book.kinds" = true)
    (mk_Book_kinds : PySem.W.keepIn K (.ref fBook_kinds) = true)
    (pg_Book : PySem.W.plainGet K CBook Str.empty = true)
    (hd_Book : PySem.W.hasDictIn K CBook = true)
    (po_Book : PySem.W.plainOver K CBook = true)
    (sa_Book : PySem.W.findIn K (.ref CBook) "__setattr__" = some (some (.builtin "object.__setattr__")))
    (mk_Book : PySem.W.makesIn K CBook = true)
    (kc_Book : PySem.W.keepIn K (.ref CBook) = true)
    (na_Book_kept : PySem.W.findIn K (.ref CBook) "kept" = some none)
    (na_Book_done : PySem.W.findIn K (.ref CBook) "done" = some none)
    (na_Book_looks : PySem.W.findIn K (.ref CBook) "looks" = some none)
    (v_LONGEST_NAME : PySem.W.nsIn K mainGlobals "LONGEST_NAME" = some (some (.int 8 t_LONGEST_NAME)))
    (v_MOST_DEEDS : PySem.W.nsIn K mainGlobals "MOST_DEEDS" = some (some (.int 8 t_MOST_DEEDS)))
    (v_MOST_INPUTS : PySem.W.nsIn K mainGlobals "MOST_INPUTS" = some (some (.int 3 t_MOST_INPUTS)))
    (v_LETTERS : PySem.W.nsIn K mainGlobals "LETTERS" = some (some (.str "abcdefghijklmnopqrstuvwxyz" t_LETTERS)))
    (v_PLACES : PySem.W.nsIn K mainGlobals "PLACES" = some (some (.ref pl_PLACES)))
    (pa_PLACES : K.lookup pl_PLACES = some ⟨.type "dict", none, .dict es_PLACES n_PLACES, #[]⟩)
    (pw0_PLACES : PySem.W.nsIn K pl_PLACES "none" = some (some (.int 0 pt0_PLACES)))
    (pw1_PLACES : PySem.W.nsIn K pl_PLACES "one" = some (some (.int 0 pt1_PLACES)))
    (pw2_PLACES : PySem.W.nsIn K pl_PLACES "all" = some (some (.int 0 pt2_PLACES)))
    (pw3_PLACES : PySem.W.nsIn K pl_PLACES "not" = some (some (.int 1 pt3_PLACES)))
    (pw4_PLACES : PySem.W.nsIn K pl_PLACES "neg" = some (some (.int 1 pt4_PLACES)))
    (pw5_PLACES : PySem.W.nsIn K pl_PLACES "twice" = some (some (.int 1 pt5_PLACES)))
    (pw6_PLACES : PySem.W.nsIn K pl_PLACES "and" = some (some (.int 2 pt6_PLACES)))
    (pw7_PLACES : PySem.W.nsIn K pl_PLACES "or" = some (some (.int 2 pt7_PLACES)))
    (pw8_PLACES : PySem.W.nsIn K pl_PLACES "xor" = some (some (.int 2 pt8_PLACES)))
    (pw9_PLACES : PySem.W.nsIn K pl_PLACES "add" = some (some (.int 2 pt9_PLACES)))
    (pw10_PLACES : PySem.W.nsIn K pl_PLACES "sub" = some (some (.int 2 pt10_PLACES)))
    (pk_PLACES : PySem.W.KeysLit w.params es_PLACES.toList)
    (pz_PLACES : (pl_PLACES == sysModules) = false)
    (pf_PLACES : KeysFw es_PLACES.toList)
    (a_WideError : PySem.W.nsIn K mainGlobals "WideError" = some (some (.ref cWideError)))
    (x_WideError : PySem.W.excIn K cWideError [.type "ValueError", .type "Exception", .type "BaseException", .type "object"] "ValueError.__new__" = true)
    (k_WideError : PySem.W.keepIn K (.ref cWideError) = true)
    (e1_WideError : PySem.W.findIn K (.ref cWideError) "__getattribute__" = some (some (.builtin "BaseException.__getattribute__")))
    (e2_WideError : PySem.W.findIn K (.ref cWideError) "__getattr__" = some none)
    (e3_WideError : PySem.W.subIn K (.ref cWideError) (.type "BaseException") = some true)
    (e4_WideError : PySem.W.hasDictIn K cWideError = true)
    (e5_WideError : PySem.W.findIn K (.ref cWideError) "__class__" = some (some (.builtin "object.__class__")))
    (e6_WideError : PySem.W.specialIn K (.builtin "object.__class__") "__get__" = some (some (.builtin "getset_descriptor.__get__")))
    (e7_WideError : PySem.W.takesIn K (.builtin "object.__class__") = some true)
    (e8_WideError : PySem.W.mroIn K cWideError (.type "object") = some true)
    (e9_WideError : PySem.W.isClsIn K cWideError = true)
    (e10_WideError : PySem.W.typeIn K (.ref cWideError) = some (.type "type"))
    (e11_WideError : PySem.W.subIn K (.ref cWideError) (.type "ValueError") = some true)
    (a_NoRow : PySem.W.nsIn K mainGlobals "NoRow" = some (some (.ref cNoRow)))
    (x_NoRow : PySem.W.excIn K cNoRow [.type "ValueError", .type "Exception", .type "BaseException", .type "object"] "ValueError.__new__" = true)
    (k_NoRow : PySem.W.keepIn K (.ref cNoRow) = true)
    (e1_NoRow : PySem.W.findIn K (.ref cNoRow) "__getattribute__" = some (some (.builtin "BaseException.__getattribute__")))
    (e2_NoRow : PySem.W.findIn K (.ref cNoRow) "__getattr__" = some none)
    (e3_NoRow : PySem.W.subIn K (.ref cNoRow) (.type "BaseException") = some true)
    (e4_NoRow : PySem.W.hasDictIn K cNoRow = true)
    (e5_NoRow : PySem.W.findIn K (.ref cNoRow) "__class__" = some (some (.builtin "object.__class__")))
    (e6_NoRow : PySem.W.specialIn K (.builtin "object.__class__") "__get__" = some (some (.builtin "getset_descriptor.__get__")))
    (e7_NoRow : PySem.W.takesIn K (.builtin "object.__class__") = some true)
    (e8_NoRow : PySem.W.mroIn K cNoRow (.type "object") = some true)
    (e9_NoRow : PySem.W.isClsIn K cNoRow = true)
    (e10_NoRow : PySem.W.typeIn K (.ref cNoRow) = some (.type "type"))
    (e11_NoRow : PySem.W.subIn K (.ref cNoRow) (.type "ValueError") = some true)
    (a_NoPair : PySem.W.nsIn K mainGlobals "NoPair" = some (some (.ref cNoPair)))
    (x_NoPair : PySem.W.excIn K cNoPair [.type "ValueError", .type "Exception", .type "BaseException", .type "object"] "ValueError.__new__" = true)
    (k_NoPair : PySem.W.keepIn K (.ref cNoPair) = true)
    (e1_NoPair : PySem.W.findIn K (.ref cNoPair) "__getattribute__" = some (some (.builtin "BaseException.__getattribute__")))
    (e2_NoPair : PySem.W.findIn K (.ref cNoPair) "__getattr__" = some none)
    (e3_NoPair : PySem.W.subIn K (.ref cNoPair) (.type "BaseException") = some true)
    (e4_NoPair : PySem.W.hasDictIn K cNoPair = true)
    (e5_NoPair : PySem.W.findIn K (.ref cNoPair) "__class__" = some (some (.builtin "object.__class__")))
    (e6_NoPair : PySem.W.specialIn K (.builtin "object.__class__") "__get__" = some (some (.builtin "getset_descriptor.__get__")))
    (e7_NoPair : PySem.W.takesIn K (.builtin "object.__class__") = some true)
    (e8_NoPair : PySem.W.mroIn K cNoPair (.type "object") = some true)
    (e9_NoPair : PySem.W.isClsIn K cNoPair = true)
    (e10_NoPair : PySem.W.typeIn K (.ref cNoPair) = some (.type "type"))
    (e11_NoPair : PySem.W.subIn K (.ref cNoPair) (.type "ValueError") = some true)
    (a_NoRule : PySem.W.nsIn K mainGlobals "NoRule" = some (some (.ref cNoRule)))
    (x_NoRule : PySem.W.excIn K cNoRule [.type "ValueError", .type "Exception", .type "BaseException", .type "object"] "ValueError.__new__" = true)
    (k_NoRule : PySem.W.keepIn K (.ref cNoRule) = true)
    (e1_NoRule : PySem.W.findIn K (.ref cNoRule) "__getattribute__" = some (some (.builtin "BaseException.__getattribute__")))
    (e2_NoRule : PySem.W.findIn K (.ref cNoRule) "__getattr__" = some none)
    (e3_NoRule : PySem.W.subIn K (.ref cNoRule) (.type "BaseException") = some true)
    (e4_NoRule : PySem.W.hasDictIn K cNoRule = true)
    (e5_NoRule : PySem.W.findIn K (.ref cNoRule) "__class__" = some (some (.builtin "object.__class__")))
    (e6_NoRule : PySem.W.specialIn K (.builtin "object.__class__") "__get__" = some (some (.builtin "getset_descriptor.__get__")))
    (e7_NoRule : PySem.W.takesIn K (.builtin "object.__class__") = some true)
    (e8_NoRule : PySem.W.mroIn K cNoRule (.type "object") = some true)
    (e9_NoRule : PySem.W.isClsIn K cNoRule = true)
    (e10_NoRule : PySem.W.typeIn K (.ref cNoRule) = some (.type "type"))
    (e11_NoRule : PySem.W.subIn K (.ref cNoRule) (.type "ValueError") = some true)
    (a_NoName : PySem.W.nsIn K mainGlobals "NoName" = some (some (.ref cNoName)))
    (x_NoName : PySem.W.excIn K cNoName [.type "ValueError", .type "Exception", .type "BaseException", .type "object"] "ValueError.__new__" = true)
    (k_NoName : PySem.W.keepIn K (.ref cNoName) = true)
    (e1_NoName : PySem.W.findIn K (.ref cNoName) "__getattribute__" = some (some (.builtin "BaseException.__getattribute__")))
    (e2_NoName : PySem.W.findIn K (.ref cNoName) "__getattr__" = some none)
    (e3_NoName : PySem.W.subIn K (.ref cNoName) (.type "BaseException") = some true)
    (e4_NoName : PySem.W.hasDictIn K cNoName = true)
    (e5_NoName : PySem.W.findIn K (.ref cNoName) "__class__" = some (some (.builtin "object.__class__")))
    (e6_NoName : PySem.W.specialIn K (.builtin "object.__class__") "__get__" = some (some (.builtin "getset_descriptor.__get__")))
    (e7_NoName : PySem.W.takesIn K (.builtin "object.__class__") = some true)
    (e8_NoName : PySem.W.mroIn K cNoName (.type "object") = some true)
    (e9_NoName : PySem.W.isClsIn K cNoName = true)
    (e10_NoName : PySem.W.typeIn K (.ref cNoName) = some (.type "type"))
    (e11_NoName : PySem.W.subIn K (.ref cNoName) (.type "ValueError") = some true)
    (a_NoText : PySem.W.nsIn K mainGlobals "NoText" = some (some (.ref cNoText)))
    (x_NoText : PySem.W.excIn K cNoText [.type "ValueError", .type "Exception", .type "BaseException", .type "object"] "ValueError.__new__" = true)
    (k_NoText : PySem.W.keepIn K (.ref cNoText) = true)
    (e1_NoText : PySem.W.findIn K (.ref cNoText) "__getattribute__" = some (some (.builtin "BaseException.__getattribute__")))
    (e2_NoText : PySem.W.findIn K (.ref cNoText) "__getattr__" = some none)
    (e3_NoText : PySem.W.subIn K (.ref cNoText) (.type "BaseException") = some true)
    (e4_NoText : PySem.W.hasDictIn K cNoText = true)
    (e5_NoText : PySem.W.findIn K (.ref cNoText) "__class__" = some (some (.builtin "object.__class__")))
    (e6_NoText : PySem.W.specialIn K (.builtin "object.__class__") "__get__" = some (some (.builtin "getset_descriptor.__get__")))
    (e7_NoText : PySem.W.takesIn K (.builtin "object.__class__") = some true)
    (e8_NoText : PySem.W.mroIn K cNoText (.type "object") = some true)
    (e9_NoText : PySem.W.isClsIn K cNoText = true)
    (e10_NoText : PySem.W.typeIn K (.ref cNoText) = some (.type "type"))
    (e11_NoText : PySem.W.subIn K (.ref cNoText) (.type "ValueError") = some true)
    (a_TooMany : PySem.W.nsIn K mainGlobals "TooMany" = some (some (.ref cTooMany)))
    (x_TooMany : PySem.W.excIn K cTooMany [.type "ValueError", .type "Exception", .type "BaseException", .type "object"] "ValueError.__new__" = true)
    (k_TooMany : PySem.W.keepIn K (.ref cTooMany) = true)
    (e1_TooMany : PySem.W.findIn K (.ref cTooMany) "__getattribute__" = some (some (.builtin "BaseException.__getattribute__")))
    (e2_TooMany : PySem.W.findIn K (.ref cTooMany) "__getattr__" = some none)
    (e3_TooMany : PySem.W.subIn K (.ref cTooMany) (.type "BaseException") = some true)
    (e4_TooMany : PySem.W.hasDictIn K cTooMany = true)
    (e5_TooMany : PySem.W.findIn K (.ref cTooMany) "__class__" = some (some (.builtin "object.__class__")))
    (e6_TooMany : PySem.W.specialIn K (.builtin "object.__class__") "__get__" = some (some (.builtin "getset_descriptor.__get__")))
    (e7_TooMany : PySem.W.takesIn K (.builtin "object.__class__") = some true)
    (e8_TooMany : PySem.W.mroIn K cTooMany (.type "object") = some true)
    (e9_TooMany : PySem.W.isClsIn K cTooMany = true)
    (e10_TooMany : PySem.W.typeIn K (.ref cTooMany) = some (.type "type"))
    (e11_TooMany : PySem.W.subIn K (.ref cTooMany) (.type "ValueError") = some true)
    (a_Nothing : PySem.W.nsIn K mainGlobals "Nothing" = some (some (.ref cNothing)))
    (x_Nothing : PySem.W.excIn K cNothing [.type "ValueError", .type "Exception", .type "BaseException", .type "object"] "ValueError.__new__" = true)
    (k_Nothing : PySem.W.keepIn K (.ref cNothing) = true)
    (e1_Nothing : PySem.W.findIn K (.ref cNothing) "__getattribute__" = some (some (.builtin "BaseException.__getattribute__")))
    (e2_Nothing : PySem.W.findIn K (.ref cNothing) "__getattr__" = some none)
    (e3_Nothing : PySem.W.subIn K (.ref cNothing) (.type "BaseException") = some true)
    (e4_Nothing : PySem.W.hasDictIn K cNothing = true)
    (e5_Nothing : PySem.W.findIn K (.ref cNothing) "__class__" = some (some (.builtin "object.__class__")))
    (e6_Nothing : PySem.W.specialIn K (.builtin "object.__class__") "__get__" = some (some (.builtin "getset_descriptor.__get__")))
    (e7_Nothing : PySem.W.takesIn K (.builtin "object.__class__") = some true)
    (e8_Nothing : PySem.W.mroIn K cNothing (.type "object") = some true)
    (e9_Nothing : PySem.W.isClsIn K cNothing = true)
    (e10_Nothing : PySem.W.typeIn K (.ref cNothing) = some (.type "type"))
    (e11_Nothing : PySem.W.subIn K (.ref cNothing) (.type "ValueError") = some true)
    (s_WideError_WideError : PySem.W.subIn K (.ref cWideError) (.ref cWideError) = some true)
    (s_WideError_NoRow : PySem.W.subIn K (.ref cWideError) (.ref cNoRow) = some false)
    (s_WideError_NoPair : PySem.W.subIn K (.ref cWideError) (.ref cNoPair) = some false)
    (s_WideError_NoRule : PySem.W.subIn K (.ref cWideError) (.ref cNoRule) = some false)
    (s_WideError_NoName : PySem.W.subIn K (.ref cWideError) (.ref cNoName) = some false)
    (s_WideError_NoText : PySem.W.subIn K (.ref cWideError) (.ref cNoText) = some false)
    (s_WideError_TooMany : PySem.W.subIn K (.ref cWideError) (.ref cTooMany) = some false)
    (s_WideError_Nothing : PySem.W.subIn K (.ref cWideError) (.ref cNothing) = some false)
    (s_NoRow_WideError : PySem.W.subIn K (.ref cNoRow) (.ref cWideError) = some true)
    (s_NoRow_NoRow : PySem.W.subIn K (.ref cNoRow) (.ref cNoRow) = some true)
    (s_NoRow_NoPair : PySem.W.subIn K (.ref cNoRow) (.ref cNoPair) = some false)
    (s_NoRow_NoRule : PySem.W.subIn K (.ref cNoRow) (.ref cNoRule) = some false)
    (s_NoRow_NoName : PySem.W.subIn K (.ref cNoRow) (.ref cNoName) = some false)
    (s_NoRow_NoText : PySem.W.subIn K (.ref cNoRow) (.ref cNoText) = some false)
    (s_NoRow_TooMany : PySem.W.subIn K (.ref cNoRow) (.ref cTooMany) = some false)
    (s_NoRow_Nothing : PySem.W.subIn K (.ref cNoRow) (.ref cNothing) = some false)
    (s_NoPair_WideError : PySem.W.subIn K (.ref cNoPair) (.ref cWideError) = some true)
    (s_NoPair_NoRow : PySem.W.subIn K (.ref cNoPair) (.ref cNoRow) = some false)
    (s_NoPair_NoPair : PySem.W.subIn K (.ref cNoPair) (.ref cNoPair) = some true)
    (s_NoPair_NoRule : PySem.W.subIn K (.ref cNoPair) (.ref cNoRule) = some false)
    (s_NoPair_NoName : PySem.W.subIn K (.ref cNoPair) (.ref cNoName) = some false)
    (s_NoPair_NoText : PySem.W.subIn K (.ref cNoPair) (.ref cNoText) = some false)
    (s_NoPair_TooMany : PySem.W.subIn K (.ref cNoPair) (.ref cTooMany) = some false)
    (s_NoPair_Nothing : PySem.W.subIn K (.ref cNoPair) (.ref cNothing) = some false)
    (s_NoRule_WideError : PySem.W.subIn K (.ref cNoRule) (.ref cWideError) = some true)
    (s_NoRule_NoRow : PySem.W.subIn K (.ref cNoRule) (.ref cNoRow) = some false)
    (s_NoRule_NoPair : PySem.W.subIn K (.ref cNoRule) (.ref cNoPair) = some false)
    (s_NoRule_NoRule : PySem.W.subIn K (.ref cNoRule) (.ref cNoRule) = some true)
    (s_NoRule_NoName : PySem.W.subIn K (.ref cNoRule) (.ref cNoName) = some false)
    (s_NoRule_NoText : PySem.W.subIn K (.ref cNoRule) (.ref cNoText) = some false)
    (s_NoRule_TooMany : PySem.W.subIn K (.ref cNoRule) (.ref cTooMany) = some false)
    (s_NoRule_Nothing : PySem.W.subIn K (.ref cNoRule) (.ref cNothing) = some false)
    (s_NoName_WideError : PySem.W.subIn K (.ref cNoName) (.ref cWideError) = some true)
    (s_NoName_NoRow : PySem.W.subIn K (.ref cNoName) (.ref cNoRow) = some false)
    (s_NoName_NoPair : PySem.W.subIn K (.ref cNoName) (.ref cNoPair) = some false)
    (s_NoName_NoRule : PySem.W.subIn K (.ref cNoName) (.ref cNoRule) = some false)
    (s_NoName_NoName : PySem.W.subIn K (.ref cNoName) (.ref cNoName) = some true)
    (s_NoName_NoText : PySem.W.subIn K (.ref cNoName) (.ref cNoText) = some false)
    (s_NoName_TooMany : PySem.W.subIn K (.ref cNoName) (.ref cTooMany) = some false)
    (s_NoName_Nothing : PySem.W.subIn K (.ref cNoName) (.ref cNothing) = some false)
    (s_NoText_WideError : PySem.W.subIn K (.ref cNoText) (.ref cWideError) = some true)
    (s_NoText_NoRow : PySem.W.subIn K (.ref cNoText) (.ref cNoRow) = some false)
    (s_NoText_NoPair : PySem.W.subIn K (.ref cNoText) (.ref cNoPair) = some false)
    (s_NoText_NoRule : PySem.W.subIn K (.ref cNoText) (.ref cNoRule) = some false)
    (s_NoText_NoName : PySem.W.subIn K (.ref cNoText) (.ref cNoName) = some false)
    (s_NoText_NoText : PySem.W.subIn K (.ref cNoText) (.ref cNoText) = some true)
    (s_NoText_TooMany : PySem.W.subIn K (.ref cNoText) (.ref cTooMany) = some false)
    (s_NoText_Nothing : PySem.W.subIn K (.ref cNoText) (.ref cNothing) = some false)
    (s_TooMany_WideError : PySem.W.subIn K (.ref cTooMany) (.ref cWideError) = some true)
    (s_TooMany_NoRow : PySem.W.subIn K (.ref cTooMany) (.ref cNoRow) = some false)
    (s_TooMany_NoPair : PySem.W.subIn K (.ref cTooMany) (.ref cNoPair) = some false)
    (s_TooMany_NoRule : PySem.W.subIn K (.ref cTooMany) (.ref cNoRule) = some false)
    (s_TooMany_NoName : PySem.W.subIn K (.ref cTooMany) (.ref cNoName) = some false)
    (s_TooMany_NoText : PySem.W.subIn K (.ref cTooMany) (.ref cNoText) = some false)
    (s_TooMany_TooMany : PySem.W.subIn K (.ref cTooMany) (.ref cTooMany) = some true)
    (s_TooMany_Nothing : PySem.W.subIn K (.ref cTooMany) (.ref cNothing) = some false)
    (s_Nothing_WideError : PySem.W.subIn K (.ref cNothing) (.ref cWideError) = some true)
    (s_Nothing_NoRow : PySem.W.subIn K (.ref cNothing) (.ref cNoRow) = some false)
    (s_Nothing_NoPair : PySem.W.subIn K (.ref cNothing) (.ref cNoPair) = some false)
    (s_Nothing_NoRule : PySem.W.subIn K (.ref cNothing) (.ref cNoRule) = some false)
    (s_Nothing_NoName : PySem.W.subIn K (.ref cNothing) (.ref cNoName) = some false)
    (s_Nothing_NoText : PySem.W.subIn K (.ref cNothing) (.ref cNoText) = some false)
    (s_Nothing_TooMany : PySem.W.subIn K (.ref cNothing) (.ref cTooMany) = some false)
    (s_Nothing_Nothing : PySem.W.subIn K (.ref cNothing) (.ref cNothing) = some true)
    (z_ValueError : PySem.W.nsIn K mainGlobals "ValueError" = some none)
    (z_abs : PySem.W.nsIn K mainGlobals "abs" = some none)
    (z_all : PySem.W.nsIn K mainGlobals "all" = some none)
    (z_bool : PySem.W.nsIn K mainGlobals "bool" = some none)
    (z_enumerate : PySem.W.nsIn K mainGlobals "enumerate" = some none)
    (z_int : PySem.W.nsIn K mainGlobals "int" = some none)
    (z_isinstance : PySem.W.nsIn K mainGlobals "isinstance" = some none)
    (z_len : PySem.W.nsIn K mainGlobals "len" = some none)
    (z_list : PySem.W.nsIn K mainGlobals "list" = some none)
    (z_max : PySem.W.nsIn K mainGlobals "max" = some none)
    (z_range : PySem.W.nsIn K mainGlobals "range" = some none)
    (z_repr : PySem.W.nsIn K mainGlobals "repr" = some none)
    (z_sorted : PySem.W.nsIn K mainGlobals "sorted" = some none)
    (z_str : PySem.W.nsIn K mainGlobals "str" = some none)
    (z_tuple : PySem.W.nsIn K mainGlobals "tuple" = some none)
    (z_zip : PySem.W.nsIn K mainGlobals "zip" = some none)
    : ∀ (s : Shared) (a : Addr) (ns : List Int) (base : Heap) (H : Hp), ns.length ≤ 63 → (∀ z ∈ ns, Builtin.Int.intBits z ≤ 1048576) → Env0 l.prog w K mg base callerA [] s H → SqL K H a (ns.map V.int) →
      codeAny (model l.prog w) callerA (.call (.ref fa) ⟨[.ref a], []⟩) (CR CX0 [] l.prog w H s (fun v _ => v = .bl true) E0) s := by
  have F_wall := fun_mk (st := s_wall) l0 c0 k0
  have b_wall := F_wall.binds (ps := ["k"]) fun _ _ _ _ _ _ us hl => match us, hl with | [_], _ => rfl
  have g_wall := PySem.W.mg_of X G a0
  have F_all_bits := fun_mk (st := s_all_bits) l1 c1 k1
  have b_all_bits := F_all_bits.binds (ps := ["many"]) fun _ _ _ _ _ _ us hl => match us, hl with | [_], _ => rfl
  have g_all_bits := PySem.W.mg_of X G a1
  have F_first_carry := fun_mk (st := s_first_carry) l2 c2 k2
  have b_first_carry := F_first_carry.binds (ps := ["row"]) fun _ _ _ _ _ _ us hl => match us, hl with | [_], _ => rfl
  have g_first_carry := PySem.W.mg_of X G a2
  have F_deed_bit := fun_mk (st := s_deed_bit) l3 c3 k3
  have b_deed_bit := F_deed_bit.binds (ps := ["deed", "held", "told"]) fun _ _ _ _ _ _ us hl => match us, hl with | [_, _, _], _ => rfl
  have g_deed_bit := PySem.W.mg_of X G a3
  have F_bits_of := fun_mk (st := s_bits_of) l4 c4 k4
  have b_bits_of := F_bits_of.binds (ps := ["row", "carry", "bits"]) fun _ _ _ _ _ _ us hl => match us, hl with | [_, _, _], _ => rfl
  have g_bits_of := PySem.W.mg_of X G a4
  have F_two_or_more := fun_mk (st := s_two_or_more) l5 c5 k5
  have b_two_or_more := F_two_or_more.binds (ps := ["one", "other", "third"]) fun _ _ _ _ _ _ us hl => match us, hl with | [_, _, _], _ => rfl
  have g_two_or_more := PySem.W.mg_of X G a5
  have F_deed_carry := fun_mk (st := s_deed_carry) l6 c6 k6
  have b_deed_carry := F_deed_carry.binds (ps := ["deed", "held", "told"]) fun _ _ _ _ _ _ us hl => match us, hl with | [_, _, _], _ => rfl
  have g_deed_carry := PySem.W.mg_of X G a6
  have F_carry_behind := fun_mk (st := s_carry_behind) l7 c7 k7
  have b_carry_behind := F_carry_behind.binds (ps := ["row", "carry", "told"]) fun _ _ _ _ _ _ us hl => match us, hl with | [_, _, _], _ => rfl
  have g_carry_behind := PySem.W.mg_of X G a7
  have F_steps := fun_mk (st := s_steps) l8 c8 k8
  have b_steps := F_steps.binds (ps := ["row", "carry"]) fun _ _ _ _ _ _ us hl => match us, hl with | [_, _], _ => rfl
  have g_steps := PySem.W.mg_of X G a8
  have F_whole_machine := fun_mk (st := s_whole_machine) l9 c9 k9
  have b_whole_machine := F_whole_machine.binds (ps := ["row"]) fun _ _ _ _ _ _ us hl => match us, hl with | [_], _ => rfl
  have g_whole_machine := PySem.W.mg_of X G a9
  have F_numbered := fun_mk (st := s_numbered) l10 c10 k10
  have b_numbered := F_numbered.binds (ps := ["looks"]) fun _ _ _ _ _ _ us hl => match us, hl with | [_], _ => rfl
  have g_numbered := PySem.W.mg_of X G a10
  have F_kinds_of_states := fun_mk (st := s_kinds_of_states) l11 c11 k11
  have b_kinds_of_states := F_kinds_of_states.binds (ps := ["machine"]) fun _ _ _ _ _ _ us hl => match us, hl with | [_], _ => rfl
  have g_kinds_of_states := PySem.W.mg_of X G a11
  have F_least_machine := fun_mk (st := s_least_machine) l12 c12 k12
  have b_least_machine := F_least_machine.binds (ps := ["row"]) fun _ _ _ _ _ _ us hl => match us, hl with | [_], _ => rfl
  have g_least_machine := PySem.W.mg_of X G a12
  have F_is_whole := fun_mk (st := s_is_whole) l13 c13 k13
  have b_is_whole := F_is_whole.binds (ps := ["thing"]) fun _ _ _ _ _ _ us hl => match us, hl with | [_], _ => rfl
  have g_is_whole := PySem.W.mg_of X G a13
  have F_is_number_below := fun_mk (st := s_is_number_below) l14 c14 k14
  have b_is_number_below := F_is_number_below.binds (ps := ["thing", "many"]) fun _ _ _ _ _ _ us hl => match us, hl with | [_, _], _ => rfl
  have g_is_number_below := PySem.W.mg_of X G a14
  have F_is_deed := fun_mk (st := s_is_deed) l15 c15 k15
  have b_is_deed := F_is_deed.binds (ps := ["thing", "ahead"]) fun _ _ _ _ _ _ us hl => match us, hl with | [_, _], _ => rfl
  have g_is_deed := PySem.W.mg_of X G a15
  have F_are_deeds := fun_mk (st := s_are_deeds) l16 c16 k16
  have b_are_deeds := F_are_deeds.binds (ps := ["thing", "many"]) fun _ _ _ _ _ _ us hl => match us, hl with | [_, _], _ => rfl
  have g_are_deeds := PySem.W.mg_of X G a16
  have F_is_row := fun_mk (st := s_is_row) l17 c17 k17
  have b_is_row := F_is_row.binds (ps := ["thing"]) fun _ _ _ _ _ _ us hl => match us, hl with | [_], _ => rfl
  have g_is_row := PySem.W.mg_of X G a17
  have F_is_name := fun_mk (st := s_is_name) l18 c18 k18
  have b_is_name := F_is_name.binds (ps := ["thing"]) fun _ _ _ _ _ _ us hl => match us, hl with | [_], _ => rfl
  have g_is_name := PySem.W.mg_of X G a18
  have F_check_name := fun_mk (st := s_check_name) l19 c19 k19
  have b_check_name := F_check_name.binds (ps := ["thing"]) fun _ _ _ _ _ _ us hl => match us, hl with | [_], _ => rfl
  have g_check_name := PySem.W.mg_of X G a19
  have F_look_of := fun_mk (st := s_look_of) l20 c20 k20
  have b_look_of := F_look_of.binds (ps := ["row"]) fun _ _ _ _ _ _ us hl => match us, hl with | [_], _ => rfl
  have g_look_of := PySem.W.mg_of X G a20
  have F_law_well := fun_mk (st := s_law_well) l21 c21 k21
  have b_law_well := F_law_well.binds (ps := ["script"]) fun _ _ _ _ _ _ us hl => match us, hl with | [_], _ => rfl
  have g_law_well := PySem.W.mg_of X G a21
  have F_law_draw := fun_mk (st := s_law_draw) l22 c22 k22
  have b_law_draw := F_law_draw.binds (ps := ["well", "many"]) fun _ _ _ _ _ _ us hl => match us, hl with | [_, _], _ => rfl
  have g_law_draw := PySem.W.mg_of X G a22
  have F_law_first_words := fun_mk (st := s_law_first_words) l23 c23 k23
  have b_law_first_words := F_law_first_words.binds (ps := []) fun _ _ _ _ _ _ us hl => match us, hl with | [], _ => rfl
  have g_law_first_words := PySem.W.mg_of X G a23
  have F_law_deed := fun_mk (st := s_law_deed) l24 c24 k24
  have b_law_deed := F_law_deed.binds (ps := ["well", "ahead"]) fun _ _ _ _ _ _ us hl => match us, hl with | [_, _], _ => rfl
  have g_law_deed := PySem.W.mg_of X G a24
  have F_law_row := fun_mk (st := s_law_row) l25 c25 k25
  have b_law_row := F_law_row.binds (ps := ["well", "many", "most"]) fun _ _ _ _ _ _ us hl => match us, hl with | [_, _, _], _ => rfl
  have g_law_row := PySem.W.mg_of X G a25
  have F_law_step := fun_mk (st := s_law_step) l26 c26 k26
  have b_law_step := F_law_step.binds (ps := ["row", "carry", "bits"]) fun _ _ _ _ _ _ us hl => match us, hl with | [_, _, _], _ => rfl
  have g_law_step := PySem.W.mg_of X G a26
  have F_law_first := fun_mk (st := s_law_first) l27 c27 k27
  have b_law_first := F_law_first.binds (ps := ["row"]) fun _ _ _ _ _ _ us hl => match us, hl with | [_], _ => rfl
  have g_law_first := PySem.W.mg_of X G a27
  have F_law_choices := fun_mk (st := s_law_choices) l28 c28 k28
  have b_law_choices := F_law_choices.binds (ps := ["many"]) fun _ _ _ _ _ _ us hl => match us, hl with | [_], _ => rfl
  have g_law_choices := PySem.W.mg_of X G a28
  have F_law_alike := fun_mk (st := s_law_alike) l29 c29 k29
  have b_law_alike := F_law_alike.binds (ps := ["row", "other"]) fun _ _ _ _ _ _ us hl => match us, hl with | [_, _], _ => rfl
  have g_law_alike := PySem.W.mg_of X G a29
  have F_law_rows := fun_mk (st := s_law_rows) l30 c30 k30
  have b_law_rows := F_law_rows.binds (ps := ["well"]) fun _ _ _ _ _ _ us hl => match us, hl with | [_], _ => rfl
  have g_law_rows := PySem.W.mg_of X G a30
  have F_law_classes := fun_mk (st := s_law_classes) l31 c31 k31
  have b_law_classes := F_law_classes.binds (ps := ["rows"]) fun _ _ _ _ _ _ us hl => match us, hl with | [_], _ => rfl
  have g_law_classes := PySem.W.mg_of X G a31
  have F_law_kinds := fun_mk (st := s_law_kinds) l32 c32 k32
  have b_law_kinds := F_law_kinds.binds (ps := ["state", "classes"]) fun _ _ _ _ _ _ us hl => match us, hl with | [_, _], _ => rfl
  have g_law_kinds := PySem.W.mg_of X G a32
  have F_law_refused := fun_mk (st := s_law_refused) l33 c33 k33
  have b_law_refused := F_law_refused.binds (ps := ["book", "word", "handed"]) fun _ _ _ _ _ _ us hl => match us, hl with | [_, _, _], _ => rfl
  have g_law_refused := PySem.W.mg_of X G a33
  have F_law_few_names := fun_mk (st := s_law_few_names) l34 c34 k34
  have b_law_few_names := F_law_few_names.binds (ps := ["well"]) fun _ _ _ _ _ _ us hl => match us, hl with | [_], _ => rfl
  have g_law_few_names := PySem.W.mg_of X G a34
  have F_law_gone_back := fun_mk (st := s_law_gone_back) l35 c35 k35
  have b_law_gone_back := F_law_gone_back.binds (ps := ["book", "state", "past"]) fun _ _ _ _ _ _ us hl => match us, hl with | [_, _, _], _ => rfl
  have g_law_gone_back := PySem.W.mg_of X G a35
  have F_law_deed_done := fun_mk (st := s_law_deed_done) l36 c36 k36
  have b_law_deed_done := F_law_deed_done.binds (ps := ["well", "book", "rows", "names", "state", "past"]) fun _ _ _ _ _ _ us hl => match us, hl with | [_, _, _, _, _, _], _ => rfl
  have g_law_deed_done := PySem.W.mg_of X G a36
  have F_law_wrong_right := fun_mk (st := s_law_wrong_right) l37 c37 k37
  have b_law_wrong_right := F_law_wrong_right.binds (ps := ["well", "book", "rows", "names", "state", "past"]) fun _ _ _ _ _ _ us hl => match us, hl with | [_, _, _, _, _, _], _ => rfl
  have g_law_wrong_right := PySem.W.mg_of X G a37
  have F_law_looked := fun_mk (st := s_law_looked) l38 c38 k38
  have b_law_looked := F_law_looked.binds (ps := ["well", "book", "state", "rows"]) fun _ _ _ _ _ _ us hl => match us, hl with | [_, _, _, _], _ => rfl
  have g_law_looked := PySem.W.mg_of X G a38
  have F_law := fun_mk (st := s_law) l39 c39 k39
  have b_law := F_law.binds (ps := ["script"]) fun _ _ _ _ _ _ us hl => match us, hl with | [_], _ => rfl
  obtain rfl : fa = f39 := by
    have e := hfa.symm.trans (PySem.W.mg_of X G a39)
    cases e
    rfl
  have FWalk___init__ := fun_mk (st := sWalk___init__) ml_Walk___init__ mc_Walk___init__ mk_Walk___init__
  have MWalk___init__ : Meth K CWalk "__init__" fWalk___init__ := ⟨ma_Walk___init__, mi_Walk___init__, mk_Walk___init__⟩
  have FWalk_meet := fun_mk (st := sWalk_meet) ml_Walk_meet mc_Walk_meet mk_Walk_meet
  have MWalk_meet : Meth K CWalk "meet" fWalk_meet := ⟨ma_Walk_meet, mi_Walk_meet, mk_Walk_meet⟩
  have TWalk : Cls K CWalk := ⟨pg_Walk, hd_Walk, po_Walk, sa_Walk⟩
  have gWalk := PySem.W.mg_of X G oa_Walk
  have KWalk : Mk K CWalk fWalk___init__ := ⟨mk_Walk, ma_Walk___init__, mi_Walk___init__, kc_Walk⟩
  have FBook___init__ := fun_mk (st := sBook___init__) ml_Book___init__ mc_Book___init__ mk_Book___init__
  have MBook___init__ : Meth K CBook "__init__" fBook___init__ := ⟨ma_Book___init__, mi_Book___init__, mk_Book___init__⟩
  have FBook_check_kept := fun_mk (st := sBook_check_kept) ml_Book_check_kept mc_Book_check_kept mk_Book_check_kept
  have MBook_check_kept : Meth K CBook "check_kept" fBook_check_kept := ⟨ma_Book_check_kept, mi_Book_check_kept, mk_Book_check_kept⟩
  have FBook_tell := fun_mk (st := sBook_tell) ml_Book_tell mc_Book_tell mk_Book_tell
  have MBook_tell : Meth K CBook "tell" fBook_tell := ⟨ma_Book_tell, mi_Book_tell, mk_Book_tell⟩
  have FBook_forget := fun_mk (st := sBook_forget) ml_Book_forget mc_Book_forget mk_Book_forget
  have MBook_forget : Meth K CBook "forget" fBook_forget := ⟨ma_Book_forget, mi_Book_forget, mk_Book_forget⟩
  have FBook_back := fun_mk (st := sBook_back) ml_Book_back mc_Book_back mk_Book_back
  have MBook_back : Meth K CBook "back" fBook_back := ⟨ma_Book_back, mi_Book_back, mk_Book_back⟩
  have FBook_row := fun_mk (st := sBook_row) ml_Book_row mc_Book_row mk_Book_row
  have MBook_row : Meth K CBook "row" fBook_row := ⟨ma_Book_row, mi_Book_row, mk_Book_row⟩
  have FBook_names := fun_mk (st := sBook_names) ml_Book_names mc_Book_names mk_Book_names
  have MBook_names : Meth K CBook "names" fBook_names := ⟨ma_Book_names, mi_Book_names, mk_Book_names⟩
  have FBook_kinds := fun_mk (st := sBook_kinds) ml_Book_kinds mc_Book_kinds mk_Book_kinds
  have MBook_kinds : Meth K CBook "kinds" fBook_kinds := ⟨ma_Book_kinds, mi_Book_kinds, mk_Book_kinds⟩
  have TBook : Cls K CBook := ⟨pg_Book, hd_Book, po_Book, sa_Book⟩
  have gBook := PySem.W.mg_of X G oa_Book
  have KBook : Mk K CBook fBook___init__ := ⟨mk_Book, ma_Book___init__, mi_Book___init__, kc_Book⟩
  have g_LONGEST_NAME := PySem.W.mg_of X G v_LONGEST_NAME
  have g_MOST_DEEDS := PySem.W.mg_of X G v_MOST_DEEDS
  have g_MOST_INPUTS := PySem.W.mg_of X G v_MOST_INPUTS
  have g_LETTERS := PySem.W.mg_of X G v_LETTERS
  have g_PLACES := PySem.W.mg_of X G v_PLACES
  have D_PLACES : PlOk K w pl_PLACES es_PLACES n_PLACES := ⟨⟨pa_PLACES, pk_PLACES, pz_PLACES⟩, fun p hp => by
      unfold fwL at hp
      simp only [List.mem_cons, List.not_mem_nil, or_false] at hp
      rcases hp with rfl | rfl | rfl | rfl | rfl | rfl | rfl | rfl | rfl | rfl | rfl
      · exact ⟨_, pw0_PLACES⟩
      · exact ⟨_, pw1_PLACES⟩
      · exact ⟨_, pw2_PLACES⟩
      · exact ⟨_, pw3_PLACES⟩
      · exact ⟨_, pw4_PLACES⟩
      · exact ⟨_, pw5_PLACES⟩
      · exact ⟨_, pw6_PLACES⟩
      · exact ⟨_, pw7_PLACES⟩
      · exact ⟨_, pw8_PLACES⟩
      · exact ⟨_, pw9_PLACES⟩
      · exact ⟨_, pw10_PLACES⟩
    , pf_PLACES⟩
  have g_WideError := PySem.W.mg_of X G a_WideError
  have X_WideError : ExcC K cWideError := ⟨e1_WideError, e2_WideError, e3_WideError, e4_WideError, e5_WideError, e6_WideError, e7_WideError, e8_WideError⟩
  have g_NoRow := PySem.W.mg_of X G a_NoRow
  have X_NoRow : ExcC K cNoRow := ⟨e1_NoRow, e2_NoRow, e3_NoRow, e4_NoRow, e5_NoRow, e6_NoRow, e7_NoRow, e8_NoRow⟩
  have g_NoPair := PySem.W.mg_of X G a_NoPair
  have X_NoPair : ExcC K cNoPair := ⟨e1_NoPair, e2_NoPair, e3_NoPair, e4_NoPair, e5_NoPair, e6_NoPair, e7_NoPair, e8_NoPair⟩
  have g_NoRule := PySem.W.mg_of X G a_NoRule
  have X_NoRule : ExcC K cNoRule := ⟨e1_NoRule, e2_NoRule, e3_NoRule, e4_NoRule, e5_NoRule, e6_NoRule, e7_NoRule, e8_NoRule⟩
  have g_NoName := PySem.W.mg_of X G a_NoName
  have X_NoName : ExcC K cNoName := ⟨e1_NoName, e2_NoName, e3_NoName, e4_NoName, e5_NoName, e6_NoName, e7_NoName, e8_NoName⟩
  have g_NoText := PySem.W.mg_of X G a_NoText
  have X_NoText : ExcC K cNoText := ⟨e1_NoText, e2_NoText, e3_NoText, e4_NoText, e5_NoText, e6_NoText, e7_NoText, e8_NoText⟩
  have g_TooMany := PySem.W.mg_of X G a_TooMany
  have X_TooMany : ExcC K cTooMany := ⟨e1_TooMany, e2_TooMany, e3_TooMany, e4_TooMany, e5_TooMany, e6_TooMany, e7_TooMany, e8_TooMany⟩
  have g_Nothing := PySem.W.mg_of X G a_Nothing
  have X_Nothing : ExcC K cNothing := ⟨e1_Nothing, e2_Nothing, e3_Nothing, e4_Nothing, e5_Nothing, e6_Nothing, e7_Nothing, e8_Nothing⟩
  have t_WideError_WideError := kit_ref e9_WideError e10_WideError s_WideError_WideError s_WideError_WideError
  have t_WideError_NoRow := kit_ref e9_NoRow e10_NoRow s_WideError_NoRow s_NoRow_NoRow
  have t_WideError_NoPair := kit_ref e9_NoPair e10_NoPair s_WideError_NoPair s_NoPair_NoPair
  have t_WideError_NoRule := kit_ref e9_NoRule e10_NoRule s_WideError_NoRule s_NoRule_NoRule
  have t_WideError_NoName := kit_ref e9_NoName e10_NoName s_WideError_NoName s_NoName_NoName
  have t_WideError_NoText := kit_ref e9_NoText e10_NoText s_WideError_NoText s_NoText_NoText
  have t_WideError_TooMany := kit_ref e9_TooMany e10_TooMany s_WideError_TooMany s_TooMany_TooMany
  have t_WideError_Nothing := kit_ref e9_Nothing e10_Nothing s_WideError_Nothing s_Nothing_Nothing
  have v_WideError := kit_ve e11_WideError
  have t_NoRow_WideError := kit_ref e9_WideError e10_WideError s_NoRow_WideError s_WideError_WideError
  have t_NoRow_NoRow := kit_ref e9_NoRow e10_NoRow s_NoRow_NoRow s_NoRow_NoRow
  have t_NoRow_NoPair := kit_ref e9_NoPair e10_NoPair s_NoRow_NoPair s_NoPair_NoPair
  have t_NoRow_NoRule := kit_ref e9_NoRule e10_NoRule s_NoRow_NoRule s_NoRule_NoRule
  have t_NoRow_NoName := kit_ref e9_NoName e10_NoName s_NoRow_NoName s_NoName_NoName
  have t_NoRow_NoText := kit_ref e9_NoText e10_NoText s_NoRow_NoText s_NoText_NoText
  have t_NoRow_TooMany := kit_ref e9_TooMany e10_TooMany s_NoRow_TooMany s_TooMany_TooMany
  have t_NoRow_Nothing := kit_ref e9_Nothing e10_Nothing s_NoRow_Nothing s_Nothing_Nothing
  have v_NoRow := kit_ve e11_NoRow
  have t_NoPair_WideError := kit_ref e9_WideError e10_WideError s_NoPair_WideError s_WideError_WideError
  have t_NoPair_NoRow := kit_ref e9_NoRow e10_NoRow s_NoPair_NoRow s_NoRow_NoRow
  have t_NoPair_NoPair := kit_ref e9_NoPair e10_NoPair s_NoPair_NoPair s_NoPair_NoPair
  have t_NoPair_NoRule := kit_ref e9_NoRule e10_NoRule s_NoPair_NoRule s_NoRule_NoRule
  have t_NoPair_NoName := kit_ref e9_NoName e10_NoName s_NoPair_NoName s_NoName_NoName
  have t_NoPair_NoText := kit_ref e9_NoText e10_NoText s_NoPair_NoText s_NoText_NoText
  have t_NoPair_TooMany := kit_ref e9_TooMany e10_TooMany s_NoPair_TooMany s_TooMany_TooMany
  have t_NoPair_Nothing := kit_ref e9_Nothing e10_Nothing s_NoPair_Nothing s_Nothing_Nothing
  have v_NoPair := kit_ve e11_NoPair
  have t_NoRule_WideError := kit_ref e9_WideError e10_WideError s_NoRule_WideError s_WideError_WideError
  have t_NoRule_NoRow := kit_ref e9_NoRow e10_NoRow s_NoRule_NoRow s_NoRow_NoRow
  have t_NoRule_NoPair := kit_ref e9_NoPair e10_NoPair s_NoRule_NoPair s_NoPair_NoPair
  have t_NoRule_NoRule := kit_ref e9_NoRule e10_NoRule s_NoRule_NoRule s_NoRule_NoRule
  have t_NoRule_NoName := kit_ref e9_NoName e10_NoName s_NoRule_NoName s_NoName_NoName
  have t_NoRule_NoText := kit_ref e9_NoText e10_NoText s_NoRule_NoText s_NoText_NoText
  have t_NoRule_TooMany := kit_ref e9_TooMany e10_TooMany s_NoRule_TooMany s_TooMany_TooMany
  have t_NoRule_Nothing := kit_ref e9_Nothing e10_Nothing s_NoRule_Nothing s_Nothing_Nothing
  have v_NoRule := kit_ve e11_NoRule
  have t_NoName_WideError := kit_ref e9_WideError e10_WideError s_NoName_WideError s_WideError_WideError
  have t_NoName_NoRow := kit_ref e9_NoRow e10_NoRow s_NoName_NoRow s_NoRow_NoRow
  have t_NoName_NoPair := kit_ref e9_NoPair e10_NoPair s_NoName_NoPair s_NoPair_NoPair
  have t_NoName_NoRule := kit_ref e9_NoRule e10_NoRule s_NoName_NoRule s_NoRule_NoRule
  have t_NoName_NoName := kit_ref e9_NoName e10_NoName s_NoName_NoName s_NoName_NoName
  have t_NoName_NoText := kit_ref e9_NoText e10_NoText s_NoName_NoText s_NoText_NoText
  have t_NoName_TooMany := kit_ref e9_TooMany e10_TooMany s_NoName_TooMany s_TooMany_TooMany
  have t_NoName_Nothing := kit_ref e9_Nothing e10_Nothing s_NoName_Nothing s_Nothing_Nothing
  have v_NoName := kit_ve e11_NoName
  have t_NoText_WideError := kit_ref e9_WideError e10_WideError s_NoText_WideError s_WideError_WideError
  have t_NoText_NoRow := kit_ref e9_NoRow e10_NoRow s_NoText_NoRow s_NoRow_NoRow
  have t_NoText_NoPair := kit_ref e9_NoPair e10_NoPair s_NoText_NoPair s_NoPair_NoPair
  have t_NoText_NoRule := kit_ref e9_NoRule e10_NoRule s_NoText_NoRule s_NoRule_NoRule
  have t_NoText_NoName := kit_ref e9_NoName e10_NoName s_NoText_NoName s_NoName_NoName
  have t_NoText_NoText := kit_ref e9_NoText e10_NoText s_NoText_NoText s_NoText_NoText
  have t_NoText_TooMany := kit_ref e9_TooMany e10_TooMany s_NoText_TooMany s_TooMany_TooMany
  have t_NoText_Nothing := kit_ref e9_Nothing e10_Nothing s_NoText_Nothing s_Nothing_Nothing
  have v_NoText := kit_ve e11_NoText
  have t_TooMany_WideError := kit_ref e9_WideError e10_WideError s_TooMany_WideError s_WideError_WideError
  have t_TooMany_NoRow := kit_ref e9_NoRow e10_NoRow s_TooMany_NoRow s_NoRow_NoRow
  have t_TooMany_NoPair := kit_ref e9_NoPair e10_NoPair s_TooMany_NoPair s_NoPair_NoPair
  have t_TooMany_NoRule := kit_ref e9_NoRule e10_NoRule s_TooMany_NoRule s_NoRule_NoRule
  have t_TooMany_NoName := kit_ref e9_NoName e10_NoName s_TooMany_NoName s_NoName_NoName
  have t_TooMany_NoText := kit_ref e9_NoText e10_NoText s_TooMany_NoText s_NoText_NoText
  have t_TooMany_TooMany := kit_ref e9_TooMany e10_TooMany s_TooMany_TooMany s_TooMany_TooMany
  have t_TooMany_Nothing := kit_ref e9_Nothing e10_Nothing s_TooMany_Nothing s_Nothing_Nothing
  have v_TooMany := kit_ve e11_TooMany
  have t_Nothing_WideError := kit_ref e9_WideError e10_WideError s_Nothing_WideError s_WideError_WideError
  have t_Nothing_NoRow := kit_ref e9_NoRow e10_NoRow s_Nothing_NoRow s_NoRow_NoRow
  have t_Nothing_NoPair := kit_ref e9_NoPair e10_NoPair s_Nothing_NoPair s_NoPair_NoPair
  have t_Nothing_NoRule := kit_ref e9_NoRule e10_NoRule s_Nothing_NoRule s_NoRule_NoRule
  have t_Nothing_NoName := kit_ref e9_NoName e10_NoName s_Nothing_NoName s_NoName_NoName
  have t_Nothing_NoText := kit_ref e9_NoText e10_NoText s_Nothing_NoText s_NoText_NoText
  have t_Nothing_TooMany := kit_ref e9_TooMany e10_TooMany s_Nothing_TooMany s_TooMany_TooMany
  have t_Nothing_Nothing := kit_ref e9_Nothing e10_Nothing s_Nothing_Nothing s_Nothing_Nothing
  have v_Nothing := kit_ve e11_Nothing
  have m_ValueError := PySem.W.mg_none_of X G z_ValueError
  have m_abs := PySem.W.mg_none_of X G z_abs
  have m_all := PySem.W.mg_none_of X G z_all
  have m_bool := PySem.W.mg_none_of X G z_bool
  have m_enumerate := PySem.W.mg_none_of X G z_enumerate
  have m_int := PySem.W.mg_none_of X G z_int
  have m_isinstance := PySem.W.mg_none_of X G z_isinstance
  have m_len := PySem.W.mg_none_of X G z_len
  have m_list := PySem.W.mg_none_of X G z_list
  have m_max := PySem.W.mg_none_of X G z_max
  have m_range := PySem.W.mg_none_of X G z_range
  have m_repr := PySem.W.mg_none_of X G z_repr
  have m_sorted := PySem.W.mg_none_of X G z_sorted
  have m_str := PySem.W.mg_none_of X G z_str
  have m_tuple := PySem.W.mg_none_of X G z_tuple
  have m_zip := PySem.W.mg_none_of X G z_zip
  intro s a ns base H hlen hbits e0 hS
  have GD := ok_draw (P := l.prog) (w := w) (mg := mg) (base := base) (k := 0) F_law_draw
  have GE := ok_deed (P := l.prog) (w := w) (mg := mg) (base := base) (k := 0) F_law_deed F_law_draw F_law_first_words b_law_draw b_law_first_words g_law_draw g_law_first_words m_list m_tuple m_range
  have GR := ok_row (P := l.prog) (w := w) (mg := mg) (base := base) (k := 0) F_law_row GD F_law_draw.kp GE F_law_deed.kp b_law_draw b_law_deed g_law_draw g_law_deed m_tuple m_range
  have GW := ok_well (P := l.prog) (w := w) (mg := mg) (base := base) (k := 0) F_law_well m_abs
  have GA := ok_whA (P := l.prog) (w := w) (K := K) (mg := mg) (base := base) (k := 0) F_is_whole m_isinstance m_int m_bool
  have GB2 := ok_nb (P := l.prog) (w := w) (mg := mg) (base := base) (k := 0) F_is_number_below GA F_is_whole.kp b_is_whole g_is_whole
  have GF0 := ok_de (P := l.prog) (w := w) (mg := mg) (base := base) (k := 0) F_is_deed GB2 F_is_number_below.kp b_is_number_below g_is_number_below D_PLACES g_PLACES m_isinstance m_tuple m_str m_len m_all
  have GG0 := ok_ad (P := l.prog) (w := w) (mg := mg) (base := base) (k := 0) F_are_deeds GF0 F_is_deed.kp b_is_deed g_is_deed g_MOST_DEEDS m_isinstance m_tuple m_len m_all m_enumerate
  have GIr := ok_ir (P := l.prog) (w := w) (mg := mg) (base := base) (k := 0) F_is_row GA F_is_whole.kp b_is_whole g_is_whole GG0 F_are_deeds.kp b_are_deeds g_are_deeds GB2 F_is_number_below.kp b_is_number_below g_is_number_below g_MOST_INPUTS m_isinstance m_tuple m_len
  have GF := ok_fc (P := l.prog) (w := w) (mg := mg) (base := base) (k := 0) F_first_carry m_tuple
  have GDb := ok_db (P := l.prog) (w := w) (mg := mg) (base := base) (k := 0) F_deed_bit
  have GB := ok_bo (P := l.prog) (w := w) (mg := mg) (base := base) (k := 0) F_bits_of GDb F_deed_bit.kp b_deed_bit g_deed_bit m_list m_tuple m_zip
  have GTm := ok_tm (P := l.prog) (w := w) (mg := mg) (base := base) (k := 0) F_two_or_more
  have GDc := ok_dc (P := l.prog) (w := w) (mg := mg) (base := base) (k := 0) F_deed_carry GTm F_two_or_more.kp b_two_or_more g_two_or_more
  have GCb := ok_cb (P := l.prog) (w := w) (mg := mg) (base := base) (k := 0) F_carry_behind GDc F_deed_carry.kp b_deed_carry g_deed_carry m_tuple m_zip
  have GAl := ok_all (P := l.prog) (w := w) (mg := mg) (base := base) (k := 0) F_all_bits m_range
  have GSt := ok_st (P := l.prog) (w := w) (mg := mg) (base := base) (k := 0) F_steps GAl F_all_bits.kp b_all_bits g_all_bits GB F_bits_of.kp b_bits_of g_bits_of GCb F_carry_behind.kp b_carry_behind g_carry_behind
  have WT : WCls K mg CWalk := ⟨TWalk, na_Walk_met, na_Walk_numbers, na_Walk_ways, gWalk⟩
  have bI := FWalk___init__.binds (ps := ["self", "first"]) fun _ _ _ _ _ _ us hl => match us, hl with | [_, _], _ => rfl
  have bM := FWalk_meet.binds (ps := ["self", "thing", "ahead", "bits"]) fun _ _ _ _ _ _ us hl => match us, hl with | [_, _, _, _], _ => rfl
  have GI := ok_wi (P := l.prog) (w := w) (mg := mg) (base := base) (k := 0) FWalk___init__ WT
  have GM := ok_wm (P := l.prog) (w := w) (mg := mg) (base := base) (k := 0) FWalk_meet WT m_len
  have GWh := ok_wh (P := l.prog) (w := w) (mg := mg) (base := base) (k := 0) F_whole_machine WT GAl F_all_bits.kp b_all_bits g_all_bits GF F_first_carry.kp b_first_carry g_first_carry GSt F_steps.kp b_steps g_steps KWalk GI bI MWalk_meet GM bM m_len m_zip
  have GN := ok_nu (P := l.prog) (w := w) (mg := mg) (base := base) (k := 0) F_numbered m_len
  have GKi := ok_ki (P := l.prog) (w := w) (mg := mg) (base := base) (k := 0) F_kinds_of_states GN F_numbered.kp b_numbered g_numbered m_max m_tuple m_list m_zip
  have GLm := ok_lm (P := l.prog) (w := w) (mg := mg) (base := base) (k := 0) F_least_machine GWh F_whole_machine.kp b_whole_machine g_whole_machine GKi F_kinds_of_states.kp b_kinds_of_states g_kinds_of_states m_len m_zip
  have GLk := ok_lk (P := l.prog) (w := w) (mg := mg) (base := base) (k := 0) F_look_of GLm F_least_machine.kp b_least_machine g_least_machine m_tuple
  have BT : BCls K mg CBook := ⟨TBook, na_Book_kept, na_Book_done, na_Book_looks, gBook⟩
  have bBi := FBook___init__.binds (ps := ["self"]) fun _ _ _ _ _ _ us hl => match us, hl with | [_], _ => rfl
  have bBc := FBook_check_kept.binds (ps := ["self", "name"]) fun _ _ _ _ _ _ us hl => match us, hl with | [_, _], _ => rfl
  have bBt := FBook_tell.binds (ps := ["self", "name", "row"]) fun _ _ _ _ _ _ us hl => match us, hl with | [_, _, _], _ => rfl
  have bBf := FBook_forget.binds (ps := ["self", "name"]) fun _ _ _ _ _ _ us hl => match us, hl with | [_, _], _ => rfl
  have bBb := FBook_back.binds (ps := ["self"]) fun _ _ _ _ _ _ us hl => match us, hl with | [_], _ => rfl
  have bBr := FBook_row.binds (ps := ["self", "name"]) fun _ _ _ _ _ _ us hl => match us, hl with | [_, _], _ => rfl
  have bBn := FBook_names.binds (ps := ["self"]) fun _ _ _ _ _ _ us hl => match us, hl with | [_], _ => rfl
  have bBk := FBook_kinds.binds (ps := ["self"]) fun _ _ _ _ _ _ us hl => match us, hl with | [_], _ => rfl
  have GIn := ok_in (P := l.prog) (w := w) (K := K) (mg := mg) (base := base) (k := 0) F_is_name g_LETTERS g_LONGEST_NAME m_isinstance m_str m_len m_all
  have GCn := ok_cn (P := l.prog) (w := w) (mg := mg) (base := base) (k := 0) F_check_name GIn F_is_name.kp b_is_name g_is_name
  have GBi := ok_bi (P := l.prog) (w := w) (mg := mg) (base := base) (k := 0) FBook___init__ BT
  have GBc := ok_bc (P := l.prog) (w := w) (mg := mg) (base := base) (k := 0) FBook_check_kept BT GCn F_check_name.kp b_check_name g_check_name
  have GBr := ok_br (P := l.prog) (w := w) (mg := mg) (base := base) (k := 0) FBook_row BT MBook_check_kept GBc bBc
  have GBn := ok_bn (P := l.prog) (w := w) (mg := mg) (base := base) (k := 0) FBook_names BT m_sorted
  have GBf := ok_bf (P := l.prog) (w := w) (mg := mg) (base := base) (k := 0) FBook_forget BT MBook_check_kept GBc bBc
  have GBt := ok_btl (P := l.prog) (w := w) (mg := mg) (base := base) (k := 0) FBook_tell BT GCn F_check_name.kp b_check_name g_check_name GIr F_is_row.kp b_is_row g_is_row
  have GBb := ok_bb (P := l.prog) (w := w) (mg := mg) (base := base) (k := 0) FBook_back BT
  have GBk := ok_bk (P := l.prog) (w := w) (mg := mg) (base := base) (k := 0) FBook_kinds BT MBook_names GBn bBn GLk F_look_of.kp b_look_of g_look_of m_sorted
  have GF1 := ok_f1 (P := l.prog) (w := w) (mg := mg) (base := base) (k := 0) F_law_first m_tuple m_int
  have GL1 := ok_l1 (P := l.prog) (w := w) (mg := mg) (base := base) (k := 0) F_law_step m_list m_tuple m_enumerate m_int
  have GCh := ok_ch (P := l.prog) (w := w) (mg := mg) (base := base) (k := 0) F_law_choices m_range
  have GAk := ok_ak (P := l.prog) (w := w) (mg := mg) (base := base) (k := 0) F_law_alike GF1 F_law_first.kp b_law_first g_law_first GCh F_law_choices.kp b_law_choices g_law_choices GL1 F_law_step.kp b_law_step g_law_step
  have GLc := ok_lcs (P := l.prog) (w := w) (mg := mg) (base := base) (k := 0) F_law_classes GAk F_law_alike.kp b_law_alike g_law_alike m_range m_enumerate
  have GKd := ok_lkd (P := l.prog) (w := w) (mg := mg) (base := base) (k := 0) F_law_kinds m_sorted
  have GRs := ok_rws (P := l.prog) (w := w) (mg := mg) (base := base) (k := 0) F_law_rows GD F_law_draw.kp b_law_draw g_law_draw GR F_law_row.kp b_law_row g_law_row m_len m_tuple
  have rN : Rai K mg "NoName" cNoName := ⟨x_NoName, g_NoName, k_NoName, e3_NoName, e10_NoName⟩
  have rR : Rai K mg "NoRow" cNoRow := ⟨x_NoRow, g_NoRow, k_NoRow, e3_NoRow, e10_NoRow⟩
  have rO : Rai K mg "Nothing" cNothing := ⟨x_Nothing, g_Nothing, k_Nothing, e3_Nothing, e10_Nothing⟩
  have GCnX := ok_cnX (P := l.prog) (w := w) (mg := mg) (base := base) (k := 0) F_check_name rN GIn F_is_name.kp b_is_name g_is_name
  have GBcX := ok_bcX (P := l.prog) (w := w) (mg := mg) (base := base) (k := 0) FBook_check_kept BT rN GCnX F_check_name.kp b_check_name g_check_name
  have GBfX := ok_bfX (P := l.prog) (w := w) (mg := mg) (base := base) (k := 0) FBook_forget BT MBook_check_kept GBcX bBc
  have GBrX := ok_brX (P := l.prog) (w := w) (mg := mg) (base := base) (k := 0) FBook_row BT MBook_check_kept GBcX bBc
  have GBtX := ok_btX (C := CBook) (P := l.prog) (w := w) (mg := mg) (base := base) (k := 0) FBook_tell rR GCnX F_check_name.kp b_check_name g_check_name GIr F_is_row.kp b_is_row g_is_row
  have GbN := ok_bbN (P := l.prog) (w := w) (mg := mg) (base := base) (k := 0) FBook_back BT rO
  have KG : KMg mg cWideError cNoName cNoRow cNothing cNoPair cNoRule cNoText cTooMany := ⟨g_WideError, g_NoName, g_NoRow, g_Nothing, g_NoPair, g_NoRule, g_NoText, g_TooMany⟩
  have XN : KD K cNoName cWideError cNoName cNoRow cNothing cNoPair cNoRule cNoText cTooMany true false false := ⟨X_NoName, PySem.W.exm_ref e3_WideError e4_WideError e10_WideError s_NoName_WideError, by simp only [PySem.W.kitAny, t_NoName_NoPair, t_NoName_NoRule, t_NoName_NoText, t_NoName_TooMany], v_NoName, t_NoName_NoName, t_NoName_NoRow, t_NoName_Nothing⟩
  have XR : KD K cNoRow cWideError cNoName cNoRow cNothing cNoPair cNoRule cNoText cTooMany false true false := ⟨X_NoRow, PySem.W.exm_ref e3_WideError e4_WideError e10_WideError s_NoRow_WideError, by simp only [PySem.W.kitAny, t_NoRow_NoPair, t_NoRow_NoRule, t_NoRow_NoText, t_NoRow_TooMany], v_NoRow, t_NoRow_NoName, t_NoRow_NoRow, t_NoRow_Nothing⟩
  have XO : KD K cNothing cWideError cNoName cNoRow cNothing cNoPair cNoRule cNoText cTooMany false false true := ⟨X_Nothing, PySem.W.exm_ref e3_WideError e4_WideError e10_WideError s_Nothing_WideError, by simp only [PySem.W.kitAny, t_Nothing_NoPair, t_Nothing_NoRule, t_Nothing_NoText, t_Nothing_TooMany], v_Nothing, t_Nothing_NoName, t_Nothing_NoRow, t_Nothing_Nothing⟩
  have GRf := ok_rf (P := l.prog) (w := w) (mg := mg) (base := base) (k := 0) F_law_refused BT KG XN XR XO MBook_tell GBtX bBt MBook_forget GBfX bBf MBook_row GBrX bBr MBook_back GbN bBb m_isinstance m_repr m_ValueError
  have GFn := ok_fn (P := l.prog) (w := w) (mg := mg) (base := base) (k := 0) F_law_few_names GD F_law_draw.kp b_law_draw g_law_draw m_range
  have GGb := ok_gb (P := l.prog) (w := w) (mg := mg) (base := base) (k := 0) F_law_gone_back BT MBook_back GBb bBb
  have GDd := ok_dd3 (P := l.prog) (w := w) (mg := mg) (base := base) (k := 0) F_law_deed_done BT GD F_law_draw.kp b_law_draw g_law_draw GGb F_law_gone_back.kp b_law_gone_back g_law_gone_back MBook_forget GBf bBf MBook_tell GBt bBt m_len
  have GLd := ok_ld3 (P := l.prog) (w := w) (mg := mg) (base := base) (k := 0) F_law_looked BT GD F_law_draw.kp b_law_draw g_law_draw MBook_names GBn bBn MBook_row GBr bBr m_sorted m_len m_repr m_list
  have GWr := ok_wr3 (P := l.prog) (w := w) (mg := mg) (base := base) (k := 0) F_law_wrong_right GD F_law_draw.kp b_law_draw g_law_draw GRf F_law_refused.kp b_law_refused g_law_refused m_len
  exact law_run F_law b_law BT KBook GBi bBi MBook_kinds GBk bBk GLd F_law_looked.kp b_law_looked g_law_looked GWr F_law_wrong_right.kp b_law_wrong_right g_law_wrong_right GRf F_law_refused.kp b_law_refused g_law_refused GW F_law_well.kp b_law_well g_law_well GD F_law_draw.kp b_law_draw g_law_draw GRs F_law_rows.kp b_law_rows g_law_rows GLc F_law_classes.kp b_law_classes g_law_classes GFn F_law_few_names.kp b_law_few_names g_law_few_names GKd F_law_kinds.kp b_law_kinds g_law_kinds GGb F_law_gone_back.kp b_law_gone_back g_law_gone_back GDd F_law_deed_done.kp b_law_deed_done g_law_deed_done m_range m_repr hlen hbits e0 hS
end
end KK
open PySem PySem.W PyProof.Rows
set_option maxHeartbeats 0 in
theorem PySem.Challenge.cw_anywide_k73_books_of_few_names_holds : PySem.Challenge.rw_anywide_k73_books_of_few_names.Holds := by
  w_on; o_law; k_head; (case hw => w_witness2)
  k_fill
  refine AW.walkG (l := PySem.Challenge.rw_anywide_k73_books_of_few_names) (n := 63) rfl (by decide) rfl (fun w h Y => PySem.W.kIn_of Y) ?F
  case F =>
    intro w mg fa h KX G hmg
    refine' KK.all_mk KX G hmg ?a0 ?l0 ?c0 ?k0 ?a1 ?l1 ?c1 ?k1 ?a2 ?l2 ?c2 ?k2 ?a3 ?l3 ?c3 ?k3 ?a4 ?l4 ?c4 ?k4 ?a5 ?l5 ?c5 ?k5 ?a6 ?l6 ?c6 ?k6 ?a7 ?l7 ?c7 ?k7 ?a8 ?l8 ?c8 ?k8 ?a9 ?l9 ?c9 ?k9 ?a10 ?l10 ?c10 ?k10 ?a11 ?l11 ?c11 ?k11 ?a12 ?l12 ?c12 ?k12 ?a13 ?l13 ?c13 ?k13 ?a14 ?l14 ?c14 ?k14 ?a15 ?l15 ?c15 ?k15 ?a16 ?l16 ?c16 ?k16 ?a17 ?l17 ?c17 ?k17 ?a18 ?l18 ?c18 ?k18 ?a19 ?l19 ?c19 ?k19 ?a20 ?l20 ?c20 ?k20 ?a21 ?l21 ?c21 ?k21 ?a22 ?l22 ?c22 ?k22 ?a23 ?l23 ?c23 ?k23 ?a24 ?l24 ?c24 ?k24 ?a25 ?l25 ?c25 ?k25 ?a26 ?l26 ?c26 ?k26 ?a27 ?l27 ?c27 ?k27 ?a28 ?l28 ?c28 ?k28 ?a29 ?l29 ?c29 ?k29 ?a30 ?l30 ?c30 ?k30 ?a31 ?l31 ?c31 ?k31 ?a32 ?l32 ?c32 ?k32 ?a33 ?l33 ?c33 ?k33 ?a34 ?l34 ?c34 ?k34 ?a35 ?l35 ?c35 ?k35 ?a36 ?l36 ?c36 ?k36 ?a37 ?l37 ?c37 ?k37 ?a38 ?l38 ?c38 ?k38 ?a39 ?l39 ?c39 ?k39 ?oa_Walk ?ma_Walk___init__ ?mi_Walk___init__ ?ml_Walk___init__ ?mc_Walk___init__ ?mk_Walk___init__ ?ma_Walk_meet ?mi_Walk_meet ?ml_Walk_meet ?mc_Walk_meet ?mk_Walk_meet ?pg_Walk ?hd_Walk ?po_Walk ?sa_Walk ?mk_Walk ?kc_Walk ?na_Walk_met ?na_Walk_numbers ?na_Walk_ways ?oa_Book ?ma_Book___init__ ?mi_Book___init__ ?ml_Book___init__ ?mc_Book___init__ ?mk_Book___init__ ?ma_Book_check_kept ?mi_Book_check_kept ?ml_Book_check_kept ?mc_Book_check_kept ?mk_Book_check_kept ?ma_Book_tell ?mi_Book_tell ?ml_Book_tell ?mc_Book_tell ?mk_Book_tell ?ma_Book_forget ?mi_Book_forget ?ml_Book_forget ?mc_Book_forget ?mk_Book_forget ?ma_Book_back ?mi_Book_back ?ml_Book_back ?mc_Book_back ?mk_Book_back ?ma_Book_row ?mi_Book_row ?ml_Book_row ?mc_Book_row ?mk_Book_row ?ma_Book_names ?mi_Book_names ?ml_Book_names ?mc_Book_names ?mk_Book_names ?ma_Book_kinds ?mi_Book_kinds ?ml_Book_kinds ?mc_Book_kinds ?mk_Book_kinds ?pg_Book ?hd_Book ?po_Book ?sa_Book ?mk_Book ?kc_Book ?na_Book_kept ?na_Book_done ?na_Book_looks ?v_LONGEST_NAME ?v_MOST_DEEDS ?v_MOST_INPUTS ?v_LETTERS ?v_PLACES ?pa_PLACES ?pw0_PLACES ?pw1_PLACES ?pw2_PLACES ?pw3_PLACES ?pw4_PLACES ?pw5_PLACES ?pw6_PLACES ?pw7_PLACES ?pw8_PLACES ?pw9_PLACES ?pw10_PLACES ?pk_PLACES ?pz_PLACES ?pf_PLACES ?a_WideError ?x_WideError ?k_WideError ?e1_WideError ?e2_WideError ?e3_WideError ?e4_WideError ?e5_WideError ?e6_WideError ?e7_WideError ?e8_WideError ?e9_WideError ?e10_WideError ?e11_WideError ?a_NoRow ?x_NoRow ?k_NoRow ?e1_NoRow ?e2_NoRow ?e3_NoRow ?e4_NoRow ?e5_NoRow ?e6_NoRow ?e7_NoRow ?e8_NoRow ?e9_NoRow ?e10_NoRow ?e11_NoRow ?a_NoPair ?x_NoPair ?k_NoPair ?e1_NoPair ?e2_NoPair ?e3_NoPair ?e4_NoPair ?e5_NoPair ?e6_NoPair ?e7_NoPair ?e8_NoPair ?e9_NoPair ?e10_NoPair ?e11_NoPair ?a_NoRule ?x_NoRule ?k_NoRule ?e1_NoRule ?e2_NoRule ?e3_NoRule ?e4_NoRule ?e5_NoRule ?e6_NoRule ?e7_NoRule ?e8_NoRule ?e9_NoRule ?e10_NoRule ?e11_NoRule ?a_NoName ?x_NoName ?k_NoName ?e1_NoName ?e2_NoName ?e3_NoName ?e4_NoName ?e5_NoName ?e6_NoName ?e7_NoName ?e8_NoName ?e9_NoName ?e10_NoName ?e11_NoName ?a_NoText ?x_NoText ?k_NoText ?e1_NoText ?e2_NoText ?e3_NoText ?e4_NoText ?e5_NoText ?e6_NoText ?e7_NoText ?e8_NoText ?e9_NoText ?e10_NoText ?e11_NoText ?a_TooMany ?x_TooMany ?k_TooMany ?e1_TooMany ?e2_TooMany ?e3_TooMany ?e4_TooMany ?e5_TooMany ?e6_TooMany ?e7_TooMany ?e8_TooMany ?e9_TooMany ?e10_TooMany ?e11_TooMany ?a_Nothing ?x_Nothing ?k_Nothing ?e1_Nothing ?e2_Nothing ?e3_Nothing ?e4_Nothing ?e5_Nothing ?e6_Nothing ?e7_Nothing ?e8_Nothing ?e9_Nothing ?e10_Nothing ?e11_Nothing ?s_WideError_WideError ?s_WideError_NoRow ?s_WideError_NoPair ?s_WideError_NoRule ?s_WideError_NoName ?s_WideError_NoText ?s_WideError_TooMany ?s_WideError_Nothing ?s_NoRow_WideError ?s_NoRow_NoRow ?s_NoRow_NoPair ?s_NoRow_NoRule ?s_NoRow_NoName ?s_NoRow_NoText ?s_NoRow_TooMany ?s_NoRow_Nothing ?s_NoPair_WideError ?s_NoPair_NoRow ?s_NoPair_NoPair ?s_NoPair_NoRule ?s_NoPair_NoName ?s_NoPair_NoText ?s_NoPair_TooMany ?s_NoPair_Nothing ?s_NoRule_WideError ?s_NoRule_NoRow ?s_NoRule_NoPair ?s_NoRule_NoRule ?s_NoRule_NoName ?s_NoRule_NoText ?s_NoRule_TooMany ?s_NoRule_Nothing ?s_NoName_WideError ?s_NoName_NoRow ?s_NoName_NoPair ?s_NoName_NoRule ?s_NoName_NoName ?s_NoName_NoText ?s_NoName_TooMany ?s_NoName_Nothing ?s_NoText_WideError ?s_NoText_NoRow ?s_NoText_NoPair ?s_NoText_NoRule ?s_NoText_NoName ?s_NoText_NoText ?s_NoText_TooMany ?s_NoText_Nothing ?s_TooMany_WideError ?s_TooMany_NoRow ?s_TooMany_NoPair ?s_TooMany_NoRule ?s_TooMany_NoName ?s_TooMany_NoText ?s_TooMany_TooMany ?s_TooMany_Nothing ?s_Nothing_WideError ?s_Nothing_NoRow ?s_Nothing_NoPair ?s_Nothing_NoRule ?s_Nothing_NoName ?s_Nothing_NoText ?s_Nothing_TooMany ?s_Nothing_Nothing ?z_ValueError ?z_abs ?z_all ?z_bool ?z_enumerate ?z_int ?z_isinstance ?z_len ?z_list ?z_max ?z_range ?z_repr ?z_sorted ?z_str ?z_tuple ?z_zip
    (case a0 => k_is)
    (case l0 => k_is)
    (case c0 => k_is)
    (case k0 => k_is)
    (case a1 => k_is)
    (case l1 => k_is)
    (case c1 => k_is)
    (case k1 => k_is)
    (case a2 => k_is)
    (case l2 => k_is)
    (case c2 => k_is)
    (case k2 => k_is)
    (case a3 => k_is)
    (case l3 => k_is)
    (case c3 => k_is)
    (case k3 => k_is)
    (case a4 => k_is)
    (case l4 => k_is)
    (case c4 => k_is)
    (case k4 => k_is)
    (case a5 => k_is)
    (case l5 => k_is)
    (case c5 => k_is)
    (case k5 => k_is)
    (case a6 => k_is)
    (case l6 => k_is)
    (case c6 => k_is)
    (case k6 => k_is)
    (case a7 => k_is)
    (case l7 => k_is)
    (case c7 => k_is)
    (case k7 => k_is)
    (case a8 => k_is)
    (case l8 => k_is)
    (case c8 => k_is)
    (case k8 => k_is)
    (case a9 => k_is)
    (case l9 => k_is)
    (case c9 => k_is)
    (case k9 => k_is)
    (case a10 => k_is)
    (case l10 => k_is)
    (case c10 => k_is)
    (case k10 => k_is)
    (case a11 => k_is)
    (case l11 => k_is)
    (case c11 => k_is)
    (case k11 => k_is)
    (case a12 => k_is)
    (case l12 => k_is)
    (case c12 => k_is)
    (case k12 => k_is)
    (case a13 => k_is)
    (case l13 => k_is)
    (case c13 => k_is)
    (case k13 => k_is)
    (case a14 => k_is)
    (case l14 => k_is)
    (case c14 => k_is)
    (case k14 => k_is)
    (case a15 => k_is)
    (case l15 => k_is)
    (case c15 => k_is)
    (case k15 => k_is)
    (case a16 => k_is)
    (case l16 => k_is)
    (case c16 => k_is)
    (case k16 => k_is)
    (case a17 => k_is)
    (case l17 => k_is)
    (case c17 => k_is)
    (case k17 => k_is)
    (case a18 => k_is)
    (case l18 => k_is)
    (case c18 => k_is)
    (case k18 => k_is)
    (case a19 => k_is)
    (case l19 => k_is)
    (case c19 => k_is)
    (case k19 => k_is)
    (case a20 => k_is)
    (case l20 => k_is)
    (case c20 => k_is)
    (case k20 => k_is)
    (case a21 => k_is)
    (case l21 => k_is)
    (case c21 => k_is)
    (case k21 => k_is)
    (case a22 => k_is)
    (case l22 => k_is)
    (case c22 => k_is)
    (case k22 => k_is)
    (case a23 => k_is)
    (case l23 => k_is)
    (case c23 => k_is)
    (case k23 => k_is)
    (case a24 => k_is)
    (case l24 => k_is)
    (case c24 => k_is)
    (case k24 => k_is)
    (case a25 => k_is)
    (case l25 => k_is)
    (case c25 => k_is)
    (case k25 => k_is)
    (case a26 => k_is)
    (case l26 => k_is)
    (case c26 => k_is)
    (case k26 => k_is)
    (case a27 => k_is)
    (case l27 => k_is)
    (case c27 => k_is)
    (case k27 => k_is)
    (case a28 => k_is)
    (case l28 => k_is)
    (case c28 => k_is)
    (case k28 => k_is)
    (case a29 => k_is)
    (case l29 => k_is)
    (case c29 => k_is)
    (case k29 => k_is)
    (case a30 => k_is)
    (case l30 => k_is)
    (case c30 => k_is)
    (case k30 => k_is)
    (case a31 => k_is)
    (case l31 => k_is)
    (case c31 => k_is)
    (case k31 => k_is)
    (case a32 => k_is)
    (case l32 => k_is)
    (case c32 => k_is)
    (case k32 => k_is)
    (case a33 => k_is)
    (case l33 => k_is)
    (case c33 => k_is)
    (case k33 => k_is)
    (case a34 => k_is)
    (case l34 => k_is)
    (case c34 => k_is)
    (case k34 => k_is)
    (case a35 => k_is)
    (case l35 => k_is)
    (case c35 => k_is)
    (case k35 => k_is)
    (case a36 => k_is)
    (case l36 => k_is)
    (case c36 => k_is)
    (case k36 => k_is)
    (case a37 => k_is)
    (case l37 => k_is)
    (case c37 => k_is)
    (case k37 => k_is)
    (case a38 => k_is)
    (case l38 => k_is)
    (case c38 => k_is)
    (case k38 => k_is)
    (case a39 => k_is)
    (case l39 => k_is)
    (case c39 => k_is)
    (case k39 => k_is)
    (case oa_Walk => k_is)
    (case ma_Walk___init__ => k_is)
    (case mi_Walk___init__ => k_is)
    (case ml_Walk___init__ => k_is)
    (case mc_Walk___init__ => k_is)
    (case mk_Walk___init__ => k_is)
    (case ma_Walk_meet => k_is)
    (case mi_Walk_meet => k_is)
    (case ml_Walk_meet => k_is)
    (case mc_Walk_meet => k_is)
    (case mk_Walk_meet => k_is)
    (case pg_Walk => k_is)
    (case hd_Walk => k_is)
    (case po_Walk => k_is)
    (case sa_Walk => k_is)
    (case mk_Walk => k_is)
    (case kc_Walk => k_is)
    (case na_Walk_met => k_is)
    (case na_Walk_numbers => k_is)
    (case na_Walk_ways => k_is)
    (case oa_Book => k_is)
    (case ma_Book___init__ => k_is)
    (case mi_Book___init__ => k_is)
    (case ml_Book___init__ => k_is)
    (case mc_Book___init__ => k_is)
    (case mk_Book___init__ => k_is)
    (case ma_Book_check_kept => k_is)
    (case mi_Book_check_kept => k_is)
    (case ml_Book_check_kept => k_is)
    (case mc_Book_check_kept => k_is)
    (case mk_Book_check_kept => k_is)
    (case ma_Book_tell => k_is)
    (case mi_Book_tell => k_is)
    (case ml_Book_tell => k_is)
    (case mc_Book_tell => k_is)
    (case mk_Book_tell => k_is)
    (case ma_Book_forget => k_is)
    (case mi_Book_forget => k_is)
    (case ml_Book_forget => k_is)
    (case mc_Book_forget => k_is)
    (case mk_Book_forget => k_is)
    (case ma_Book_back => k_is)
    (case mi_Book_back => k_is)
    (case ml_Book_back => k_is)
    (case mc_Book_back => k_is)
    (case mk_Book_back => k_is)
    (case ma_Book_row => k_is)
    (case mi_Book_row => k_is)
    (case ml_Book_row => k_is)
    (case mc_Book_row => k_is)
    (case mk_Book_row => k_is)
    (case ma_Book_names => k_is)
    (case mi_Book_names => k_is)
    (case ml_Book_names => k_is)
    (case mc_Book_names => k_is)
    (case mk_Book_names => k_is)
    (case ma_Book_kinds => k_is)
    (case mi_Book_kinds => k_is)
    (case ml_Book_kinds => k_is)
    (case mc_Book_kinds => k_is)
    (case mk_Book_kinds => k_is)
    (case pg_Book => k_is)
    (case hd_Book => k_is)
    (case po_Book => k_is)
    (case sa_Book => k_is)
    (case mk_Book => k_is)
    (case kc_Book => k_is)
    (case na_Book_kept => k_is)
    (case na_Book_done => k_is)
    (case na_Book_looks => k_is)
    (case v_LONGEST_NAME => k_is)
    (case v_MOST_DEEDS => k_is)
    (case v_MOST_INPUTS => k_is)
    (case v_LETTERS => k_is)
    (case v_PLACES => k_is)
    (case pa_PLACES => k_is)
    (case pw0_PLACES => k_is)
    (case pw1_PLACES => k_is)
    (case pw2_PLACES => k_is)
    (case pw3_PLACES => k_is)
    (case pw4_PLACES => k_is)
    (case pw5_PLACES => k_is)
    (case pw6_PLACES => k_is)
    (case pw7_PLACES => k_is)
    (case pw8_PLACES => k_is)
    (case pw9_PLACES => k_is)
    (case pw10_PLACES => k_is)
    (case pk_PLACES => exact ⟨⟨_, _, rfl, rfl⟩, ⟨⟨_, _, rfl, rfl⟩, ⟨⟨_, _, rfl, rfl⟩, ⟨⟨_, _, rfl, rfl⟩, ⟨⟨_, _, rfl, rfl⟩, ⟨⟨_, _, rfl, rfl⟩, ⟨⟨_, _, rfl, rfl⟩, ⟨⟨_, _, rfl, rfl⟩, ⟨⟨_, _, rfl, rfl⟩, ⟨⟨_, _, rfl, rfl⟩, ⟨⟨_, _, rfl, rfl⟩, trivial⟩⟩⟩⟩⟩⟩⟩⟩⟩⟩⟩)
    (case pz_PLACES => rfl)
    (case pf_PLACES => exact ⟨⟨("none", 0), by decide +kernel, _, rfl⟩, ⟨⟨("one", 0), by decide +kernel, _, rfl⟩, ⟨⟨("all", 0), by decide +kernel, _, rfl⟩, ⟨⟨("not", 1), by decide +kernel, _, rfl⟩, ⟨⟨("neg", 1), by decide +kernel, _, rfl⟩, ⟨⟨("twice", 1), by decide +kernel, _, rfl⟩, ⟨⟨("and", 2), by decide +kernel, _, rfl⟩, ⟨⟨("or", 2), by decide +kernel, _, rfl⟩, ⟨⟨("xor", 2), by decide +kernel, _, rfl⟩, ⟨⟨("add", 2), by decide +kernel, _, rfl⟩, ⟨⟨("sub", 2), by decide +kernel, _, rfl⟩, trivial⟩⟩⟩⟩⟩⟩⟩⟩⟩⟩⟩)
    (case a_WideError => k_is)
    (case x_WideError => k_exc)
    (case k_WideError => k_is)
    (case e1_WideError => k_is)
    (case e2_WideError => k_is)
    (case e3_WideError => k_is)
    (case e4_WideError => k_is)
    (case e5_WideError => k_is)
    (case e6_WideError => k_is)
    (case e7_WideError => k_is)
    (case e8_WideError => k_is)
    (case e9_WideError => k_is)
    (case e10_WideError => k_is)
    (case e11_WideError => k_is)
    (case a_NoRow => k_is)
    (case x_NoRow => k_exc)
    (case k_NoRow => k_is)
    (case e1_NoRow => k_is)
    (case e2_NoRow => k_is)
    (case e3_NoRow => k_is)
    (case e4_NoRow => k_is)
    (case e5_NoRow => k_is)
    (case e6_NoRow => k_is)
    (case e7_NoRow => k_is)
    (case e8_NoRow => k_is)
    (case e9_NoRow => k_is)
    (case e10_NoRow => k_is)
    (case e11_NoRow => k_is)
    (case a_NoPair => k_is)
    (case x_NoPair => k_exc)
    (case k_NoPair => k_is)
    (case e1_NoPair => k_is)
    (case e2_NoPair => k_is)
    (case e3_NoPair => k_is)
    (case e4_NoPair => k_is)
    (case e5_NoPair => k_is)
    (case e6_NoPair => k_is)
    (case e7_NoPair => k_is)
    (case e8_NoPair => k_is)
    (case e9_NoPair => k_is)
    (case e10_NoPair => k_is)
    (case e11_NoPair => k_is)
    (case a_NoRule => k_is)
    (case x_NoRule => k_exc)
    (case k_NoRule => k_is)
    (case e1_NoRule => k_is)
    (case e2_NoRule => k_is)
    (case e3_NoRule => k_is)
    (case e4_NoRule => k_is)
    (case e5_NoRule => k_is)
    (case e6_NoRule => k_is)
    (case e7_NoRule => k_is)
    (case e8_NoRule => k_is)
    (case e9_NoRule => k_is)
    (case e10_NoRule => k_is)
    (case e11_NoRule => k_is)
    (case a_NoName => k_is)
    (case x_NoName => k_exc)
    (case k_NoName => k_is)
    (case e1_NoName => k_is)
    (case e2_NoName => k_is)
    (case e3_NoName => k_is)
    (case e4_NoName => k_is)
    (case e5_NoName => k_is)
    (case e6_NoName => k_is)
    (case e7_NoName => k_is)
    (case e8_NoName => k_is)
    (case e9_NoName => k_is)
    (case e10_NoName => k_is)
    (case e11_NoName => k_is)
    (case a_NoText => k_is)
    (case x_NoText => k_exc)
    (case k_NoText => k_is)
    (case e1_NoText => k_is)
    (case e2_NoText => k_is)
    (case e3_NoText => k_is)
    (case e4_NoText => k_is)
    (case e5_NoText => k_is)
    (case e6_NoText => k_is)
    (case e7_NoText => k_is)
    (case e8_NoText => k_is)
    (case e9_NoText => k_is)
    (case e10_NoText => k_is)
    (case e11_NoText => k_is)
    (case a_TooMany => k_is)
    (case x_TooMany => k_exc)
    (case k_TooMany => k_is)
    (case e1_TooMany => k_is)
    (case e2_TooMany => k_is)
    (case e3_TooMany => k_is)
    (case e4_TooMany => k_is)
    (case e5_TooMany => k_is)
    (case e6_TooMany => k_is)
    (case e7_TooMany => k_is)
    (case e8_TooMany => k_is)
    (case e9_TooMany => k_is)
    (case e10_TooMany => k_is)
    (case e11_TooMany => k_is)
    (case a_Nothing => k_is)
    (case x_Nothing => k_exc)
    (case k_Nothing => k_is)
    (case e1_Nothing => k_is)
    (case e2_Nothing => k_is)
    (case e3_Nothing => k_is)
    (case e4_Nothing => k_is)
    (case e5_Nothing => k_is)
    (case e6_Nothing => k_is)
    (case e7_Nothing => k_is)
    (case e8_Nothing => k_is)
    (case e9_Nothing => k_is)
    (case e10_Nothing => k_is)
    (case e11_Nothing => k_is)
    (case s_WideError_WideError => k_is)
    (case s_WideError_NoRow => k_is)
    (case s_WideError_NoPair => k_is)
    (case s_WideError_NoRule => k_is)
    (case s_WideError_NoName => k_is)
    (case s_WideError_NoText => k_is)
    (case s_WideError_TooMany => k_is)
    (case s_WideError_Nothing => k_is)
    (case s_NoRow_WideError => k_is)
    (case s_NoRow_NoRow => k_is)
    (case s_NoRow_NoPair => k_is)
    (case s_NoRow_NoRule => k_is)
    (case s_NoRow_NoName => k_is)
    (case s_NoRow_NoText => k_is)
    (case s_NoRow_TooMany => k_is)
    (case s_NoRow_Nothing => k_is)
    (case s_NoPair_WideError => k_is)
    (case s_NoPair_NoRow => k_is)
    (case s_NoPair_NoPair => k_is)
    (case s_NoPair_NoRule => k_is)
    (case s_NoPair_NoName => k_is)
    (case s_NoPair_NoText => k_is)
    (case s_NoPair_TooMany => k_is)
    (case s_NoPair_Nothing => k_is)
    (case s_NoRule_WideError => k_is)
    (case s_NoRule_NoRow => k_is)
    (case s_NoRule_NoPair => k_is)
    (case s_NoRule_NoRule => k_is)
    (case s_NoRule_NoName => k_is)
    (case s_NoRule_NoText => k_is)
    (case s_NoRule_TooMany => k_is)
    (case s_NoRule_Nothing => k_is)
    (case s_NoName_WideError => k_is)
    (case s_NoName_NoRow => k_is)
    (case s_NoName_NoPair => k_is)
    (case s_NoName_NoRule => k_is)
    (case s_NoName_NoName => k_is)
    (case s_NoName_NoText => k_is)
    (case s_NoName_TooMany => k_is)
    (case s_NoName_Nothing => k_is)
    (case s_NoText_WideError => k_is)
    (case s_NoText_NoRow => k_is)
    (case s_NoText_NoPair => k_is)
    (case s_NoText_NoRule => k_is)
    (case s_NoText_NoName => k_is)
    (case s_NoText_NoText => k_is)
    (case s_NoText_TooMany => k_is)
    (case s_NoText_Nothing => k_is)
    (case s_TooMany_WideError => k_is)
    (case s_TooMany_NoRow => k_is)
    (case s_TooMany_NoPair => k_is)
    (case s_TooMany_NoRule => k_is)
    (case s_TooMany_NoName => k_is)
    (case s_TooMany_NoText => k_is)
    (case s_TooMany_TooMany => k_is)
    (case s_TooMany_Nothing => k_is)
    (case s_Nothing_WideError => k_is)
    (case s_Nothing_NoRow => k_is)
    (case s_Nothing_NoPair => k_is)
    (case s_Nothing_NoRule => k_is)
    (case s_Nothing_NoName => k_is)
    (case s_Nothing_NoText => k_is)
    (case s_Nothing_TooMany => k_is)
    (case s_Nothing_Nothing => k_is)
    (case z_ValueError => k_is)
    (case z_abs => k_is)
    (case z_all => k_is)
    (case z_bool => k_is)
    (case z_enumerate => k_is)
    (case z_int => k_is)
    (case z_isinstance => k_is)
    (case z_len => k_is)
    (case z_list => k_is)
    (case z_max => k_is)
    (case z_range => k_is)
    (case z_repr => k_is)
    (case z_sorted => k_is)
    (case z_str => k_is)
    (case z_tuple => k_is)
    (case z_zip => k_is)
