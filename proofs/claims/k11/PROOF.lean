import PyProof.Rows.All
import Wide.All
import OpenK.AllK
import Wide.FinOn
import HandS.Base
import HandS.Call
import HandS.List
import HandS.Comp
import HandS.Ends
import HandS.Dict
import HandS.Iter
import HandS.EndBits
import HandS.Words
import HandS.WordsList
import HandS.WordsDict
import HandS.Text
import HandS.Wide
import HandS.WideBits
import HandS.Conv
import HandS.TupLe
import HandS.IsInst
import HandS.ExcIs
import HandS.ExcValue
import HandS.TupSets
import HandS.Zip
import HandS.Walk
import HandS.TupAny
import HandS.Deep
import PyProof.ReprRoads
import PyProof.ReprBulk
import KE.GoesZip
import KE.GoesMore
import KE.GoesEnum
import HandS.DictTup
import HandS.TupLen
import HandS.NoneIn
import HandS.Records
import HandS.Flow
import HandS.More
import KE.KDictWalk
import KE.KDictDisplayH
import PyProof.WalkInts
import PyProof.DictTable
import KE.KeyNested
import KE.KDictKeyed
import PyProof.DictMoreH
import HandS.ListItems
import KE.KTurns
import PySem.Challenge.RW_anywide_k11_whole_bits_tell_values
set_option Elab.async false
set_option linter.all false
set_option maxRecDepth 100000
namespace AW
open PySem PySem.Spec PyProof.Rows L2

/-! ### a def's call at one around -/
theorem fn_at {P : Program} {w : World} {K : PySem.W.Frag} {mg : Str → Option Value} {base : Heap} {k : Nat} {f : Addr} {x qual : Str} {st : Stmt} {fd : FuncData} {N ps : List Str}
    (F : Fun K x qual st f fd) (S : FnScope N ps (defScope st)) {A : Around} {outer : List Env} {s : Shared} {H : Hp} {args : Args} {us : List Value} {vs : List V} {Q : VK} {E : XK}
    (hr : Room (k + 1) A) (e0 : Env0 P w K mg base A outer s H) (hb : BindsTo s fd args (ps.zip us)) (r : Vals vs us) (hl : vs.length = ps.length)
    (hbody : ∀ cdv : Value, ∃ t, PSs (cxOf CX0 P w K mg base N qual (defScope st) f cdv A outer s H E).nox (defBody st) t ∧ t { nx := fun _ H' => Q .non H', rt := Q } (start N vs) H) :
    codeAny (model P w) A (.call (.ref f) args) (CR CX0 outer P w H s Q E) s := by
  obtain ⟨oc, od, kV, doc, pm, an, cdv, ct, osl, rfl, lk, hcd⟩ := F.ex
  have keep0 : ∀ b o, base.get? b = some o → s.heap.get? b = some o := fun b o e => (e0.bs b o e).1
  have KX := e0.mod.kin.keeps keep0
  refine codeAny_call_function (Room.depth hr) (KX _ _ lk) rfl S.co S.gen rfl (PySem.W.codeRec_of KX hcd) (hb _ _ _ _ ?_)
  have kinds : ∀ y ∈ ps.zip us, (defScope st).names.lookup y.1 = some .local ∨ ((defScope st).names.lookup y.1 = some .cell ∧ ((cellsFrom (s.heap.objs.size + 1) (defScope st).names []).lookup y.1).isSome = true) := by
    intro y hy
    obtain ⟨n, v⟩ := y
    exact (S.par n (List.of_mem_zip hy).1).elim Or.inl fun q => Or.inr ⟨q, PySem.W.cellsFrom_some _ _ _ (.inl q)⟩
  refine wpAny_newFunctionEnv_cells S.kind kinds ?_
  rintro env rfl s1 ic
  obtain ⟨t, ht, hq⟩ := hbody cdv
  refine ⟨(e0.mod.nolimit.keeps keep0).keeps ic.toInCall.keep, codeAny_func (wpAny_mono (ht.nox.run [] s1 (start N vs) H _ (inv_start S hr.hd e0 hl r ic) hq) ?_ (fun _ _ z => z))⟩
  intro fl s' hs
  cases fl with
  | ret u =>
    obtain ⟨v, σ', H', J, rv, q⟩ := hs
    exact ⟨v, H', J.os, J.bare, J.base, J.hok, rv, q⟩
  | next =>
    obtain ⟨σ', H', J, q⟩ := hs
    exact ⟨V.non, H', J.os, J.bare, J.base, J.hok, rfl, q⟩
  | brk => exact hs.elim fun _ z => z.elim fun _ z => z.2.elim
  | cont => exact hs.elim fun _ z => z.elim fun _ z => z.2.elim

/-! ### the law's own call -/
theorem env_at {P : Program} {w : World} {K : PySem.W.Frag} {mg mb : Str → Option Value} {a : Addr} {s1 : Shared} {vs : List Value} {H : Hp}
    (KX : K.In s1.heap) (hns : s1.heap.Ns mainGlobals mg) (hb : s1.heap.Ns builtinsNs mb) (hbb : ∀ x : Str, x ≠ "__name__" → mb x = bootBuiltins x) (hlim : s1.heap.NoLimit) (hg : s1.gens = #[])
    (ha : s1.heap.get? a = some { cls := .type "list", data := .seq vs.toArray }) (one : ∀ b u, H b = some u → b = a) (out : ∀ o, K.lookup a = some o → H a = none) (ok : HOk P w H s1.heap) :
    Env0 P w K mg (hidT s1.heap H) callerA [] s1 H := by
  have dicts : ∀ {b : Addr} {m : Str → Option Value}, s1.heap.Ns b m → (hidT s1.heap H).Ns b m := by
    rintro b m ⟨o, es, ep, e, d, r⟩
    refine ⟨o, es, ep, hidT_get e ?_, d, r⟩
    match q : H b with
    | none => rfl
    | some u =>
      obtain rfl := one b u q
      have e2 := Option.some.inj (e.symm.trans ha)
      rw [e2] at d
      cases d
  have kin : K.In (hidT s1.heap H) := by
    intro b o e
    refine hidT_get (KX b o e) ?_
    match q : H b with
    | none => rfl
    | some u =>
      obtain rfl := one b u q
      exact q.symm.trans (out o e)
  obtain ⟨mc, l1, l2⟩ := hlim
  exact ⟨rfl, ⟨kin, dicts hns, ⟨mb, dicts hb, hbb⟩, ⟨mc, dicts l1, l2⟩⟩, fun b o e => of_hidT e, Nat.le_of_eq (hidT_size _ _), trivial, (fun b z => nomatch z), ok, .of_eq hg⟩

theorem law_end {P : Program} {w : World} {K : PySem.W.Frag} {mg mb : Str → Option Value} {fa a : Addr} {s1 : Shared} {vs : List Value} {ns : List Int}
    (KX : K.In s1.heap) (hns : s1.heap.Ns mainGlobals mg) (hb : s1.heap.Ns builtinsNs mb) (hbb : ∀ x : Str, x ≠ "__name__" → mb x = bootBuiltins x) (hlim : s1.heap.NoLimit) (hg : s1.gens = #[])
    (ha : s1.heap.get? a = some { cls := .type "list", data := .seq vs.toArray }) (hi : IntsAre vs ns) (hl : ns.length ≤ sizeLine)
    (run : ∀ (base : Heap) (H : Hp), Env0 P w K mg base callerA [] s1 H → SqL K H a (ns.map V.int) →
      codeAny (model P w) callerA (.call (.ref fa) ⟨[.ref a], []⟩) (CR CX0 [] P w H s1 (fun v _ => v = .bl true) E0) s1) :
    codeAny (model P w) callerA (.call (.ref fa) ⟨[.ref a], []⟩) (fun r s' => r = .ok (.ret (.bool true)) ∧ OldK s1.heap s'.heap ∧ s'.os = s1.os ∧ AllBare s'.gens) s1 := by
  have rv := vals_ints hi
  have fin : ∀ H : Hp, HOk P w H s1.heap → (∀ b u, H b = some u → ∃ o xs, u = .frz o (.lst xs)) → ∀ r s', CR CX0 [] P w H s1 (fun v _ => v = .bl true) E0 r s' →
      r = .ok (.ret (.bool true)) ∧ OldK s1.heap s'.heap ∧ s'.os = s1.os ∧ AllBare s'.gens := by
    intro H ok hf r s' h
    match r, h with
    | .ok (.ret u), ⟨v, H', os, bare, un, ok2, rel, q⟩ =>
      obtain rfl : v = .bl true := q
      obtain rfl : u = Value.bool true := rel
      refine ⟨rfl, OldK.of_keep ?_, os, bare⟩
      intro b o e
      match qb : H b with
      | none => exact un.keep b o e qb (fun z => nomatch z) (fun z => nomatch z)
      | some ho =>
        obtain ⟨o2, xs, rfl⟩ := hf b ho qb
        have k1 := (ok b _ qb).1
        have k2 := (ok2 b _ (un.frzs b o2 _ qb)).1
        rw [e] at k1
        cases k1
        exact k2
  match hk : K.lookup a with
  | some o =>
    have e := (KX a o hk).symm.trans ha
    obtain rfl := Option.some.inj e
    have ok : HOk P w (fun _ => none) s1.heap := fun b u z => nomatch z
    refine codeAny_mono (run _ (fun _ => none) (env_at KX hns hb hbb hlim hg ha (fun b u z => nomatch z) (fun _ _ => rfl) ok) ?_) (fin _ ok fun b u z => nomatch z)
    exact .inr ⟨_, vs.toArray, _, hk, rfl, rfl, rfl, by rw [List.size_toArray, hi.length]; exact hl, by simpa using rv⟩
  | none =>
    let o : Obj := { cls := .type "list", data := .seq vs.toArray }
    have at_ : ∀ b u, (if b = a then some (HO.frz o (.lst (ns.map V.int))) else none) = some u → b = a ∧ u = HO.frz o (.lst (ns.map V.int)) := by
      intro b u z
      by_cases hb : b = a
      · rw [if_pos hb] at z
        exact ⟨hb, (Option.some.inj z).symm⟩
      · rw [if_neg hb] at z
        cases z
    have ok : HOk P w (fun b => if b = a then some (HO.frz o (.lst (ns.map V.int))) else none) s1.heap := by
      intro b u z
      obtain ⟨rfl, rfl⟩ := at_ b u z
      exact ⟨ha, by rw [List.length_map]; exact hl, vs, _, rv, ha⟩
    refine codeAny_mono (run _ _ (env_at KX hns hb hbb hlim hg ha (fun b u z => (at_ b u z).1) (fun o' e => absurd (hk.symm.trans e) (fun z => nomatch z)) ok) ?_) (fin _ ok fun b u z => ⟨_, _, (at_ b u z).2⟩)
    exact .inl (.inr ⟨o, if_pos rfl⟩)

theorem walkG {l : PySem.W.OpenLaw} {n : Nat} {q : Program} {loose : List Str} {XP : (Str → Option Value) → Heap → Prop} {YP : World → Heap → Prop} {d : DefRec} {K : Params → PySem.W.Frag}
    (hn : l.most = some n) (hn2 : n ≤ sizeLine) (hdf : d.params.defaults = []) (hY : ∀ (w : World) (h : Heap), YP w h → (K w.params).In h)
    (F : ∀ (w : World) (mg : Str → Option Value) (fa : Addr) (h : Heap), (K w.params).In h → h.Ns mainGlobals mg → mg d.name = some (.ref fa) →
      ∀ (s : Shared) (a : Addr) (ns : List Int) (base : Heap) (H : Hp), ns.length ≤ n → (∀ z ∈ ns, Builtin.Int.intBits z ≤ 1048576) → Env0 l.prog w (K w.params) mg base callerA [] s H → SqL (K w.params) H a (ns.map V.int) →
        codeAny (model l.prog w) callerA (.call (.ref fa) ⟨[.ref a], []⟩) (CR CX0 [] l.prog w H s (fun v _ => v = .bl true) E0) s) :
    PySem.W.WalkO q loose XP YP l.row.toRowW d [] (fun f vs => PySem.call f vs) := by
  apply Att.attach_callB hn hdf
  intro w s0 s1 mg mb fa o pm cd doc a vs ns G Y ho hd hcd hmg hobj hints hlen hbits hg
  have KX := hY w _ Y
  exact law_end KX G.T.g G.T.b G.T.builtins G.T.nolimit hg hobj hints (Nat.le_trans hlen hn2) fun base H e0 hS => F w mg fa _ KX G.T.g hmg s1 a ns base H hlen hbits e0 hS

/-! ### repr of data -/
section
variable {X : Cx}
/-- what a value reads, whatever the state -/
def Rz (X : Cx) (H : Hp) (v : V) (d : PyData) : Prop := ∀ pins σ s u, Inv X pins σ H s → RelV v u → ∃ as, Reads s.heap u d as ∧ sysModules ∉ as
def rRepr (X : Cx) : List V → Hp → VK → Prop := fun xs H Q => ∃ (x : V) (d : PyData), xs = [x] ∧ (Rz X H x d ∨ (Dp X.K H x d ∧ d.hasDict = false)) ∧ d.showable = true ∧ d.depth ≤ 40 ∧ d.shown.length ≤ sizeLine ∧ Q (.str d.shown) H
theorem call_repr (hg : X.A.guards = some []) (hu : X.A.units + 64 < cLine) : CallR X (.builtin "repr") (rRepr X) := by
  intro pins s σ H xs us Q I r h
  obtain ⟨x, d, rfl, hd, hs, hp, hz, q⟩ := h
  match us, r with
  | [u], .cons rx .nil =>
    have rd : ∃ as, Reads s.heap u d as ∧ (d.hasDict = true → sysModules ∉ as) := by
      rcases hd with hd | ⟨hd, hn⟩
      · obtain ⟨as, h1, h2⟩ := hd pins σ s u I rx
        exact ⟨as, h1, fun _ => h2⟩
      · obtain ⟨as, h1⟩ := Dp.reads I d x u hd rx
        exact ⟨as, h1, fun z => by rw [hn] at z; cases z⟩
    obtain ⟨as, h1, h2⟩ := rd
    cases h1 with
    | none => exact PySem.P.repr_of_none ⟨.str _, H, I.tok _, ⟨_, rfl⟩, q⟩
    | bool b => exact PySem.P.repr_of_bool ⟨.str _, H, I.tok _, ⟨_, rfl⟩, by have q' := q; simp only [PyData.shown] at q'; cases b <;> exact q'⟩
    | int i t => exact PySem.P.repr_of_int (by simpa [PyData.showable] using hs) ⟨.str _, H, I.tok _, ⟨_, rfl⟩, by simpa only [PyData.shown] using q⟩
    | str x t => exact PySem.P.repr_of_str ⟨.str _, H, I.tok _, ⟨_, rfl⟩, by simpa only [PyData.shown] using q⟩ (by simpa only [PyData.shown] using hz)
    | list a b c e => exact repr_of_reads' (Reads.list a b c e) hs h2 hg (by omega) (fun _ _ e => e) (fun h' u tk k => ⟨.str _, H, I.kept k, ⟨_, rfl⟩, q⟩) hz
    | tuple a b c e => exact repr_of_reads' (Reads.tuple a b c e) hs h2 hg (by omega) (fun _ _ e => e) (fun h' u tk k => ⟨.str _, H, I.kept k, ⟨_, rfl⟩, q⟩) hz
    | dict a b c e f => exact repr_of_reads' (Reads.dict a b c e f) hs h2 hg (by omega) (fun _ _ e => e) (fun h' u tk k => ⟨.str _, H, I.kept k, ⟨_, rfl⟩, q⟩) hz

theorem Rz.int (H : Hp) (i : Int) : Rz X H (.int i) (.int i) := by
  rintro pins σ s u I ⟨t, rfl⟩
  exact ⟨_, Reads.int i t, (fun z => nomatch z)⟩
theorem Rz.str (H : Hp) (x : Str) : Rz X H (.str x) (.str x) := by
  rintro pins σ s u I ⟨t, rfl⟩
  exact ⟨_, Reads.str x t, (fun z => nomatch z)⟩
theorem rz_all {H : Hp} : ∀ {vs : List V} {ds : List PyData}, Paired (Rz X H) vs ds → ∀ {pins σ s us}, Inv X pins σ H s → Vals vs us → ∃ as, ReadsAll s.heap us ds as ∧ sysModules ∉ as
  | _, _, .nil, _, _, _, _, _, .nil => ⟨_, ReadsAll.nil, (fun z => nomatch z)⟩
  | _, _, .cons h t, _, _, _, _, I, .cons r rs => by
    obtain ⟨as, a1, a2⟩ := h _ _ _ _ I r
    obtain ⟨bs, b1, b2⟩ := rz_all t I rs
    exact ⟨_, ReadsAll.cons a1 b1, fun z => (List.mem_append.mp z).elim a2 b2⟩
theorem Rz.tup {H : Hp} {a : Addr} {xs : List V} {ds : List PyData} (h : SqT X.K H a xs) (hs : Paired (Rz X H) xs ds) : Rz X H (.ref a) (.tuple ds) := by
  intro pins σ s u I r
  obtain rfl : u = Value.ref a := r
  obtain ⟨its, rv, ⟨o, ho, hc, n, hd⟩, _⟩ := I.tuple h
  obtain ⟨as, h1, h2⟩ := rz_all hs I rv
  exact ⟨_, Reads.tuple ho hc hd h1, h2⟩
end
end AW
namespace AW
open PySem PySem.Spec PyProof.Rows L2
section
variable {X : Cx}
def CPowW (i j : Int) : Prop := 0 ≤ j ∧ (Builtin.Int.intBits i : Int) * j ≤ 2 ^ 27
theorem op_powW : OpR X (binaryOp .Pow) (rI CPowW fun i j => .int (i ^ j.toNat)) := opI fun _ _ _ _ _ _ _ hc q => pow_int hc.1 hc.2 q
end
theorem bits_lt {z : Int} {n : Nat} (h : Builtin.Int.intBits z ≤ n) : z.natAbs < 2 ^ n := by
  unfold Builtin.Int.intBits at h
  by_cases e : z = 0
  · subst e
    exact Nat.pos_of_ne_zero (by simp)
  · rw [if_neg (by simpa using e)] at h
    have : z.natAbs ≠ 0 := by omega
    exact (Nat.log2_lt this).mp (by omega)
theorem seed_ok {z c : Int} (h0 : 0 ≤ z) (h1 : z ≤ 2147483629) (h2 : Builtin.Int.intBits c ≤ 1048576) : CPowW (z * 50021 + c) 3 := by
  refine ⟨by decide, ?_⟩
  have hc := bits_lt h2
  have h3 : (z * 50021 + c).natAbs < 2 ^ 1048577 := by
    have a : (z * 50021 + c).natAbs ≤ (z * 50021).natAbs + c.natAbs := Int.natAbs_add_le _ _
    have b : (z * 50021).natAbs ≤ 2 ^ 48 := by omega
    have d : (2 : Nat) ^ 48 ≤ 2 ^ 1048576 := Nat.pow_le_pow_right (by decide) (by decide)
    have e : (2 : Nat) ^ 1048577 = 2 ^ 1048576 + 2 ^ 1048576 := by rw [Nat.pow_succ]; omega
    omega
  have h4 := PyProof.Rows.intBits_le h3
  have e : (2 : Int) ^ 27 = 134217728 := by decide
  rw [e]
  omega
/-! ### what follows an if, shown once -/
def tMid (t u : TS) : TS := fun D σ H => ∃ M : L2.St → Hp → Prop, t { D with nx := M } σ H ∧ ∀ σ2 H2, M σ2 H2 → u D σ2 H2
theorem pss_mid {X : Cx} {st : Stmt} {r : List Stmt} {t u : TS} (a : PS X st t) (b : PSs X r u) : PSs X (st :: r) (tMid t u) := by
  constructor
  rintro pins s σ H D I ⟨M, h1, h2⟩
  apply wpAny_execs_cons
  refine thn (a.run pins s σ H _ I h1) ?_
  intro fl s2 z
  match fl, z with
  | .next, ⟨σ2, H2, I2, m⟩ => exact b.run pins s2 σ2 H2 D I2 (h2 σ2 H2 m)
  | .ret _, z => exact z
  | .brk, z => exact z
  | .cont, z => exact z
/-! ### the well -/
def WL (H : Hp) (a c : Addr) : Prop := a ≠ c ∧ ∃ (cs : List Int) (r s : Int), H a = some (.lst [.ref c, .int r, .int s]) ∧ H c = some (.lst (cs.map V.int))
/-- all but the well stands as it stood -/
def Kp (a c : Addr) (H H' : Hp) : Prop := ∀ b o, b ≠ a → b ≠ c → H b = some o → H' b = some o
theorem Kp.refl (a c : Addr) (H : Hp) : Kp a c H H := fun _ _ _ _ h => h
theorem Kp.trans {a c : Addr} {H H1 H2 : Hp} (h : Kp a c H H1) (k : Kp a c H1 H2) : Kp a c H H2 := fun b o n1 n2 e => k b o n1 n2 (h b o n1 n2 e)
theorem Kp.tup {a c : Addr} {H H' : Hp} (w : WL H a c) (k : Kp a c H H') {b : Addr} {xs : List V} (h : H b = some (.tup xs)) : H' b = some (.tup xs) := by
  obtain ⟨_, cs, r, s, e1, e2⟩ := w
  exact k b _ (ne_of h e1 (fun z => nomatch z)) (ne_of h e2 (fun z => nomatch z)) h
theorem Kp.same {a c : Addr} {H H1 H2 : Hp} (ha : H a = none) (hc : H c = none) (s : Same H H1) (k : Kp a c H1 H2) : Same H H2 := fun b o e => k b o (ne_of_none e ha) (ne_of_none e hc) (s b o e)
theorem same_new {H : Hp} {p : Addr} {o : HO} (h : H p = none) : Same H (upd H p o) := fun b x e => by
  rw [upd_ne (ne_of_none e h)]
  exact e
theorem WL.same {H H' : Hp} {a c : Addr} (w : WL H a c) (k : Same H H') : WL H' a c := by
  obtain ⟨n, cs, r, s, e1, e2⟩ := w
  exact ⟨n, cs, r, s, k _ _ e1, k _ _ e2⟩
theorem WL.ne_new {H : Hp} {a c p : Addr} (w : WL H a c) (h : H p = none) : p ≠ a ∧ p ≠ c := by
  obtain ⟨n, cs, r, s, e1, e2⟩ := w
  exact ⟨(ne_of_none e1 h).symm, (ne_of_none e2 h).symm⟩
theorem WL.upd {H : Hp} {a c p : Addr} {o : HO} (w : WL H a c) (h1 : p ≠ a) (h2 : p ≠ c) : WL (upd H p o) a c := by
  obtain ⟨n, cs, r, s, e1, e2⟩ := w
  exact ⟨n, cs, r, s, by rw [upd_ne h1.symm]; exact e1, by rw [upd_ne h2.symm]; exact e2⟩
theorem Same.kp {a c : Addr} {H H' : Hp} (s : Same H H') : Kp a c H H' := fun b o _ _ e => s b o e
theorem dp_ints {K : PySem.W.Frag} {H : Hp} : ∀ cs : List Int, DpAll K H (cs.map V.int) (cs.map PyData.int)
  | [] => .nil
  | c :: cs => .cons (.int c) (dp_ints cs)
theorem lay_ints : ∀ cs : List Int, PyData.canLayAll0 (cs.map PyData.int) = true ∧ PyData.depthAll (cs.map PyData.int) = 0
  | [] => ⟨by simp only [List.map_nil, PyData.canLayAll0], by simp only [List.map_nil, PyData.depthAll]⟩
  | c :: cs => by
    obtain ⟨h1, h2⟩ := lay_ints cs
    exact ⟨by simp only [List.map_cons, PyData.canLayAll0, PyData.canLay0, h1, Bool.and_self], by simp only [List.map_cons, PyData.depthAll, PyData.depth, h2, Nat.max_self]⟩
theorem shaped_ints (cs : List Int) : SeqAt.shaped (.list (cs.map PyData.int)) = true := by
  obtain ⟨h1, h2⟩ := lay_ints cs
  simp only [SeqAt.shaped, PyData.canLay0, PyData.depth, h1, h2, Bool.true_and]
  decide
theorem dp_strs {K : PySem.W.Frag} {H : Hp} : ∀ cs : List Str, DpAll K H (cs.map V.str) (cs.map PyData.str)
  | [] => .nil
  | c :: cs => .cons (.str c) (dp_strs cs)
theorem lay_strs : ∀ cs : List Str, (∀ x ∈ cs, PyData.strOk x = true) → PyData.canLayAll0 (cs.map PyData.str) = true ∧ PyData.depthAll (cs.map PyData.str) = 0
  | [], _ => ⟨by simp only [List.map_nil, PyData.canLayAll0], by simp only [List.map_nil, PyData.depthAll]⟩
  | c :: cs, h => by
    obtain ⟨h1, h2⟩ := lay_strs cs fun x hx => h x (List.mem_cons_of_mem _ hx)
    exact ⟨by simp only [List.map_cons, PyData.canLayAll0, PyData.canLay0, h1, h c List.mem_cons_self, Bool.and_self], by simp only [List.map_cons, PyData.depthAll, PyData.depth, h2, Nat.max_self]⟩
theorem shaped_strs (cs : List Str) (h : ∀ x ∈ cs, PyData.strOk x = true) : SeqAt.shaped (.list (cs.map PyData.str)) = true := by
  obtain ⟨h1, h2⟩ := lay_strs cs h
  simp only [SeqAt.shaped, PyData.canLay0, PyData.depth, h1, h2, Bool.true_and]
  decide
theorem seq0 (n : Nat) : seqIndex? 0 (n + 1) = some 0 := by
  unfold seqIndex?
  simp
/-! ### the words of deeds, deeds, rows -/
def fwL : List (Str × Int) := [("none", 0), ("one", 0), ("all", 0), ("not", 1), ("neg", 1), ("twice", 1), ("and", 2), ("or", 2), ("xor", 2), ("add", 2), ("sub", 2)]
theorem fw_ok : ∀ x ∈ fwL.map (·.1), PyData.strOk x = true := by decide +kernel
def fwK : List (Key × V) := fwL.map fun p => (Sum.inr p.1, .int p.2)
/-- a deed: its word and its numbers -/
abbrev Deed := Str × List Int
def dV (d : Deed) : List V := .str d.1 :: d.2.map V.int
theorem dv0 (d : Deed) : atI (dV d) 0 = some (.str d.1) := atI_nat (j := 0) rfl
theorem dvN {d : Deed} {k : Nat} {i : Int} (h : d.2[k]? = some i) : atI (dV d) ((k + 1 : Nat) : Int) = some (.int i) := atI_nat (by show (d.2.map V.int)[k]? = _; rw [List.getElem?_map, h]; rfl)
structure DeedOk (m : Int) (d : Deed) : Prop where
  word : (d.1, (d.2.length : Int)) ∈ fwL
  ahead : ∀ i ∈ d.2, 0 ≤ i ∧ i < m
theorem fw_at {z : Int} (h0 : 0 ≤ z) (h1 : z < 11) : ∃ x n, (x, n) ∈ fwL ∧ 0 ≤ n ∧ n ≤ 2 ∧ atI (fwK.map fun kv => kV kv.1) z = some (.str x) ∧ valV fwK (Sum.inr x) = some (.int n) := by
  obtain ⟨k, rfl⟩ := Int.eq_ofNat_of_zero_le h0
  have hk : k = 0 ∨ k = 1 ∨ k = 2 ∨ k = 3 ∨ k = 4 ∨ k = 5 ∨ k = 6 ∨ k = 7 ∨ k = 8 ∨ k = 9 ∨ k = 10 := by omega
  rcases hk with rfl | rfl | rfl | rfl | rfl | rfl | rfl | rfl | rfl | rfl | rfl
  · exact ⟨"none", 0, by decide +kernel, by decide, by decide, by decide +kernel, by decide +kernel⟩
  · exact ⟨"one", 0, by decide +kernel, by decide, by decide, by decide +kernel, by decide +kernel⟩
  · exact ⟨"all", 0, by decide +kernel, by decide, by decide, by decide +kernel, by decide +kernel⟩
  · exact ⟨"not", 1, by decide +kernel, by decide, by decide, by decide +kernel, by decide +kernel⟩
  · exact ⟨"neg", 1, by decide +kernel, by decide, by decide, by decide +kernel, by decide +kernel⟩
  · exact ⟨"twice", 1, by decide +kernel, by decide, by decide, by decide +kernel, by decide +kernel⟩
  · exact ⟨"and", 2, by decide +kernel, by decide, by decide, by decide +kernel, by decide +kernel⟩
  · exact ⟨"or", 2, by decide +kernel, by decide, by decide, by decide +kernel, by decide +kernel⟩
  · exact ⟨"xor", 2, by decide +kernel, by decide, by decide, by decide +kernel, by decide +kernel⟩
  · exact ⟨"add", 2, by decide +kernel, by decide, by decide, by decide +kernel, by decide +kernel⟩
  · exact ⟨"sub", 2, by decide +kernel, by decide, by decide, by decide +kernel, by decide +kernel⟩
theorem awSnoc {α β : Type} {F : α → β → Prop} {x : α} {y : β} (h : F x y) : ∀ {l : List α} {l2 : List β}, Paired F l l2 → Paired F (l ++ [x]) (l2 ++ [y])
  | _, _, .nil => .cons h .nil
  | _, _, .cons r t => .cons r (awSnoc h t)
theorem awMap {α β : Type} {F G : α → β → Prop} (f : ∀ a b, F a b → G a b) : ∀ {l : List α} {l2 : List β}, Paired F l l2 → Paired G l l2
  | _, _, .nil => .nil
  | _, _, .cons r t => .cons (f _ _ r) (awMap f t)
theorem awLen {α β : Type} {F : α → β → Prop} : ∀ {l : List α} {l2 : List β}, Paired F l l2 → l.length = l2.length
  | _, _, .nil => rfl
  | _, _, .cons _ t => congrArg (· + 1) (awLen t)
theorem awGet {α β : Type} {F : α → β → Prop} : ∀ {l : List α} {l2 : List β} {i : Nat} {x : α}, Paired F l l2 → l[i]? = some x → ∃ y, l2[i]? = some y ∧ F x y
  | _, _, _, _, .nil, e => by simp at e
  | _, _, 0, _, .cons r _, e => by
    simp only [List.getElem?_cons_zero, Option.some.injEq] at e
    subst e
    exact ⟨_, rfl, r⟩
  | _, _, i + 1, x, .cons _ t, e => by
    simp only [List.getElem?_cons_succ] at e ⊢
    exact awGet t e
theorem awGet2 {α β : Type} {F : α → β → Prop} {l : List α} {l2 : List β} {i : Nat} {y : β} (h : Paired F l l2) (e : l2[i]? = some y) : ∃ x, l[i]? = some x ∧ F x y := by
  have hi : i < l.length := by
    rw [awLen h]
    exact (List.getElem?_eq_some_iff.mp e).1
  obtain ⟨y2, e2, f⟩ := awGet h (List.getElem?_eq_getElem hi)
  rw [e] at e2
  obtain rfl := Option.some.inj e2
  exact ⟨_, List.getElem?_eq_getElem hi, f⟩
/-- deeds that stand in the heap as tuples -/
abbrev DsAt (H : Hp) : List Addr → List Deed → Prop := Paired fun r d => H r = some (.tup (dV d))
def RowAt (H : Hp) (R : Addr) (m : Int) (ds : List Deed) (o : Int) : Prop := ∃ D rs, H R = some (.tup [.int m, .ref D, .int o]) ∧ H D = some (.tup (rs.map V.ref)) ∧ DsAt H rs ds
structure DsOk (m : Int) (ds : List Deed) : Prop where
  each : ∀ (k : Nat) d, ds[k]? = some d → DeedOk (m + k) d
structure RowOk (m : Int) (ds : List Deed) (o : Int) : Prop where
  m1 : 1 ≤ m
  m3 : m ≤ 3
  len : ds.length ≤ 8
  deeds : DsOk m ds
  o0 : 0 ≤ o
  o1 : o < m + ds.length
/-- all tuples stand -/
def TupsStay (H H' : Hp) : Prop := ∀ b xs, H b = some (.tup xs) → H' b = some (.tup xs)
theorem Same.tups {H H' : Hp} (s : Same H H') : TupsStay H H' := fun b xs e => s b _ e
theorem Kp.tups {a c : Addr} {H H' : Hp} (k : Kp a c H H') (w : WL H a c) : TupsStay H H' := fun b xs e => k.tup w e
theorem TupsStay.trans {H H1 H2 : Hp} (a : TupsStay H H1) (b : TupsStay H1 H2) : TupsStay H H2 := fun c xs e => b c xs (a c xs e)
theorem tups_put {H : Hp} {l : Addr} {xs : List V} {o : HO} (h : H l = some (.lst xs)) : TupsStay H (upd H l o) := fun b ys e => by
  rw [upd_ne (ne_of e h (fun z => nomatch z))]
  exact e
theorem TupsStay.ds {H H' : Hp} (t : TupsStay H H') {rs : List Addr} {ds : List Deed} (h : DsAt H rs ds) : DsAt H' rs ds := awMap (fun r d e => t r _ e) h
theorem TupsStay.row {H H' : Hp} (t : TupsStay H H') {R : Addr} {m o : Int} {ds : List Deed} (h : RowAt H R m ds o) : RowAt H' R m ds o := by
  obtain ⟨D, rs, e1, e2, e3⟩ := h
  exact ⟨D, rs, t _ _ e1, t _ _ e2, t.ds e3⟩
theorem dsOk_snoc {m : Int} {ds : List Deed} {d : Deed} (h : DsOk m ds) (k : DeedOk (m + ds.length) d) : DsOk m (ds ++ [d]) := by
  constructor
  intro i d' e
  by_cases hi : i < ds.length
  · rw [List.getElem?_append_left hi] at e
    exact h.each i d' e
  · rw [List.getElem?_append_right (by omega)] at e
    obtain ⟨h1, h2⟩ := List.getElem?_eq_some_iff.mp e
    have h3 : i = ds.length := by simp only [List.length_cons, List.length_nil] at h1; omega
    subst h3
    simp at h2
    subst h2
    exact k
/-! ### data that is shown in few signs -/
structure Nice (b k : Nat) (d : PyData) : Prop where
  sh : d.showable = true
  lv : d.leavesShort 21 = true
  bk : d.bulk ≤ b
  dp : d.depth ≤ k
theorem Nice.fits {b k : Nat} {d : PyData} (h : Nice b k d) (hb : b ≤ 100000) : d.shown.length ≤ sizeLine := by
  have h1 := PyData.shown_le_bulk 21 (by decide) d h.lv
  have h2 := h.bk
  rw [sizeLine_eq]
  omega
theorem Nice.mono {b b2 k k2 : Nat} {d : PyData} (h : Nice b k d) (hb : b ≤ b2) (hk : k ≤ k2) : Nice b2 k2 d := ⟨h.sh, h.lv, Nat.le_trans h.bk hb, Nat.le_trans h.dp hk⟩
theorem nice_int {i : Int} (h : i.natAbs < 10 ^ 20) : Nice 0 0 (.int i) := by
  refine ⟨?_, ?_, ?_, ?_⟩
  · simp only [PyData.showable, decide_eq_true_eq]
    have : i.natAbs < 2 ^ 70 := Nat.lt_trans h (by decide)
    by_cases e : i.natAbs = 0
    · rw [e]; decide
    · have := (Nat.log2_lt e).mpr this
      omega
  · simp only [PyData.leavesShort, decide_eq_true_eq]
    have e := int_text_length_le10 (k := 20) (by decide) h
    simp only [PyData.shown]
    rw [PySem.ofString_length]
    exact e
  · simp only [PyData.bulk, Nat.le_refl]
  · simp only [PyData.depth, Nat.le_refl]
theorem nice_str {x : Str} {n : Nat} (h : x.cps.size ≤ n) (hx : (x.cps.toList.all fun c => decide (c < 16 ^ 8)) = true) : Nice n 0 (.str x) := by
  refine ⟨?_, ?_, ?_, ?_⟩
  · simp only [PyData.showable]
  · simp only [PyData.leavesShort]
    exact hx
  · simp only [PyData.bulk]
    exact h
  · simp only [PyData.depth, Nat.le_refl]
theorem nice_all {b k : Nat} : ∀ {xs : List PyData}, (∀ x ∈ xs, Nice b k x) → PyData.showableAll xs = true ∧ PyData.leavesShortAll 21 xs = true ∧ PyData.bulkAll xs ≤ xs.length * (b + 1) ∧ PyData.depthAll xs ≤ k
  | [], _ => ⟨by simp only [PyData.showableAll], by simp only [PyData.leavesShortAll], by simp only [PyData.bulkAll, Nat.zero_le], by simp only [PyData.depthAll, Nat.zero_le]⟩
  | x :: xs, h => by
    obtain ⟨h1, h2, h3, h4⟩ := nice_all fun y hy => h y (List.mem_cons_of_mem _ hy)
    obtain ⟨g1, g2, g3, g4⟩ := h x List.mem_cons_self
    refine ⟨by simp only [PyData.showableAll, g1, h1, Bool.and_self], by simp only [PyData.leavesShortAll, g2, h2, Bool.and_self], ?_, ?_⟩
    · simp only [PyData.bulkAll, List.length_cons, Nat.add_mul, Nat.one_mul]
      omega
    · simp only [PyData.depthAll]
      omega
theorem nice_tup {b k n : Nat} {xs : List PyData} (h : ∀ x ∈ xs, Nice b k x) (hn : xs.length * (b + 1) ≤ n) : Nice n (k + 1) (.tuple xs) := by
  obtain ⟨h1, h2, h3, h4⟩ := nice_all h
  exact ⟨by simpa only [PyData.showable] using h1, by simpa only [PyData.leavesShort] using h2, by simp only [PyData.bulk]; omega, by simp only [PyData.depth]; omega⟩
theorem nice_lst {b k n : Nat} {xs : List PyData} (h : ∀ x ∈ xs, Nice b k x) (hn : xs.length * (b + 1) ≤ n) : Nice n (k + 1) (.list xs) := by
  obtain ⟨h1, h2, h3, h4⟩ := nice_all h
  exact ⟨by simpa only [PyData.showable] using h1, by simpa only [PyData.leavesShort] using h2, by simp only [PyData.bulk]; omega, by simp only [PyData.depth]; omega⟩
def deedD (d : Deed) : PyData := .tuple (.str d.1 :: d.2.map PyData.int)
def rowD (m : Int) (ds : List Deed) (o : Int) : PyData := .tuple [.int m, .tuple (ds.map deedD), .int o]
theorem fw_short : ∀ p ∈ fwL, p.1.cps.size ≤ 5 ∧ (p.1.cps.toList.all fun c => decide (c < 16 ^ 8)) = true ∧ p.2 ≤ 2 := by decide +kernel
theorem nice_deed {m : Int} {d : Deed} (h : DeedOk m d) (hm : m ≤ 100) : Nice 18 1 (deedD d) := by
  obtain ⟨h1, h2, h3⟩ := fw_short _ h.word
  refine nice_tup (b := 5) (k := 0) (fun x hx => ?_) ?_
  · rcases List.mem_cons.mp hx with rfl | hx
    · exact nice_str h1 h2
    · obtain ⟨i, hi, rfl⟩ := List.mem_map.mp hx
      obtain ⟨i0, i1⟩ := h.ahead i hi
      exact (nice_int (by omega)).mono (by decide) (by decide)
  · rw [List.length_cons, List.length_map]
    have : (d.2.length : Int) ≤ 2 := h3
    omega
theorem nice_row {m o : Int} {ds : List Deed} (h : RowOk m ds o) : Nice 459 3 (rowD m ds o) := by
  have hm := h.m1
  have hm3 := h.m3
  have hl := h.len
  have ho := h.o0
  have ho1 := h.o1
  refine nice_tup (b := 152) (k := 2) (fun x hx => ?_) (by simp only [List.length_cons, List.length_nil]; decide)
  simp only [List.mem_cons, List.not_mem_nil, or_false] at hx
  rcases hx with rfl | rfl | rfl
  · exact (nice_int (by omega)).mono (by decide) (by decide)
  · refine nice_tup (b := 18) (k := 1) (fun x hx => ?_) ?_
    · obtain ⟨d, hd, rfl⟩ := List.mem_map.mp hx
      obtain ⟨k, hk⟩ := List.mem_iff_getElem?.mp hd
      have hk1 := (List.getElem?_eq_some_iff.mp hk).1
      exact nice_deed (h.deeds.each k d hk) (by omega)
    · rw [List.length_map]
      omega
  · exact (nice_int (by omega)).mono (by decide) (by decide)
/-! ### what the row reads -/
section
variable {X : Cx}
theorem rz_ints (H : Hp) : ∀ l : List Int, Paired (Rz X H) (l.map V.int) (l.map PyData.int)
  | [] => .nil
  | i :: l => .cons (Rz.int H i) (rz_ints H l)
theorem rz_deed {H : Hp} {r : Addr} {d : Deed} (h : H r = some (.tup (dV d))) : Rz X H (.ref r) (deedD d) := Rz.tup (SqT.of h) (.cons (Rz.str H _) (rz_ints H _))
theorem rz_deeds {H : Hp} : ∀ {rs : List Addr} {ds : List Deed}, DsAt H rs ds → Paired (Rz X H) (rs.map V.ref) (ds.map deedD)
  | _, _, .nil => .nil
  | _, _, .cons h t => .cons (rz_deed h) (rz_deeds t)
theorem rz_row {H : Hp} {R : Addr} {m o : Int} {ds : List Deed} (h : RowAt H R m ds o) : Rz X H (.ref R) (rowD m ds o) := by
  obtain ⟨D, rs, e1, e2, e3⟩ := h
  exact Rz.tup (SqT.of e1) (.cons (Rz.int H m) (.cons (Rz.tup (SqT.of e2) (rz_deeds e3)) (.cons (Rz.int H o) .nil)))
/-- a dict of texts and ints -/
abbrev siK (es : List (Str × Int)) : List (Key × V) := es.map fun p => (Sum.inr p.1, .int p.2)
theorem si_reads {prog : Program} {w : World} {h : Heap} : ∀ (es : List (Str × Int)) (vs : List (Key × Value)) (en : List DictEntry), KV (siK es) vs → Pairs (mixKind prog w) en vs →
    ReadsAll h (en.map (·.key)) ((es.map fun p => (PyData.str p.1, PyData.int p.2)).map (·.1)) [] ∧ ReadsAll h (en.map (·.val)) ((es.map fun p => (PyData.str p.1, PyData.int p.2)).map (·.2)) []
  | [], _, _, .nil, .nil => ⟨.nil, .nil⟩
  | (x, i) :: es, _, _, .cons hh t, .cons hk hv hp => by
    obtain ⟨h1, h2⟩ := si_reads es _ _ t hp
    obtain ⟨k1, t1, e1⟩ := hh
    rw [← k1] at hk
    obtain ⟨t2, e2⟩ := Value.isStrOf_shape (x := x) hk
    refine ⟨?_, ?_⟩
    · simp only [List.map_cons]
      rw [e2]
      exact ReadsAll.cons (as := []) (Reads.str x t2) h1
    · simp only [List.map_cons]
      rw [hv, e1]
      exact ReadsAll.cons (as := []) (Reads.int i t1) h2
theorem rz_dict {H : Hp} {C : Addr} {es : List (Str × Int)} (h : H C = some (.dK (siK es))) : Rz X H (.ref C) (.dict (es.map fun p => (PyData.str p.1, PyData.int p.2))) := by
  intro pins σ s u I r
  obtain rfl : u = Value.ref C := r
  obtain ⟨_, hs, vs, hkv, o, en, ep, e1, e2, e3, e4, e5, e6⟩ := I.hok C _ h
  obtain ⟨r1, r2⟩ := si_reads (prog := X.prog) (w := X.w) (h := s.heap) es vs _ hkv e5
  refine ⟨_, Reads.dict e1 e2.1 e3 r1 r2, ?_⟩
  intro z
  simp only [List.append_nil, List.mem_cons, List.not_mem_nil, or_false] at z
  rw [← z] at hs
  simp at hs
end
theorem nice_dict {n : Nat} : ∀ {es : List (Str × Int)}, (∀ p ∈ es, p.1.cps.size ≤ 5 ∧ (p.1.cps.toList.all fun c => decide (c < 16 ^ 8)) = true ∧ p.2.natAbs < 10 ^ 20) → es.length * 7 ≤ n →
    Nice n 1 (.dict (es.map fun p => (PyData.str p.1, PyData.int p.2))) := by
  intro es h hn
  have key : ∀ es : List (Str × Int), (∀ p ∈ es, p.1.cps.size ≤ 5 ∧ (p.1.cps.toList.all fun c => decide (c < 16 ^ 8)) = true ∧ p.2.natAbs < 10 ^ 20) →
      PyData.showableKv (es.map fun p => (PyData.str p.1, PyData.int p.2)) = true ∧ PyData.leavesShortKv 21 (es.map fun p => (PyData.str p.1, PyData.int p.2)) = true ∧ PyData.bulkKv (es.map fun p => (PyData.str p.1, PyData.int p.2)) ≤ es.length * 7 ∧ PyData.depthKv (es.map fun p => (PyData.str p.1, PyData.int p.2)) = 0 := by
    intro es
    induction es with
    | nil => intro _; exact ⟨by simp only [List.map_nil, PyData.showableKv], by simp only [List.map_nil, PyData.leavesShortKv], by simp only [List.map_nil, PyData.bulkKv, Nat.zero_le], by simp only [List.map_nil, PyData.depthKv]⟩
    | cons p es ih =>
      intro h
      obtain ⟨h1, h2, h3, h4⟩ := ih fun q hq => h q (List.mem_cons_of_mem _ hq)
      obtain ⟨a, b, c⟩ := h p List.mem_cons_self
      obtain ⟨i1, i2, i3, i4⟩ := nice_int c
      obtain ⟨s1, s2, s3, s4⟩ := nice_str a b
      refine ⟨by simp only [List.map_cons, PyData.showableKv, i1, s1, h1, Bool.and_self], by simp only [List.map_cons, PyData.leavesShortKv, i2, s2, h2, Bool.and_self], ?_, ?_⟩
      · simp only [List.map_cons, PyData.bulkKv, List.length_cons]
        omega
      · simp only [List.map_cons, PyData.depthKv]
        omega
  obtain ⟨h1, h2, h3, h4⟩ := key es h
  exact ⟨by simpa only [PyData.showable] using h1, by simpa only [PyData.leavesShort] using h2, by simp only [PyData.bulk]; omega, by simp only [PyData.depth]; omega⟩
/-! ### values of rows -/
theorem strEq {x y : Str} (h : decide (V.str x = V.str y) = true) : x = y := V.str.inj (of_decide_eq_true h)
theorem strNe {x y : Str} (h : ¬ decide (V.str x = V.str y) = true) : ¬ x = y := fun e => h (decide_eq_true (congrArg V.str e))
def argAt (d : Deed) (told : List Int) (k : Nat) : Int := told.getD (d.2.getD k 0).toNat 0
def dvalue (x : Str) (A B size : Int) : Int :=
  if x = "none" then 0 else if x = "one" then 1 else if x = "all" then size - 1 else if x = "not" then size - 1 - A else if x = "neg" then -A else if x = "twice" then A + A
  else if x = "and" then Builtin.bitAnd A B else if x = "or" then Builtin.bitOr A B else if x = "xor" then Builtin.bitXor A B else if x = "add" then A + B else A - B
def dval (size : Int) (d : Deed) (told : List Int) : Int := dvalue d.1 (argAt d told 0) (argAt d told 1) size % size
def vals (size : Int) : List Deed → List Int → List Int
  | [], told => told
  | d :: ds, told => vals size ds (told ++ [dval size d told])
theorem vals_append (size : Int) : ∀ (l1 l2 : List Deed) (t : List Int), vals size (l1 ++ l2) t = vals size l2 (vals size l1 t)
  | [], _, _ => rfl
  | d :: l1, l2, t => vals_append size l1 l2 (t ++ [dval size d t])
theorem vals_len {size : Int} : ∀ (ds : List Deed) (t : List Int), (vals size ds t).length = t.length + ds.length
  | [], _ => rfl
  | d :: ds, t => by
    show (vals size ds (t ++ [dval size d t])).length = _
    rw [vals_len ds, List.length_append, List.length_cons, List.length_cons, List.length_nil]
    omega
theorem vals_next {size : Int} {ds : List Deed} {i : Nat} {d : Deed} {t : List Int} (h : ds[i]? = some d) : vals size (ds.take (i + 1)) t = vals size (ds.take i) t ++ [dval size d (vals size (ds.take i) t)] := by
  rw [List.take_add_one, h, vals_append]
  rfl
theorem atI_ints {l : List Int} {o : Int} (h0 : 0 ≤ o) (h1 : o < l.length) : atI (l.map V.int) o = some (.int (l.getD o.toNat 0)) := by
  obtain ⟨k, rfl⟩ := Int.eq_ofNat_of_zero_le h0
  have hk : k < l.length := by omega
  apply atI_nat
  rw [List.getElem?_map, List.getElem?_eq_getElem hk, Int.toNat_natCast, List.getD_eq_getElem?_getD, List.getElem?_eq_getElem hk]
  rfl
theorem fw_one : ∀ p ∈ fwL, ¬ p.1 = "none" → ¬ p.1 = "one" → ¬ p.1 = "all" → 1 ≤ p.2 := by decide +kernel
theorem fw_two' : ∀ p ∈ fwL, (decide (p.1 ∈ (["none", "one", "all", "not", "neg", "twice"] : List Str)) || decide (2 ≤ p.2)) = true := by decide +kernel
theorem fw_two (p : Str × Int) (h : p ∈ fwL) (n1 : ¬ p.1 = "none") (n2 : ¬ p.1 = "one") (n3 : ¬ p.1 = "all") (n4 : ¬ p.1 = "not") (n5 : ¬ p.1 = "neg") (n6 : ¬ p.1 = "twice") : 2 ≤ p.2 := by
  have e := fw_two' p h
  rw [Bool.or_eq_true] at e
  rcases e with e | e
  · have e2 := of_decide_eq_true e
    simp only [List.mem_cons, List.not_mem_nil, or_false] at e2
    rcases e2 with e2 | e2 | e2 | e2 | e2 | e2
    · exact absurd e2 n1
    · exact absurd e2 n2
    · exact absurd e2 n3
    · exact absurd e2 n4
    · exact absurd e2 n5
    · exact absurd e2 n6
  · exact of_decide_eq_true e
theorem arg_of {d : Deed} {told : List Int} (h : DeedOk told.length d) {k : Nat} (hk : k < d.2.length) : ∃ i, d.2[k]? = some i ∧ 0 ≤ i ∧ atI (told.map V.int) i = some (.int (argAt d told k)) := by
  have hg := List.getElem?_eq_getElem hk
  obtain ⟨i0, i1⟩ := h.ahead _ (List.getElem_mem hk)
  refine ⟨d.2[k], hg, i0, ?_⟩
  rw [atI_ints i0 i1]
  unfold argAt
  rw [List.getD_eq_getElem?_getD (l := d.2), hg]
  rfl
theorem arg1 {d : Deed} {told : List Int} (h : DeedOk told.length d) (n1 : ¬ d.1 = "none") (n2 : ¬ d.1 = "one") (n3 : ¬ d.1 = "all") : ∃ i, d.2[0]? = some i ∧ 0 ≤ i ∧ atI (told.map V.int) i = some (.int (argAt d told 0)) :=
  arg_of h (by have := fw_one _ h.word n1 n2 n3; show 0 < d.2.length; have e : (1 : Int) ≤ (d.2.length : Int) := this; omega)
theorem arg2 {d : Deed} {told : List Int} (h : DeedOk told.length d) (n1 : ¬ d.1 = "none") (n2 : ¬ d.1 = "one") (n3 : ¬ d.1 = "all") (n4 : ¬ d.1 = "not") (n5 : ¬ d.1 = "neg") (n6 : ¬ d.1 = "twice") :
    ∃ i, d.2[1]? = some i ∧ 0 ≤ i ∧ atI (told.map V.int) i = some (.int (argAt d told 1)) :=
  arg_of h (by have := fw_two _ h.word n1 n2 n3 n4 n5 n6; show 1 < d.2.length; have e : (2 : Int) ≤ (d.2.length : Int) := this; omega)
/-! ### the low bits of values -/
theorem pw_cast (n : Nat) : (2 : Int) ^ n = ((2 ^ n : Nat) : Int) := (PySem.W.kbt_cast n).symm
theorem pw_le {n k : Nat} (h : n ≤ k) : (2 : Int) ^ n ≤ 2 ^ k := by
  rw [pw_cast, pw_cast]
  exact Int.ofNat_le.mpr (Nat.pow_le_pow_right (by decide) h)
theorem pw_pos (n : Nat) : (0 : Int) < 2 ^ n := Int.pow_pos (by decide)
theorem castMod (a n : Nat) : ((a : Int) % 2 ^ n) = ((a % 2 ^ n : Nat) : Int) := by rw [pw_cast, Int.natCast_emod]
theorem low_and {A B : Int} (n : Nat) (ha : 0 ≤ A) (hb : 0 ≤ B) : Builtin.bitAnd (A % 2 ^ n) (B % 2 ^ n) % 2 ^ n = Builtin.bitAnd A B % 2 ^ n := by
  obtain ⟨a, rfl⟩ := Int.eq_ofNat_of_zero_le ha
  obtain ⟨b, rfl⟩ := Int.eq_ofNat_of_zero_le hb
  rw [castMod, castMod, bitAnd_pp (Int.natCast_nonneg _) (Int.natCast_nonneg _), bitAnd_pp (Int.natCast_nonneg _) (Int.natCast_nonneg _), castMod, castMod]
  simp only [Int.toNat_natCast]
  rw [Nat.and_mod_two_pow, Nat.and_mod_two_pow, Nat.mod_mod, Nat.mod_mod]
theorem low_or {A B : Int} (n : Nat) (ha : 0 ≤ A) (hb : 0 ≤ B) : Builtin.bitOr (A % 2 ^ n) (B % 2 ^ n) % 2 ^ n = Builtin.bitOr A B % 2 ^ n := by
  obtain ⟨a, rfl⟩ := Int.eq_ofNat_of_zero_le ha
  obtain ⟨b, rfl⟩ := Int.eq_ofNat_of_zero_le hb
  rw [castMod, castMod, bitOr_nn (Int.natCast_nonneg _) (Int.natCast_nonneg _), bitOr_nn (Int.natCast_nonneg _) (Int.natCast_nonneg _), castMod, castMod]
  simp only [Int.toNat_natCast]
  rw [Nat.or_mod_two_pow, Nat.or_mod_two_pow, Nat.mod_mod, Nat.mod_mod]
theorem low_xor {A B : Int} (n : Nat) (ha : 0 ≤ A) (hb : 0 ≤ B) : Builtin.bitXor (A % 2 ^ n) (B % 2 ^ n) % 2 ^ n = Builtin.bitXor A B % 2 ^ n := by
  obtain ⟨a, rfl⟩ := Int.eq_ofNat_of_zero_le ha
  obtain ⟨b, rfl⟩ := Int.eq_ofNat_of_zero_le hb
  rw [castMod, castMod, Bits.bitXor_pp (Int.natCast_nonneg _) (Int.natCast_nonneg _), Bits.bitXor_pp (Int.natCast_nonneg _) (Int.natCast_nonneg _), castMod, castMod]
  simp only [Int.toNat_natCast]
  rw [Nat.xor_mod_two_pow, Nat.xor_mod_two_pow, Nat.mod_mod, Nat.mod_mod]
theorem pw_dvd {n k : Nat} (h : n ≤ k) : (2 : Int) ^ n ∣ 2 ^ k := ⟨2 ^ (k - n), by rw [← Int.pow_add]; congr 1; omega⟩
theorem emod_same {a b m : Int} (k : Int) (h : a - b = m * k) : a % m = b % m := Int.emod_eq_emod_iff_emod_sub_eq_zero.mpr (by rw [h]; exact Int.mul_emod_right m k)
theorem dvalue_low' {x : Str} {N c qa qb ra rb A B : Int} (ea : N * qa + ra = A) (eb : N * qb + rb = B) (l1 : Builtin.bitAnd ra rb % N = Builtin.bitAnd A B % N) (l2 : Builtin.bitOr ra rb % N = Builtin.bitOr A B % N)
    (l3 : Builtin.bitXor ra rb % N = Builtin.bitXor A B % N) : dvalue x ra rb N % N = dvalue x A B (N * c) % N := by
  unfold dvalue
  by_cases h1 : x = "none"
  · rw [if_pos h1, if_pos h1]
  rw [if_neg h1, if_neg h1]
  by_cases h2 : x = "one"
  · rw [if_pos h2, if_pos h2]
  rw [if_neg h2, if_neg h2]
  by_cases h3 : x = "all"
  · rw [if_pos h3, if_pos h3]
    exact emod_same (1 - c) (by rw [Int.mul_sub, Int.mul_one]; omega)
  rw [if_neg h3, if_neg h3]
  by_cases h4 : x = "not"
  · rw [if_pos h4, if_pos h4]
    exact emod_same (1 - c + qa) (by rw [Int.mul_add, Int.mul_sub, Int.mul_one]; omega)
  rw [if_neg h4, if_neg h4]
  by_cases h5 : x = "neg"
  · rw [if_pos h5, if_pos h5]
    exact emod_same qa (by omega)
  rw [if_neg h5, if_neg h5]
  by_cases h6 : x = "twice"
  · rw [if_pos h6, if_pos h6]
    exact emod_same (-qa - qa) (by rw [Int.mul_sub, Int.mul_neg]; omega)
  rw [if_neg h6, if_neg h6]
  by_cases h7 : x = "and"
  · rw [if_pos h7, if_pos h7]
    exact l1
  rw [if_neg h7, if_neg h7]
  by_cases h8 : x = "or"
  · rw [if_pos h8, if_pos h8]
    exact l2
  rw [if_neg h8, if_neg h8]
  by_cases h9 : x = "xor"
  · rw [if_pos h9, if_pos h9]
    exact l3
  rw [if_neg h9, if_neg h9]
  by_cases h10 : x = "add"
  · rw [if_pos h10, if_pos h10]
    exact emod_same (-qa - qb) (by rw [Int.mul_sub, Int.mul_neg]; omega)
  rw [if_neg h10, if_neg h10]
  exact emod_same (qb - qa) (by rw [Int.mul_sub]; omega)
theorem dvalue_low {x : Str} {A B : Int} {n k : Nat} (hA : 0 ≤ A) (hB : 0 ≤ B) (h : n ≤ k) : dvalue x (A % 2 ^ n) (B % 2 ^ n) (2 ^ n) % 2 ^ n = dvalue x A B (2 ^ k) % 2 ^ n := by
  obtain ⟨c, hc⟩ := pw_dvd h
  rw [hc]
  exact dvalue_low' (Int.mul_ediv_add_emod A (2 ^ n)) (Int.mul_ediv_add_emod B (2 ^ n)) (low_and n hA hB) (low_or n hA hB) (low_xor n hA hB)
theorem getD_low (N : Int) (l : List Int) (i : Nat) : (l.map (· % N)).getD i 0 = l.getD i 0 % N := by
  rw [List.getD_eq_getElem?_getD, List.getD_eq_getElem?_getD, List.getElem?_map]
  cases l[i]? with
  | none => exact (Int.zero_emod N).symm
  | some y => rfl
theorem arg_nn {told : List Int} (h : ∀ x ∈ told, 0 ≤ x) (d : Deed) (j : Nat) : 0 ≤ argAt d told j := by
  unfold argAt
  rw [List.getD_eq_getElem?_getD]
  cases e : told[(d.2.getD j 0).toNat]? with
  | none => exact Int.le_refl 0
  | some y => exact h y (List.mem_of_getElem? e)
theorem dval_low {d : Deed} {told : List Int} {n k : Nat} (h : ∀ x ∈ told, 0 ≤ x) (hk : n ≤ k) : dval (2 ^ n) d (told.map (· % 2 ^ n)) = dval (2 ^ k) d told % 2 ^ n := by
  unfold dval
  have e : ∀ j, argAt d (told.map (· % 2 ^ n)) j = argAt d told j % 2 ^ n := fun j => getD_low _ _ _
  rw [e, e, dvalue_low (arg_nn h d 0) (arg_nn h d 1) hk, Int.emod_emod_of_dvd _ (pw_dvd hk)]
theorem vals_low {n k : Nat} (hk : n ≤ k) : ∀ (ds : List Deed) (told : List Int), (∀ x ∈ told, 0 ≤ x) → vals (2 ^ n) ds (told.map (· % 2 ^ n)) = (vals (2 ^ k) ds told).map (· % 2 ^ n)
  | [], _, _ => rfl
  | d :: ds, told, h => by
    show vals (2 ^ n) ds (told.map (· % 2 ^ n) ++ [dval (2 ^ n) d (told.map (· % 2 ^ n))]) = (vals (2 ^ k) ds (told ++ [dval (2 ^ k) d told])).map (· % 2 ^ n)
    rw [dval_low h hk, ← vals_low hk ds, List.map_append]
    · rfl
    · intro x hx
      rcases List.mem_append.mp hx with hx | hx
      · exact h x hx
      · rw [List.mem_singleton.mp hx]
        exact Int.emod_nonneg _ (by have := pw_pos k; omega)
theorem vals_range {size : Int} (hs : 0 < size) : ∀ (ds : List Deed) (told : List Int), (∀ x ∈ told, 0 ≤ x ∧ x < size) → ∀ x ∈ vals size ds told, 0 ≤ x ∧ x < size
  | [], _, h => h
  | d :: ds, told, h => by
    refine vals_range hs ds (told ++ [dval size d told]) fun x hx => ?_
    rcases List.mem_append.mp hx with hx | hx
    · exact h x hx
    · rw [List.mem_singleton.mp hx]
      exact ⟨Int.emod_nonneg _ (by omega), Int.emod_lt_of_pos _ hs⟩
/-! ### lists of ints compared -/
theorem eqv_ints : ∀ l : List Int, PyData.eqv (.list (l.map PyData.int)) (.list (l.map PyData.int)) = true := fun l => SeqAt.eqv_refl _ (SeqAt.canLay_of_shaped (shaped_ints l))
theorem dget_at {H : Hp} {a : Addr} {kvs : List (Key × V)} {k : Key} {v : V} (e : H a = some (.dK kvs)) (h : valV kvs k = some v) : DGet H a (kV k) (some v) := h ▸ DGet.k e
theorem fw_cases {x : Str} {n : Nat} (h : (x, (n : Int)) ∈ fwL) : (n = 0 ∧ (x = "none" ∨ x = "one" ∨ x = "all")) ∨ (n = 1 ∧ (x = "not" ∨ x = "neg" ∨ x = "twice")) ∨ (n = 2 ∧ (x = "and" ∨ x = "or" ∨ x = "xor" ∨ x = "add" ∨ x = "sub")) := by
  unfold fwL at h
  simp only [List.mem_cons, List.not_mem_nil, or_false, Prod.mk.injEq] at h
  rcases h with h | h | h | h | h | h | h | h | h | h | h
  · exact .inl ⟨by omega, .inl h.1⟩
  · exact .inl ⟨by omega, .inr (.inl h.1)⟩
  · exact .inl ⟨by omega, .inr (.inr h.1)⟩
  · exact .inr (.inl ⟨by omega, .inl h.1⟩)
  · exact .inr (.inl ⟨by omega, .inr (.inl h.1)⟩)
  · exact .inr (.inl ⟨by omega, .inr (.inr h.1)⟩)
  · exact .inr (.inr ⟨by omega, .inl h.1⟩)
  · exact .inr (.inr ⟨by omega, .inr (.inl h.1)⟩)
  · exact .inr (.inr ⟨by omega, .inr (.inr (.inl h.1))⟩)
  · exact .inr (.inr ⟨by omega, .inr (.inr (.inr (.inl h.1)))⟩)
  · exact .inr (.inr ⟨by omega, .inr (.inr (.inr (.inr h.1)))⟩)
theorem and_lt {A B : Int} {n : Nat} (a0 : 0 ≤ A) (a1 : A < 2 ^ n) (b0 : 0 ≤ B) : Builtin.bitAnd A B % 2 ^ n = Builtin.bitAnd A B := by
  obtain ⟨a, rfl⟩ := Int.eq_ofNat_of_zero_le a0
  obtain ⟨b, rfl⟩ := Int.eq_ofNat_of_zero_le b0
  rw [bitAnd_pp (Int.natCast_nonneg _) (Int.natCast_nonneg _), castMod]
  rw [pw_cast] at a1
  simp only [Int.toNat_natCast]
  rw [Nat.mod_eq_of_lt (Nat.lt_of_le_of_lt Nat.and_le_left (by omega))]
theorem or_lt {A B : Int} {n : Nat} (a0 : 0 ≤ A) (a1 : A < 2 ^ n) (b0 : 0 ≤ B) (b1 : B < 2 ^ n) : Builtin.bitOr A B % 2 ^ n = Builtin.bitOr A B := by
  obtain ⟨a, rfl⟩ := Int.eq_ofNat_of_zero_le a0
  obtain ⟨b, rfl⟩ := Int.eq_ofNat_of_zero_le b0
  rw [bitOr_nn (Int.natCast_nonneg _) (Int.natCast_nonneg _), castMod]
  rw [pw_cast] at a1 b1
  simp only [Int.toNat_natCast]
  rw [Nat.mod_eq_of_lt (Nat.or_lt_two_pow (by omega) (by omega))]
theorem xor_lt {A B : Int} {n : Nat} (a0 : 0 ≤ A) (a1 : A < 2 ^ n) (b0 : 0 ≤ B) (b1 : B < 2 ^ n) : Builtin.bitXor A B % 2 ^ n = Builtin.bitXor A B := by
  obtain ⟨a, rfl⟩ := Int.eq_ofNat_of_zero_le a0
  obtain ⟨b, rfl⟩ := Int.eq_ofNat_of_zero_le b0
  rw [Bits.bitXor_pp (Int.natCast_nonneg _) (Int.natCast_nonneg _), castMod]
  rw [pw_cast] at a1 b1
  simp only [Int.toNat_natCast]
  rw [Nat.mod_eq_of_lt (Nat.xor_lt_two_pow (by omega) (by omega))]
/-! ### all but the first -/
theorem sIx_one (x : V) (xs : List V) : HT.sIx (x :: xs).length 0 (some 1) = 1 := by
  have e : HT.sIx (x :: xs).length 0 (some 1) = min 1 (x :: xs).length := HT.sIx_nat (x :: xs).length 0 1
  rw [e, List.length_cons]
  omega
theorem cutTail (x : V) (xs : List V) : cutV (x :: xs) (some 1) none = xs := by
  have h2 : HT.sIx (x :: xs).length (x :: xs).length none = (x :: xs).length := HT.sIx_none _ _
  unfold cutV
  rw [sIx_one, h2]
  simp
theorem notWhole (x : V) (xs : List V) : ¬ (HT.sIx (x :: xs).length 0 (some 1) = 0 ∧ HT.sIx (x :: xs).length (x :: xs).length none = (x :: xs).length) := by
  rw [sIx_one]
  exact fun h => absurd h.1 (by decide)
theorem intEq {x y : Int} (h : decide (V.int x = V.int y) = true) : x = y := V.int.inj (of_decide_eq_true h)
theorem intNe {x y : Int} (h : ¬ decide (V.int x = V.int y) = true) : ¬ x = y := fun e => h (decide_eq_true (congrArg V.int e))
/-! ### t + u of two tuples at hand, whatever they hold -/
section
variable {X : Cx}
def rCatZ : R2 := fun x y H Q => ∃ a b xs ys, x = .ref a ∧ y = .ref b ∧ H a = some (.tup xs) ∧ H b = some (.tup ys) ∧ xs.length + ys.length ≤ sizeLine ∧ ∀ p H2, Same H H2 → H2 p = some (.tup (xs ++ ys)) → Q (.ref p) H2
theorem op_catZ : OpR X (binaryOp .Add) rCatZ := by
  intro pins s σ H x y v u Q I rx ry h
  obtain ⟨a, b, xs, ys, rfl, rfl, ha, hb, hz, q⟩ := h
  refine op_catA pins s σ H _ _ v u Q I rx ry ⟨a, b, xs, ys, rfl, rfl, SqT.of ha, SqT.of hb, hz, fun e => ?_, fun _ e => ?_, fun _ _ p hp => ?_⟩
  · subst e
    exact q b H (Same.refl H) hb
  · subst e
    exact q a H (Same.refl H) (by rw [List.append_nil]; exact ha)
  · exact q p _ (same_new hp) upd_same
end
theorem awAppend {α β : Type} {F : α → β → Prop} : ∀ {l k : List α} {l2 k2 : List β}, Paired F l l2 → Paired F k k2 → Paired F (l ++ k) (l2 ++ k2)
  | _, _, _, _, .nil, h => h
  | _, _, _, _, .cons r t, h => .cons r (awAppend t h)
theorem dsOk_append {m t : Int} {ds es : List Deed} (h : DsOk m ds) (k : DsOk t es) (e : t = m + ds.length) : DsOk m (ds ++ es) := by
  constructor
  intro i d hi
  by_cases hl : i < ds.length
  · rw [List.getElem?_append_left hl] at hi
    exact h.each i d hi
  · rw [List.getElem?_append_right (by omega)] at hi
    have := k.each _ d hi
    rw [e] at this
    have e2 : m + (ds.length : Int) + ((i - ds.length : Nat) : Int) = m + i := by omega
    rw [e2] at this
    exact this
/-- all but one stands as it stood -/
def But (f : Addr) (H H2 : Hp) : Prop := ∀ b o, b ≠ f → H b = some o → H2 b = some o
theorem But.trans {f : Addr} {H H1 H2 : Hp} (a : But f H H1) (b : But f H1 H2) : But f H H2 := fun c o n e => b c o n (a c o n e)
theorem But.same {f : Addr} {H H2 : Hp} (s : Same H H2) : But f H H2 := fun b o _ e => s b o e
theorem But.put {f : Addr} {H : Hp} {o : HO} : But f H (upd H f o) := fun b u n e => by
  rw [upd_ne n]
  exact e
theorem But.tups {f : Addr} {H H2 : Hp} {xs : List V} (h : But f H H2) (e : H f = some (.lst xs)) : TupsStay H H2 := fun b ys z => h b _ (ne_of z e (fun q => nomatch q)) z
/-! ### the tape -/
def TP (H : Hp) (a : Addr) : Prop := ∃ x y : Int, H a = some (.lst [.int x, .int y])
theorem TP.same {H H2 : Hp} {a : Addr} (h : TP H a) (s : Same H H2) : TP H2 a := by
  obtain ⟨x, y, e⟩ := h
  exact ⟨x, y, s _ _ e⟩
theorem TP.ne_new {H : Hp} {a p : Addr} (h : TP H a) (e : H p = none) : p ≠ a := by
  obtain ⟨x, y, e1⟩ := h
  exact (ne_of_none e1 e).symm
theorem TP.upd {H : Hp} {a p : Addr} {o : HO} (h : TP H a) (n : p ≠ a) : TP (upd H p o) a := by
  obtain ⟨x, y, e1⟩ := h
  exact ⟨x, y, by rw [upd_ne n.symm]; exact e1⟩
theorem But.tape {a : Addr} {H H2 : Hp} (h : But a H H2) (t : TP H a) : TupsStay H H2 := by
  obtain ⟨x, y, e⟩ := t
  exact h.tups e
theorem But.refl (a : Addr) (H : Hp) : But a H H := fun _ _ _ e => e
theorem atI_in {α : Type} {l : List α} {i : Int} (h0 : 0 ≤ i) (h1 : i < l.length) : ∃ v, atI l i = some v ∧ v ∈ l := by
  obtain ⟨k, rfl⟩ := Int.eq_ofNat_of_zero_le h0
  have hk : k < l.length := by omega
  exact ⟨l[k], atI_nat (List.getElem?_eq_getElem hk), List.getElem_mem hk⟩
/-! ### texts in written tuples -/
theorem inS (x : Str) : ∀ l : List Str, inV (.str x) (l.map V.str) = decide (x ∈ l)
  | [] => rfl
  | y :: l => by
    have ih := inS x l
    show (eqV (.str y) (.str x) || inV (.str x) (l.map V.str)) = _
    rw [ih]
    by_cases h : x = y
    · subst h
      simp [eqV]
    · have h2 : ¬ y = x := fun e => h e.symm
      simp [eqV, h, h2]
def tw12 : List Str := ["add", "sub", "and", "xor", "or", "not", "twice", "neg", "all", "one", "none", "add"]
def twC : List Str := ["add", "sub", "twice", "neg", "one"]
theorem tw_zero : ∀ x ∈ (["all", "one", "none"] : List Str), (x, (0 : Int)) ∈ fwL := by decide +kernel
theorem tw_one : ∀ x ∈ (["not", "twice", "neg"] : List Str), (x, (1 : Int)) ∈ fwL := by decide +kernel
theorem tw_two : ∀ x ∈ tw12, x ∈ (["all", "one", "none"] : List Str) ∨ x ∈ (["not", "twice", "neg"] : List Str) ∨ (x, (2 : Int)) ∈ fwL := by decide +kernel
theorem tw_four : ∀ x ∈ (["and", "or", "xor", "not"] : List Str), x ∈ tw12 := by decide +kernel
theorem mem_strs {v : V} {l : List Str} (h : v ∈ l.map V.str) : ∃ x, x ∈ l ∧ v = .str x := by
  obtain ⟨x, hx, e⟩ := List.mem_map.mp h
  exact ⟨x, hx, e.symm⟩
/-! ### bits and carries of rows -/
def fcD (d : Deed) : Int := if d.1 ∈ (["neg", "one"] : List Str) then 1 else 0
def dbit (x : Str) (a b c : Int) : Int :=
  if x = "none" then 0 else if x = "all" then 1 else if x = "one" then c else if x = "twice" then c else if x = "not" then 1 - a else if x = "neg" then Builtin.bitXor (1 - a) c
  else if x = "and" then Builtin.bitAnd a b else if x = "or" then Builtin.bitOr a b else if x = "xor" then Builtin.bitXor a b else Builtin.bitXor (Builtin.bitXor a b) c
def dcar (x : Str) (a b c : Int) : Int :=
  if x = "neg" then Builtin.bitAnd (1 - a) c else if x = "twice" then a else if x = "add" then (a + b + c) / 2 else if x = "sub" then (1 - a + b + c) / 2 else 0
def dbitAt (d : Deed) (c : Int) (told : List Int) : Int := dbit d.1 (argAt d told 0) (argAt d told 1) c
def dcarAt (d : Deed) (c : Int) (told : List Int) : Int := dcar d.1 (argAt d told 0) (argAt d told 1) c
def bts : List Deed → List Int → List Int → List Int
  | d :: ds, c :: cs, told => bts ds cs (told ++ [dbitAt d c told])
  | _, _, told => told
def nxt (ds : List Deed) (cs told : List Int) : List Int := List.zipWith (fun d c => dcarAt d c told) ds cs
abbrev Bit (x : Int) : Prop := x = 0 ∨ x = 1
theorem bit0 : Bit 0 := .inl rfl
theorem bit1 : Bit 1 := .inr rfl
theorem dbit_bit {x : Str} {a b c : Int} (ha : Bit a) (hb : Bit b) (hc : Bit c) : Bit (dbit x a b c) := by
  have n1 : Bit (1 - a) := by rcases ha with rfl | rfl <;> simp [Bit]
  have hx : ∀ {p q : Int}, Bit p → Bit q → Bit (Builtin.bitXor p q) := fun hp hq => by
    rcases hp with rfl | rfl <;> rcases hq with rfl | rfl <;> decide
  have hand : ∀ {p q : Int}, Bit p → Bit q → Bit (Builtin.bitAnd p q) := fun hp hq => by
    rcases hp with rfl | rfl <;> rcases hq with rfl | rfl <;> decide
  have hor : ∀ {p q : Int}, Bit p → Bit q → Bit (Builtin.bitOr p q) := fun hp hq => by
    rcases hp with rfl | rfl <;> rcases hq with rfl | rfl <;> decide
  unfold dbit
  split; · exact bit0
  split; · exact bit1
  split; · exact hc
  split; · exact hc
  split; · exact n1
  split; · exact hx n1 hc
  split; · exact hand ha hb
  split; · exact hor ha hb
  split; · exact hx ha hb
  exact hx (hx ha hb) hc
theorem dcar_bit {x : Str} {a b c : Int} (ha : Bit a) (hb : Bit b) (hc : Bit c) : Bit (dcar x a b c) := by
  unfold dcar
  split
  · rcases ha with rfl | rfl <;> rcases hc with rfl | rfl <;> decide
  split; · exact ha
  split
  · rcases ha with rfl | rfl <;> rcases hb with rfl | rfl <;> rcases hc with rfl | rfl <;> decide
  split
  · rcases ha with rfl | rfl <;> rcases hb with rfl | rfl <;> rcases hc with rfl | rfl <;> decide
  exact bit0
theorem argAt_bit {told : List Int} (h : ∀ x ∈ told, Bit x) (d : Deed) (j : Nat) : Bit (argAt d told j) := by
  unfold argAt
  rw [List.getD_eq_getElem?_getD]
  cases e : told[(d.2.getD j 0).toNat]? with
  | none => exact bit0
  | some y => exact h y (List.mem_of_getElem? e)
theorem bts_next : ∀ {ds : List Deed} {cs t : List Int} {i : Nat} {d : Deed} {c : Int}, ds[i]? = some d → cs[i]? = some c → bts (ds.take (i + 1)) (cs.take (i + 1)) t = bts (ds.take i) (cs.take i) t ++ [dbitAt d c (bts (ds.take i) (cs.take i) t)]
  | [], _, _, _, _, _, h, _ => by simp at h
  | _ :: _, [], _, _, _, _, _, h => by simp at h
  | e :: ds, g :: cs, t, 0, d, c, h, k => by
    simp only [List.getElem?_cons_zero, Option.some.injEq] at h k
    subst h k
    rfl
  | e :: ds, g :: cs, t, i + 1, d, c, h, k => by
    simp only [List.getElem?_cons_succ] at h k
    exact bts_next (t := t ++ [dbitAt e g t]) h k
theorem bts_len : ∀ {ds : List Deed} {cs t : List Int}, ds.length = cs.length → (bts ds cs t).length = t.length + ds.length
  | [], [], _, _ => rfl
  | [], _ :: _, _, h => by simp at h
  | _ :: _, [], _, h => by simp at h
  | d :: ds, c :: cs, t, h => by
    show (bts ds cs (t ++ [dbitAt d c t])).length = _
    rw [bts_len (by simpa using h), List.length_append, List.length_cons, List.length_cons, List.length_nil]
    omega
theorem bts_bits : ∀ {ds : List Deed} {cs t : List Int}, (∀ x ∈ t, Bit x) → (∀ x ∈ cs, Bit x) → ∀ x ∈ bts ds cs t, Bit x
  | [], cs, t, h, _ => by
    unfold bts
    exact h
  | _ :: _, [], t, h, _ => by
    unfold bts
    exact h
  | d :: ds, c :: cs, t, h, k => by
    refine bts_bits (ds := ds) (cs := cs) (t := t ++ [dbitAt d c t]) (fun x hx => ?_) fun x hx => k x (List.mem_cons_of_mem _ hx)
    rcases List.mem_append.mp hx with hx | hx
    · exact h x hx
    · rw [List.mem_singleton.mp hx]
      exact dbit_bit (argAt_bit h d 0) (argAt_bit h d 1) (k c List.mem_cons_self)
theorem nxt_len {ds : List Deed} {cs t : List Int} (h : ds.length = cs.length) : (nxt ds cs t).length = ds.length := by
  unfold nxt
  rw [List.length_zipWith]
  omega
theorem nxt_bits {ds : List Deed} {cs t : List Int} (h : ∀ x ∈ t, Bit x) (k : ∀ x ∈ cs, Bit x) : ∀ x ∈ nxt ds cs t, Bit x := by
  intro x hx
  unfold nxt at hx
  obtain ⟨i, hi⟩ := List.mem_iff_getElem?.mp hx
  rw [List.getElem?_zipWith] at hi
  cases e1 : ds[i]? with
  | none => rw [e1] at hi; simp at hi
  | some d =>
    cases e2 : cs[i]? with
    | none => rw [e1, e2] at hi; simp at hi
    | some c =>
      rw [e1, e2] at hi
      have := Option.some.inj hi
      rw [← this]
      exact dcar_bit (argAt_bit h d 0) (argAt_bit h d 1) (k c (List.mem_of_getElem? e2))
theorem nxt_next {ds : List Deed} {cs t : List Int} {i : Nat} {d : Deed} {c : Int} (h : ds[i]? = some d) (k : cs[i]? = some c) : (nxt ds cs t).take (i + 1) = (nxt ds cs t).take i ++ [dcarAt d c t] := by
  rw [List.take_add_one]
  unfold nxt
  rw [List.getElem?_zipWith, h, k]
  rfl
section
variable {K : PySem.W.Frag} {a b : Addr} {xs ys : List V}
theorem walk_zipT (hn : xs.length = ys.length) : Walk (RZ.ItzT K a b) xs.length (fun H => SqT K H a xs ∧ SqT K H b ys) (YPair (fun i => xs[i]?) (fun i => ys[i]?)) where
  goes := fun i H hi q => ⟨xs, ys, xs[i], ys[i]'(by omega), q.1, q.2, List.getElem?_eq_getElem hi, List.getElem?_eq_getElem (by omega)⟩
  stops := fun H q => ⟨xs, ys, q.1, q.2, .inl (Nat.le_refl _)⟩
  yields := fun i H v H2 hi q y => by
    obtain ⟨T, x, z, h1, h2, h3, h4, h5⟩ := y
    exact ⟨T, x, z, h1, h2, h3, h4 xs q.1, h5 ys q.2⟩
end
/-! ### own exceptions as values -/
section
variable {X : Cx} {K : PySem.W.Frag}
theorem kit_ref {D C : Addr} {b : Bool} (h1 : PySem.W.isClsIn K C = true) (h2 : PySem.W.typeIn K (.ref C) = some (.type "type")) (h3 : PySem.W.subIn K (.ref D) (.ref C) = some b) (h4 : PySem.W.subIn K (.ref C) (.ref C) = some true) : PySem.W.kitOne K (.ref D) (.ref C) = some b := by
  unfold PySem.W.kitOne
  by_cases e : D = C
  · subst e
    rw [h3] at h4
    rw [if_pos (by simp), h4]
  · rw [if_neg (by simpa using e)]
    have e1 : ((PySem.W.clsIn K C).isSome && PySem.W.typeIn K (.ref C) == some (.type "type")) = true := by
      have h1' : (PySem.W.clsIn K C).isSome = true := h1
      rw [h1', h2]
      rfl
    show (if ((PySem.W.clsIn K C).isSome && PySem.W.typeIn K (.ref C) == some (.type "type")) = true then PySem.W.subIn K (.ref D) (.ref C) else none) = some b
    rw [if_pos e1]
    exact h3
theorem kit_ve {D : Addr} {b : Bool} (h : PySem.W.subIn K (.ref D) (.type "ValueError") = some b) : PySem.W.kitOne K (.ref D) (.type "ValueError") = some b := by
  have e1 : PySem.W.kitMeta "ValueError" = true := by decide +kernel
  show (if PySem.W.kitMeta "ValueError" = true then PySem.W.subIn K (.ref D) (.type "ValueError") else none) = some b
  rw [if_pos e1]
  exact h
def rIsX (K : PySem.W.Frag) : List V → Hp → VK → Prop := fun xs H Q => ∃ (a D : Addr) (c : V) (cv : Value) (b : Bool), xs = [.ref a, c] ∧ H a = some (ExO (.ref D) a) ∧ ExcC K D ∧ ClsV c cv ∧ PySem.W.kitOne K (.ref D) cv = some b ∧ Q (.bl b) H
theorem call_isX : CallR X (.builtin "isinstance") (rIsX X.K) := by
  intro pins s σ H xs us Q I r h
  obtain ⟨a, D, c, cv, b, rfl, ha, hD, hc, hk, q⟩ := h
  match us, r with
  | [u1, u2], .cons r1 (.cons r2 .nil) =>
    obtain rfl : u1 = Value.ref a := r1
    obtain rfl := ClsV.eq hc r2
    obtain ⟨⟨oe, vs, hget, ⟨z1, z2⟩, hv, _⟩, _, _⟩ := I.hok a _ ha
    have J : PySem.W.InstAt s.heap a oe D none := by
      obtain ⟨oc, od, oda, osl⟩ := oe
      dsimp only at z1 z2 hv
      subst z1 z2 hv
      exact ⟨hget, rfl, rfl, trivial⟩
    exact PySem.W.kia_one (PySem.W.handS_kitx_exc hD.hg hD.hk hD.hs hD.hd hD.ha hD.hn hD.ht hD.hm) I.kIn J hk (fun z => nomatch z) fun tk => ⟨.bl b, H, I.kept (t' := tk) fun _ _ z => z, rfl, q⟩
end
theorem dp_bls {K : PySem.W.Frag} {H : Hp} : ∀ cs : List Bool, DpAll K H (cs.map V.bl) (cs.map PyData.bool)
  | [] => .nil
  | c :: cs => .cons (.bl c) (dp_bls cs)
theorem lay_bls : ∀ cs : List Bool, PyData.canLayAll0 (cs.map PyData.bool) = true ∧ PyData.depthAll (cs.map PyData.bool) = 0
  | [] => ⟨by simp only [List.map_nil, PyData.canLayAll0], by simp only [List.map_nil, PyData.depthAll]⟩
  | c :: cs => by
    obtain ⟨h1, h2⟩ := lay_bls cs
    exact ⟨by simp only [List.map_cons, PyData.canLayAll0, PyData.canLay0, h1, Bool.and_self], by simp only [List.map_cons, PyData.depthAll, PyData.depth, h2, Nat.max_self]⟩
theorem shaped_bls (cs : List Bool) : SeqAt.shaped (.list (cs.map PyData.bool)) = true := by
  obtain ⟨h1, h2⟩ := lay_bls cs
  simp only [SeqAt.shaped, PyData.canLay0, PyData.depth, h1, h2, Bool.true_and]
  decide
theorem eqv_bls (l : List Bool) : PyData.eqv (.list (l.map PyData.bool)) (.list (l.map PyData.bool)) = true := SeqAt.eqv_refl _ (SeqAt.canLay_of_shaped (shaped_bls l))
/-- a test that is never asked -/
def tNevT : TT := fun _ _ _ => False
theorem pt_never {X : Cx} {e : Expr} : PT X e tNevT := ⟨fun _ _ _ _ _ _ h => h.elim⟩
end AW
namespace KK
open PySem PySem.Spec PyProof.Rows L2 AW
def topS (i : Nat) : Stmt := PySem.Challenge.pw_anywide_k11_whole_bits_tell_values.main.body.getD i (.Pass ⟨0, 0, 0, 0⟩)
abbrev s_all_bits : Stmt := topS 1
abbrev N_all_bits : List Str := ["many", "choices", "place", "bits", "bit"]
theorem sc_all_bits : FnScope N_all_bits ["many"] (defScope s_all_bits) := ⟨rfl, rfl, rfl, by decide +kernel, rfl, by decide +kernel, by decide +kernel⟩
abbrev s_first_carry : Stmt := topS 2
abbrev N_first_carry : List Str := ["row", "deed"]
theorem sc_first_carry : FnScope N_first_carry ["row"] (defScope s_first_carry) := ⟨rfl, rfl, rfl, by decide +kernel, rfl, by decide +kernel, by decide +kernel⟩
abbrev s_deed_bit : Stmt := topS 3
abbrev N_deed_bit : List Str := ["deed", "held", "told", "word", "first", "second"]
theorem sc_deed_bit : FnScope N_deed_bit ["deed", "held", "told"] (defScope s_deed_bit) := ⟨rfl, rfl, rfl, by decide +kernel, rfl, by decide +kernel, by decide +kernel⟩
abbrev s_bits_of : Stmt := topS 4
abbrev N_bits_of : List Str := ["row", "carry", "bits", "told", "deed", "held"]
theorem sc_bits_of : FnScope N_bits_of ["row", "carry", "bits"] (defScope s_bits_of) := ⟨rfl, rfl, rfl, by decide +kernel, rfl, by decide +kernel, by decide +kernel⟩
abbrev s_two_or_more : Stmt := topS 5
abbrev N_two_or_more : List Str := ["one", "other", "third"]
theorem sc_two_or_more : FnScope N_two_or_more ["one", "other", "third"] (defScope s_two_or_more) := ⟨rfl, rfl, rfl, by decide +kernel, rfl, by decide +kernel, by decide +kernel⟩
abbrev s_deed_carry : Stmt := topS 6
abbrev N_deed_carry : List Str := ["deed", "held", "told", "word"]
theorem sc_deed_carry : FnScope N_deed_carry ["deed", "held", "told"] (defScope s_deed_carry) := ⟨rfl, rfl, rfl, by decide +kernel, rfl, by decide +kernel, by decide +kernel⟩
abbrev s_carry_behind : Stmt := topS 7
abbrev N_carry_behind : List Str := ["row", "carry", "told", "deed", "held"]
theorem sc_carry_behind : FnScope N_carry_behind ["row", "carry", "told"] (defScope s_carry_behind) := ⟨rfl, rfl, rfl, by decide +kernel, rfl, by decide +kernel, by decide +kernel⟩
abbrev s_next_carry : Stmt := topS 8
abbrev N_next_carry : List Str := ["row", "carry", "bits"]
theorem sc_next_carry : FnScope N_next_carry ["row", "carry", "bits"] (defScope s_next_carry) := ⟨rfl, rfl, rfl, by decide +kernel, rfl, by decide +kernel, by decide +kernel⟩
abbrev s_steps : Stmt := topS 9
abbrev N_steps : List Str := ["row", "carry", "told", "bits", "all_told"]
theorem sc_steps : FnScope N_steps ["row", "carry"] (defScope s_steps) := ⟨rfl, rfl, rfl, by decide +kernel, rfl, by decide +kernel, by decide +kernel⟩
abbrev s_carries : Stmt := topS 10
abbrev N_carries : List Str := ["row", "first", "seen", "waiting", "bit", "after"]
theorem sc_carries : FnScope N_carries ["row"] (defScope s_carries) := ⟨rfl, rfl, rfl, by decide +kernel, rfl, by decide +kernel, by decide +kernel⟩
abbrev s_deed_value : Stmt := topS 12
abbrev N_deed_value : List Str := ["deed", "told", "size", "word", "first", "second"]
theorem sc_deed_value : FnScope N_deed_value ["deed", "told", "size"] (defScope s_deed_value) := ⟨rfl, rfl, rfl, by decide +kernel, rfl, by decide +kernel, by decide +kernel⟩
abbrev s_values : Stmt := topS 13
abbrev N_values : List Str := ["row", "width", "words", "size", "told", "deed"]
theorem sc_values : FnScope N_values ["row", "width", "words"] (defScope s_values) := ⟨rfl, rfl, rfl, by decide +kernel, rfl, by decide +kernel, by decide +kernel⟩
abbrev s_worth : Stmt := topS 14
abbrev N_worth : List Str := ["row", "width", "words"]
theorem sc_worth : FnScope N_worth ["row", "width", "words"] (defScope s_worth) := ⟨rfl, rfl, rfl, by decide +kernel, rfl, by decide +kernel, by decide +kernel⟩
abbrev s_law_tape : Stmt := topS 16
abbrev N_law_tape : List Str := ["script", "start", "cell"]
theorem sc_law_tape : FnScope N_law_tape ["script", "start"] (defScope s_law_tape) := ⟨rfl, rfl, rfl, by decide +kernel, rfl, by decide +kernel, by decide +kernel⟩
abbrev s_law_digit : Stmt := topS 17
abbrev N_law_digit : List Str := ["tape", "many", "found", "more"]
theorem sc_law_digit : FnScope N_law_digit ["tape", "many"] (defScope s_law_digit) := ⟨rfl, rfl, rfl, by decide +kernel, rfl, by decide +kernel, by decide +kernel⟩
abbrev s_law_deed : Stmt := topS 18
abbrev N_law_deed : List Str := ["tape", "ahead", "left", "some", "word", "numbers"]
theorem sc_law_deed : FnScope N_law_deed ["tape", "ahead", "left"] (defScope s_law_deed) := ⟨rfl, rfl, rfl, by decide +kernel, rfl, by decide +kernel, by decide +kernel⟩
abbrev s_law_carrying : Stmt := topS 19
abbrev N_law_carrying : List Str := ["deeds", "deed"]
theorem sc_law_carrying : FnScope N_law_carrying ["deeds"] (defScope s_law_carrying) := ⟨rfl, rfl, rfl, by decide +kernel, rfl, by decide +kernel, by decide +kernel⟩
abbrev s_law_row : Stmt := topS 20
abbrev N_law_row : List Str := ["tape", "many", "most", "left", "deeds", "k", "out"]
theorem sc_law_row : FnScope N_law_row ["tape", "many", "most", "left"] (defScope s_law_row) := ⟨rfl, rfl, rfl, by decide +kernel, rfl, by decide +kernel, by decide +kernel⟩
abbrev s_law_value : Stmt := topS 21
abbrev N_law_value : List Str := ["deed", "told", "full", "word", "one", "other"]
theorem sc_law_value : FnScope N_law_value ["deed", "told", "full"] (defScope s_law_value) := ⟨rfl, rfl, rfl, by decide +kernel, rfl, by decide +kernel, by decide +kernel⟩
abbrev s_law_values : Stmt := topS 22
abbrev N_law_values : List Str := ["row", "width", "words", "told", "deed"]
theorem sc_law_values : FnScope N_law_values ["row", "width", "words"] (defScope s_law_values) := ⟨rfl, rfl, rfl, by decide +kernel, rfl, by decide +kernel, by decide +kernel⟩
abbrev s_law_words : Stmt := topS 23
abbrev N_law_words : List Str := ["tape", "many", "width", "found", "k", "full"]
theorem sc_law_words : FnScope N_law_words ["tape", "many", "width"] (defScope s_law_words) := ⟨rfl, rfl, rfl, by decide +kernel, rfl, by decide +kernel, by decide +kernel⟩
abbrev s_law_right : Stmt := topS 24
abbrev N_law_right : List Str := ["row", "width", "words", "carry", "told", "found", "at", "bits", "due", "word", "one", "bit"]
theorem sc_law_right : FnScope N_law_right ["row", "width", "words"] (defScope s_law_right) := ⟨rfl, rfl, rfl, by decide +kernel, rfl, by decide +kernel, by decide +kernel⟩
abbrev s_law : Stmt := topS 25
abbrev N_law : List Str := ["script", "start", "tape", "many", "row", "width"]
theorem sc_law : FnScope N_law ["script"] (defScope s_law) := ⟨rfl, rfl, rfl, by decide +kernel, rfl, by decide +kernel, by decide +kernel⟩
section
variable {P : Program} {w : World} {K : PySem.W.Frag} {mg : Str → Option Value} {base : Heap}
/-! ### tape, digit -/
def spTape (K : PySem.W.Frag) : Sp := fun vs H Q _ => ∃ (S : Addr) (ns : List Int) (st : Int), vs = [.ref S, .int st] ∧ SqL K H S (ns.map V.int) ∧ 0 ≤ st ∧ st ≤ 1000 ∧ ∀ H' p, Same H H' → H p = none → TP H' p → Q (.ref p) H'
theorem ok_tape {f : Addr} {fd : FuncData} {k : Nat} (F : Fun K "_law_tape" "_law_tape" s_law_tape f fd) (ma : mg "abs" = none) (mn : mg "len" = none) : FnOk P w K mg base CX0 (k + 1) f fd ["script", "start"] (spTape K) := by
  refine F.ok sc_law_tape (fun vs H Q E h => ?_) (fun cdv A outer s H vs Q E hr h => ?_)
  · obtain ⟨S, ns, st, rfl, _⟩ := h
    rfl
  · obtain ⟨S, ns, st, rfl, hS, h0, h1, q⟩ := h
    refine ⟨_, pss_cons (ps_set (i := 2) sc_law_tape.nd rfl (.inl rfl) pe_int)
      (pss_mid (ps_if (pt_cmpR op_lt (pv 1) (pe_callB call_len_seq (by rfl) mn PySem.boot_len (pa_cons (pv 0) pa_nil)) (nomark _))
        (pss_one (ps_set (i := 2) sc_law_tape.nd rfl (.inl rfl) (pe_callB call_abs (by rfl) ma (by decide +kernel) (pa_cons (pe_ix ix_list (pv 0) (pv 1) (fun _ _ => rfl)) pa_nil))))
        (pss_one (ps_if (pt_cmpR op_gt (pe_callB call_len_seq (by rfl) mn PySem.boot_len (pa_cons (pv 0) pa_nil)) pe_int (nomark _))
          (pss_one (ps_set (i := 2) sc_law_tape.nd rfl (.inl rfl) (pe_op op_add (pe_op op_mod (pe_callB call_abs (by rfl) ma (by decide +kernel) (pa_cons (pe_ix ix_list (pv 0) (pe_op op_mod (pv 1) (pe_callB call_len_seq (by rfl) mn PySem.boot_len (pa_cons (pv 0) pa_nil))) (fun _ _ => rfl)) pa_nil)) (pe_op op_pow pe_int pe_int)) (pe_op op_mul (pv 1) pe_int)))) pss_nil)))
      (pss_one (ps_ret (pe_lst (pa_cons (pv 2) (pa_cons (pe_op op_add (pe_op op_mod (pe_op op_add (pe_op op_mul (pv 1) pe_int) (pv 2)) pe_int) pe_int) pa_nil)))))), ?_⟩
    refine ⟨fun σ2 H2 => ∃ c : Int, σ2 = [some (.ref S), some (.int st), some (.int c)] ∧ H2 = H, ?_, ?_⟩
    · refine ⟨.int st, rfl, .ref S, rfl, S, _, rfl, .inl hS, st, _, rfl, rfl, _, rfl, ite2 (fun e => ?_) (fun e => ?_)⟩
      · have hl := of_decide_eq_true e
        rw [List.length_map] at hl
        refine ⟨.ref S, rfl, .int st, rfl, S, _, st, _, rfl, rfl, hS, atI_ints h0 hl, _, rfl, ?_⟩
        exact ⟨_, rfl, rfl⟩
      · refine ⟨.ref S, rfl, S, _, rfl, .inl hS, _, 0, rfl, rfl, _, rfl, ite2 (fun e2 => ?_) (fun e2 => ?_)⟩
        · have hpos := of_decide_eq_true e2
          have hp2 : (0 : Int) < ns.length := by
            rw [List.length_map] at hpos
            exact hpos
          refine ⟨.ref S, rfl, .int st, rfl, .ref S, rfl, S, _, rfl, .inl hS, st, _, rfl, rfl, hpos, S, _, _, _, rfl, rfl, hS, atI_ints (Int.emod_nonneg _ (by omega)) (by rw [List.length_map]; exact Int.emod_lt_of_pos _ hp2), _, rfl, ?_⟩
          refine ⟨10, 9, rfl, rfl, ⟨by decide, by decide, by decide⟩, _, _, rfl, rfl, (by show (0 : Int) < 10 ^ 9; decide), .int st, rfl, st, 1000003, rfl, rfl, .inr ⟨by decide, by decide⟩, _, _, rfl, rfl, _, rfl, rfl⟩
        · exact ⟨_, rfl, rfl⟩
    · rintro σ2 H2 ⟨c, rfl, rfl⟩
      refine ⟨.int c, rfl, .int st, rfl, st, 7919, rfl, rfl, .inr ⟨by decide, by decide⟩, .int c, rfl, _, c, rfl, rfl, _, 998244353, rfl, rfl, (by show (0 : Int) < 998244353; decide), _, 1, rfl, rfl, by show 2 ≤ sizeLine; decide, fun p hp => ?_⟩
      exact q _ p (same_new hp) hp ⟨_, _, upd_same⟩
def spDigit : Sp := fun vs H Q _ => ∃ (a : Addr) (m : Int), vs = [.ref a, .int m] ∧ 0 < m ∧ m ≤ 2 ^ 80 ∧ TP H a ∧ ∀ H' z, 0 ≤ z → z < m → TP H' a → But a H H' → Q (.int z) H'
theorem ok_digit {f : Addr} {fd : FuncData} {k : Nat} (F : Fun K "_law_digit" "_law_digit" s_law_digit f fd) : FnOk P w K mg base CX0 (k + 1) f fd ["tape", "many"] spDigit := by
  refine F.ok sc_law_digit (fun vs H Q E h => ?_) (fun cdv A outer s H vs Q E hr h => ?_)
  · obtain ⟨a, m, rfl, _⟩ := h
    rfl
  · obtain ⟨a, m, rfl, hm, hm2, ⟨x, y, ea⟩, q⟩ := h
    refine ⟨_, pss_cons (ps_if (pt_cmpR op_gt (pe_ix ix_list (pv 0) pe_int (fun _ _ => rfl)) pe_int (nomark _))
        (pss_cons (ps_set (i := 2) sc_law_digit.nd rfl (.inl rfl) (pe_op op_mod (pe_ix ix_list (pv 0) pe_int (fun _ _ => rfl)) (pv 1)))
        (pss_cons (ps_asg (pe_op op_fdivW (pe_ix ix_list (pv 0) pe_int (fun _ _ => rfl)) (pv 1)) (pg_sub (pv 0) pe_int set_list))
        (pss_one (ps_ret (pv 2))))) pss_nil)
      (pss_cons (ps_asg (pe_op op_mod (pe_op op_add (pe_op op_mul (pe_ix ix_list (pv 0) pe_int (fun _ _ => rfl)) pe_int) pe_int) pe_int) (pg_sub (pv 0) pe_int set_list))
      (pss_cons (ps_set (i := 3) sc_law_digit.nd rfl (.inl rfl) (pe_op op_mod (pe_op op_mul (pe_ix ix_list (pv 0) pe_int (fun _ _ => rfl)) pe_int) pe_int))
      (pss_one (ps_ret (pe_op op_mod (pe_op op_add (pe_op op_mul (pe_op op_mod (pe_op op_mul (pe_ix ix_list (pv 0) pe_int (fun _ _ => rfl)) (pe_ix ix_list (pv 0) pe_int (fun _ _ => rfl))) pe_int) pe_int) (pv 3)) (pv 1)))))), ?_⟩
    have lA : SqL K H a [.int x, .int y] := .inl (.inl ea)
    have put : ∀ o, But a H (upd H a o) := fun o => But.put
    refine ⟨.ref a, rfl, a, _, 0, .int x, rfl, rfl, lA, rfl, x, 0, rfl, rfl, _, rfl, ite2 (fun e => ?_) (fun e => ?_)⟩
    · refine ⟨.ref a, rfl, a, _, 0, .int x, rfl, rfl, lA, rfl, .int m, rfl, x, m, rfl, rfl, hm, ?_⟩
      refine ⟨.ref a, rfl, a, _, 0, .int x, rfl, rfl, lA, rfl, .int m, rfl, x, m, rfl, rfl, wide_div (b := 81) hm (by omega) (by decide) (by decide), ?_⟩
      refine ⟨.ref a, rfl, a, _, 0, 0, rfl, rfl, ea, rfl, .int (x % m), rfl, ?_⟩
      exact q _ _ (Int.emod_nonneg _ (by omega)) (Int.emod_lt_of_pos _ hm) ⟨x / m, y, upd_same⟩ (put _)
    · refine ⟨.ref a, rfl, a, _, 1, .int y, rfl, rfl, lA, rfl, y, 48271, rfl, rfl, .inr ⟨by decide, by decide⟩, _, 11, rfl, rfl, _, 2147483647, rfl, rfl, (by show (0 : Int) < 2147483647; decide), ?_⟩
      have l0 := Int.emod_nonneg (y * 48271 + 11) (show (2147483647 : Int) ≠ 0 by decide)
      have l1 := Int.emod_lt_of_pos (y * 48271 + 11) (show (0 : Int) < 2147483647 by decide)
      obtain ⟨z, hz⟩ : ∃ z : Int, (y * 48271 + 11) % 2147483647 = z := ⟨_, rfl⟩
      rw [hz] at l0 l1
      refine ⟨.ref a, rfl, a, _, 1, 1, rfl, rfl, ea, rfl, ?_⟩
      refine ⟨.ref a, rfl, a, _, 1, .int z, rfl, rfl, .inl (.inl upd_same), (by rw [← hz]; rfl), z, 40692, rfl, rfl, .inr ⟨by decide, by decide⟩, _, 2147483399, rfl, rfl, (by show (0 : Int) < 2147483399; decide), ?_⟩
      refine ⟨.ref a, rfl, a, _, 1, .int z, rfl, rfl, .inl (.inl upd_same), (by rw [← hz]; rfl), .ref a, rfl, a, _, 1, .int z, rfl, rfl, .inl (.inl upd_same), (by rw [← hz]; rfl), z, z, rfl, rfl, .inr ⟨by omega, by omega⟩, _, 2147483629, rfl, rfl, (by show (0 : Int) < 2147483629; decide), _, 2147483399, rfl, rfl, .inr ⟨by decide, by decide⟩, _, rfl, _, _, rfl, rfl, .int m, rfl, _, m, rfl, rfl, hm, ?_⟩
      exact q _ _ (Int.emod_nonneg _ (by omega)) (Int.emod_lt_of_pos _ hm) ⟨x, z, by rw [← hz]; exact upd_same⟩ (put _)
/-! ### deeds that carry -/
theorem four_calm : ∀ x ∈ (["and", "or", "xor", "not"] : List Str), x ∉ twC := by decide +kernel
def carN : List Deed → Nat
  | [] => 0
  | d :: ds => carN ds + if d.1 ∈ twC then 1 else 0
theorem carN_snoc (d : Deed) : ∀ ds : List Deed, carN (ds ++ [d]) = carN ds + if d.1 ∈ twC then 1 else 0
  | [] => by simp [carN]
  | e :: ds => by
    show carN (ds ++ [d]) + _ = carN ds + _ + _
    rw [carN_snoc d ds]
    omega
theorem carN_le : ∀ ds : List Deed, carN ds ≤ ds.length
  | [] => Nat.le_refl _
  | d :: ds => by
    show carN ds + _ ≤ ds.length + 1
    have := carN_le ds
    split <;> omega
/-! ### a deed off the tape -/
def spTd : Sp := fun vs H Q _ => ∃ (a : Addr) (m lf : Int), vs = [.ref a, .int m, .int lf] ∧ 0 < m ∧ m ≤ 100 ∧ TP H a ∧ ∀ H' r d, DeedOk m d → (lf = 0 → d.1 ∉ twC) → H' r = some (.tup (dV d)) → TP H' a → But a H H' → Q (.ref r) H'
theorem ok_td {f fD : Addr} {fd fdD : FuncData} {k : Nat} (F : Fun K "_law_deed" "_law_deed" s_law_deed f fd) (GD : FnOk P w K mg base CX0 (k + 1) fD fdD ["tape", "many"] spDigit) (kD : PySem.W.keepIn K (.ref fD) = true) (bD : Binds K fdD ["tape", "many"] []) (gD : mg "_law_digit" = some (.ref fD)) :
    FnOk P w K mg base CX0 (k + 2) f fd ["tape", "ahead", "left"] spTd := by
  refine F.ok sc_law_deed (fun vs H Q E h => ?_) (fun cdv A outer s H vs Q E hr h => ?_)
  · obtain ⟨a, m, lf, rfl, _⟩ := h
    rfl
  · obtain ⟨a, m, lf, rfl, hm, hm2, ht, q⟩ := h
    refine ⟨_, pss_cons (ps_set (i := 3) sc_law_deed.nd rfl (.inl rfl) (pe_lst (pa_cons pe_str (pa_cons pe_str (pa_cons pe_str (pa_cons pe_str (pa_cons pe_str (pa_cons pe_str (pa_cons pe_str (pa_cons pe_str (pa_cons pe_str (pa_cons pe_str (pa_cons pe_str (pa_cons pe_str pa_nil))))))))))))))
      (pss_cons (ps_set (i := 4) sc_law_deed.nd rfl (.inl rfl) (pe_ix ix_list (pv 3) (pe_call GD hr (by rfl) gD kD bD .nil pass0 (pa_cons (pv 0) (pa_cons pe_int pa_nil))) (fun _ _ => rfl)))
      (pss_mid (ps_if (PW.pt (pw_and (pt_cmpR op_eq (pv 2) pe_int (nomark _)) (pw_and1 (pt_cmpR op_in_seq (pv 4) (pe_tup (pa_cons pe_str (pa_cons pe_str (pa_cons pe_str (pa_cons pe_str (pa_cons pe_str pa_nil)))))) (by rfl)))))
        (pss_one (ps_set (i := 4) sc_law_deed.nd rfl (.inl rfl) (pe_ix ix_list (pe_lst (pa_cons pe_str (pa_cons pe_str (pa_cons pe_str (pa_cons pe_str pa_nil))))) (pe_call GD hr (by rfl) gD kD bD .nil pass0 (pa_cons (pv 0) (pa_cons pe_int pa_nil))) (fun _ _ => rfl)))) pss_nil)
      (pss_cons (ps_set (i := 5) sc_law_deed.nd rfl (.inl rfl) (pe_lst (pa_cons (pe_call GD hr (by rfl) gD kD bD .nil pass0 (pa_cons (pv 0) (pa_cons (pv 1) pa_nil))) (pa_cons (pe_call GD hr (by rfl) gD kD bD .nil pass0 (pa_cons (pv 0) (pa_cons (pv 1) pa_nil))) pa_nil))))
      (pss_mid (ps_if (pt_cmpR op_eq (pe_call GD hr (by rfl) gD kD bD .nil pass0 (pa_cons (pv 0) (pa_cons pe_int pa_nil))) pe_int (nomark _)) (pss_one (ps_asg (pe_op op_sub (pv 1) pe_int) (pg_sub (pv 5) (pe_call GD hr (by rfl) gD kD bD .nil pass0 (pa_cons (pv 0) (pa_cons pe_int pa_nil))) set_list))) pss_nil)
      (pss_cons (ps_if (pt_cmpR op_in_seq (pv 4) (pe_tup (pa_cons pe_str (pa_cons pe_str (pa_cons pe_str pa_nil)))) (by rfl)) (pss_one (ps_ret (pe_tup (pa_cons (pv 4) pa_nil)))) pss_nil)
      (pss_cons (ps_if (pt_cmpR op_in_seq (pv 4) (pe_tup (pa_cons pe_str (pa_cons pe_str (pa_cons pe_str pa_nil)))) (by rfl)) (pss_one (ps_ret (pe_tup (pa_cons (pv 4) (pa_cons (pe_ix ix_list (pv 5) pe_int (fun _ _ => rfl)) pa_nil))))) pss_nil)
      (pss_one (ps_ret (pe_tup (pa_cons (pv 4) (pa_cons (pe_ix ix_list (pv 5) pe_int (fun _ _ => rfl)) (pa_cons (pe_ix ix_list (pv 5) pe_int (fun _ _ => rfl)) pa_nil)))))))))))), ?_⟩
    refine ⟨by show 12 ≤ sizeLine; decide, fun S hS => ?_⟩
    have nS := ht.ne_new hS
    refine ⟨.ref S, rfl, .ref a, rfl, a, 12, rfl, by decide, by decide, ht.upd nS, fun H1 z z0 z1 t1 b1 => ?_⟩
    have eS1 : H1 S = some (.lst (tw12.map V.str)) := b1 _ _ nS upd_same
    obtain ⟨v, hv, hvm⟩ := atI_in (l := tw12.map V.str) z0 (by show z < 12; exact z1)
    obtain ⟨x, hx, rfl⟩ := mem_strs hvm
    have kp1 : But a H H1 := (But.same (same_new hS)).trans b1
    refine ⟨S, _, z, .str x, rfl, rfl, .inl (.inl eS1), hv, ?_⟩
    refine ⟨fun σ2 H2 => ∃ x, σ2 = [some (.ref a), some (.int m), some (.int lf), some (.ref S), some (.str x), none] ∧ x ∈ tw12 ∧ (lf = 0 → x ∉ twC) ∧ TP H2 a ∧ But a H H2, ?_, ?_⟩
    · refine ⟨.int lf, rfl, rfl, _, rfl, ite2 (fun e => ?_) (fun e => ?_)⟩
      · refine ⟨.str x, rfl, by show 5 ≤ sizeLine; decide, fun T hT => ?_⟩
        have nT := t1.ne_new hT
        refine ⟨T, _, rfl, .inr (SqT.of upd_same), rfl, rfl, _, rfl, ite2 (fun e2 => ?_) (fun e2 => ?_)⟩
        · refine ⟨by show 4 ≤ sizeLine; decide, fun M hM => ?_⟩
          have t2 := t1.upd (o := .tup (twC.map V.str)) nT
          have nM := t2.ne_new hM
          refine ⟨.ref a, rfl, a, 4, rfl, by decide, by decide, t2.upd nM, fun H3 y y0 y1 t3 b3 => ?_⟩
          obtain ⟨v2, hv2, hvm2⟩ := atI_in (l := (["and", "or", "xor", "not"] : List Str).map V.str) y0 (by show y < 4; exact y1)
          obtain ⟨x2, hx2, rfl⟩ := mem_strs hvm2
          refine ⟨M, _, y, .str x2, rfl, rfl, .inl (.inl (b3 _ _ nM upd_same)), hv2, x2, rfl, tw_four x2 hx2, fun _ => four_calm x2 hx2, t3, ?_⟩
          exact ((kp1.trans (But.same (same_new hT))).trans (But.same (same_new hM))).trans b3
        · exact ⟨x, rfl, hx, fun _ z => e2 ((inS x twC).trans (decide_eq_true z)), t1.upd nT, kp1.trans (But.same (same_new hT))⟩
      · exact ⟨x, rfl, hx, fun z => absurd (decide_eq_true (congrArg V.int z)) e, t1, kp1⟩
    · rintro σ2 H2 ⟨x, rfl, hx, hcalm, t2, b2⟩
      refine ⟨.ref a, rfl, .int m, rfl, a, m, rfl, hm, by omega, t2, fun H3 i i0 i1 t3 b3 => ?_⟩
      refine ⟨.ref a, rfl, .int m, rfl, a, m, rfl, hm, by omega, t3, fun H4 j j0 j1 t4 b4 => ?_⟩
      refine ⟨by show 2 ≤ sizeLine; decide, fun M hM => ?_⟩
      have nM := t4.ne_new hM
      have bH : But a H H4 := (b2.trans b3).trans b4
      refine ⟨fun σ5 H5 => ∃ i j : Int, σ5 = [some (.ref a), some (.int m), some (.int lf), some (.ref S), some (.str x), some (.ref M)] ∧ 0 ≤ i ∧ i < m ∧ 0 ≤ j ∧ j < m ∧ H5 M = some (.lst [.int i, .int j]) ∧ TP H5 a ∧ But a H H5, ?_, ?_⟩
      · have bM : But a H (upd H4 M (.lst [.int i, .int j])) := bH.trans (But.same (same_new hM))
        refine ⟨.ref a, rfl, a, 3, rfl, by decide, by decide, t4.upd nM, fun H5 y y0 y1 t5 b5 => ?_⟩
        have eM5 := b5 _ _ nM upd_same
        refine ⟨rfl, _, rfl, ite2 (fun e => ?_) (fun e => ?_)⟩
        · refine ⟨.int m, rfl, m, 1, rfl, rfl, .ref M, rfl, .ref a, rfl, a, 2, rfl, by decide, by decide, t5, fun H6 u u0 u1 t6 b6 => ?_⟩
          have eM6 := b6 _ _ nM eM5
          have old : ∀ o, But a H (upd H6 M o) := fun o b v nb e => by
            have e1 := bH b v nb e
            rw [upd_ne (ne_of_none e1 hM)]
            exact b6 b v nb (b5 b v nb (by rw [upd_ne (ne_of_none e1 hM)]; exact e1))
          have hu : u = 0 ∨ u = 1 := by omega
          rcases hu with rfl | rfl
          · exact ⟨M, _, 0, 0, rfl, rfl, eM6, rfl, m - 1, j, rfl, by omega, by omega, j0, j1, upd_same, t6.upd nM, old _⟩
          · exact ⟨M, _, 1, 1, rfl, rfl, eM6, rfl, i, m - 1, rfl, i0, i1, by omega, by omega, upd_same, t6.upd nM, old _⟩
        · exact ⟨i, j, rfl, i0, i1, j0, j1, eM5, t5, bM.trans b5⟩
      · rintro σ5 H5 ⟨i, j, rfl, i0, i1, j0, j1, eM, t5, b5⟩
        refine ⟨.str x, rfl, by show 3 ≤ sizeLine; decide, fun T hT => ?_⟩
        have nT := t5.ne_new hT
        have sT := same_new (o := .tup [.str "all", .str "one", .str "none"]) hT
        refine ⟨T, _, rfl, .inr (SqT.of upd_same), rfl, rfl, _, rfl, ite2 (fun e => ?_) (fun e => ?_)⟩
        · have hx0 : x ∈ (["all", "one", "none"] : List Str) := of_decide_eq_true ((inS x ["all", "one", "none"]).symm.trans e)
          refine ⟨.str x, rfl, by show 1 ≤ sizeLine; decide, fun r hr => ?_⟩
          have nr := (t5.upd nT).ne_new hr
          exact q _ r (x, []) ⟨tw_zero x hx0, (fun _ z => nomatch z)⟩ hcalm upd_same ((t5.upd nT).upd nr) ((b5.trans (But.same sT)).trans (But.same (same_new hr)))
        · have hx0 : ¬ x ∈ (["all", "one", "none"] : List Str) := fun z => e ((inS x ["all", "one", "none"]).trans (decide_eq_true z))
          refine ⟨.str x, rfl, by show 3 ≤ sizeLine; decide, fun U hU => ?_⟩
          have nU := (t5.upd nT).ne_new hU
          have sU := same_new (o := .tup [.str "not", .str "twice", .str "neg"]) hU
          have t6 := (t5.upd (o := .tup [.str "all", .str "one", .str "none"]) nT).upd (o := .tup [.str "not", .str "twice", .str "neg"]) nU
          have eM6 := sU _ _ (sT _ _ eM)
          refine ⟨U, _, rfl, .inr (SqT.of upd_same), rfl, rfl, _, rfl, ite2 (fun e2 => ?_) (fun e2 => ?_)⟩
          · have hx1 : x ∈ (["not", "twice", "neg"] : List Str) := of_decide_eq_true ((inS x ["not", "twice", "neg"]).symm.trans e2)
            refine ⟨.str x, rfl, .ref M, rfl, M, _, 0, .int i, rfl, rfl, .inl (.inl eM6), rfl, by show 2 ≤ sizeLine; decide, fun r hr => ?_⟩
            have nr := t6.ne_new hr
            refine q _ r (x, [i]) ⟨tw_one x hx1, fun z hz => ?_⟩ hcalm upd_same (t6.upd nr) (((b5.trans (But.same sT)).trans (But.same sU)).trans (But.same (same_new hr)))
            rw [List.mem_singleton.mp hz]
            exact ⟨i0, i1⟩
          · have hx1 : ¬ x ∈ (["not", "twice", "neg"] : List Str) := fun z => e2 ((inS x ["not", "twice", "neg"]).trans (decide_eq_true z))
            have hx2 : (x, (2 : Int)) ∈ fwL := ((tw_two x hx).resolve_left hx0).resolve_left hx1
            refine ⟨.str x, rfl, .ref M, rfl, M, _, 0, .int i, rfl, rfl, .inl (.inl eM6), rfl, .ref M, rfl, M, _, 1, .int j, rfl, rfl, .inl (.inl eM6), rfl, by show 3 ≤ sizeLine; decide, fun r hr => ?_⟩
            have nr := t6.ne_new hr
            refine q _ r (x, [i, j]) ⟨hx2, fun z hz => ?_⟩ hcalm upd_same (t6.upd nr) (((b5.trans (But.same sT)).trans (But.same sU)).trans (But.same (same_new hr)))
            simp only [List.mem_cons, List.not_mem_nil, or_false] at hz
            rcases hz with rfl | rfl
            · exact ⟨i0, i1⟩
            · exact ⟨j0, j1⟩
/-! ### how many carry -/
def spCr (K : PySem.W.Frag) : Sp := fun vs H Q _ => ∃ (L : Addr) (rs : List Addr) (ds : List Deed), vs = [.ref L] ∧ SqL K H L (rs.map V.ref) ∧ DsAt H rs ds ∧ ds.length ≤ 100 ∧ ∀ H', Same H H' → Q (.int (carN ds : Nat)) H'
theorem ok_cr {f : Addr} {fd : FuncData} {k : Nat} (F : Fun K "_law_carrying" "_law_carrying" s_law_carrying f fd) (mn : mg "len" = none) : FnOk P w K mg base CX0 (k + 1) f fd ["deeds"] (spCr K) := by
  refine F.ok sc_law_carrying (fun vs H Q E h => ?_) (fun cdv A outer s H vs Q E hr h => ?_)
  · obtain ⟨L, rs, ds, rfl, _⟩ := h
    rfl
  · obtain ⟨L, rs, ds, rfl, eL, hd, hl, q⟩ := h
    refine ⟨_, pss_one (ps_ret (pe_callB call_len_seq (by rfl) mn PySem.boot_len (pa_cons
      (pe_lc (own := [("deed", 1)]) (g := gName 1) (by rfl) sc_law_carrying.nd (pi_list (pv 0)) (blkOk_by (own := [("deed", 1)]) (N := N_law_carrying) (sc := defScope s_law_carrying) (by decide +kernel))
        (fun _ _ _ _ _ => pg_name (i := 1) sc_law_carrying.nd rfl (Or.inl rfl)) (fun _ _ _ _ _ => pts_one (pt_cmpR (r := rIn K false) op_in_seq (pe_ix (r := rIxT K) ix_tup (pv 1) pe_int (fun _ _ => rfl)) (pe_tup (pa_cons pe_str (pa_cons pe_str (pa_cons pe_str (pa_cons pe_str (pa_cons pe_str pa_nil)))))) (by rfl)))
        (fun _ _ _ _ _ => pv 1)) pa_nil))), ?_⟩
    refine ⟨.ref L, rfl, L, rfl, ⟨_, eL⟩, fun C hC => ?_⟩
    refine lc_list (K := K) (a := L) (xs := rs.map V.ref) (fun i H4 => ∃ ys : List V, ys.length = carN (ds.take i) ∧ H4 C = some (.lst ys) ∧ Same H H4) ⟨[], rfl, upd_same, same_new hC⟩ (fun i H4 _ hp => ?_) (fun i x H4 hx hp => ?_) (fun H4 hp => ?_)
    · obtain ⟨_, _, _, sm⟩ := hp
      exact sm.seq eL
    · obtain ⟨ys, hy, eC, sm⟩ := hp
      have hi : i < rs.length := by
        have := (List.getElem?_eq_some_iff.mp hx).1
        rwa [List.length_map] at this
      have hx' : x = .ref rs[i] := by
        rw [List.getElem?_map, List.getElem?_eq_getElem hi] at hx
        exact (Option.some.inj hx).symm
      subst hx'
      obtain ⟨d, hd1, hd2⟩ := awGet hd (List.getElem?_eq_getElem hi)
      have old : ∀ H6, Same H H6 → ∀ o, Same H (upd H6 C o) := fun H6 s6 o b u e => by
        rw [upd_ne (ne_of_none e hC)]
        exact s6 b u e
      refine ⟨rfl, .ref rs[i], rfl, rs[i], _, 0, .str d.1, rfl, rfl, SqT.of (sm _ _ hd2), dv0 d, by show 5 ≤ sizeLine; decide, fun T hT => ?_⟩
      have sT := sm.trans (same_new (o := .tup [.str "add", .str "sub", .str "twice", .str "neg", .str "one"]) hT)
      have eCT : upd H4 T (.tup [.str "add", .str "sub", .str "twice", .str "neg", .str "one"]) C = some (.lst ys) := same_new hT _ _ eC
      refine ⟨T, _, rfl, .inr (SqT.of upd_same), rfl, rfl, _, rfl, ite2 (fun e => ?_) (fun e => ?_)⟩
      · have hc : d.1 ∈ twC := of_decide_eq_true ((inS d.1 twC).symm.trans e)
        refine ⟨.ref rs[i], rfl, ys, eCT, ?_, ys ++ [.ref rs[i]], ?_, upd_same, old _ sT _⟩
        · have := awLen hd
          have h2 := carN_le (ds.take i)
          rw [List.length_take] at h2
          exact small1000 (by omega)
        · rw [List.length_append, hy, List.take_add_one, hd1, Option.toList_some, carN_snoc, if_pos hc]
          rfl
      · have hc : ¬ d.1 ∈ twC := fun z => e ((inS d.1 twC).trans (decide_eq_true z))
        exact ⟨ys, by rw [hy, List.take_add_one, hd1, Option.toList_some, carN_snoc, if_neg hc]; rfl, eCT, sT⟩
    · obtain ⟨ys, hy, eC, sm⟩ := hp
      rw [List.length_map, awLen hd, List.take_length] at hy
      rw [← hy] at q
      exact ⟨C, ys, rfl, .inl (.inl (.inl eC)), q _ sm⟩
/-! ### a row off the tape -/
def spTr : Sp := fun vs H Q _ => ∃ (a : Addr) (m n lf : Int), vs = [.ref a, .int m, .int n, .int lf] ∧ 1 ≤ m ∧ m ≤ 3 ∧ 0 ≤ n ∧ n ≤ 8 ∧ TP H a ∧
  ∀ H' R ds o, RowAt H' R m ds o → RowOk m ds o → (ds.length : Int) ≤ n → (0 ≤ lf → (carN ds : Int) ≤ lf) → TP H' a → But a H H' → Q (.ref R) H'
theorem ok_tr {f fD fE fC : Addr} {fd fdD fdE fdC : FuncData} {k : Nat} (F : Fun K "_law_row" "_law_row" s_law_row f fd) (GD : FnOk P w K mg base CX0 (k + 1) fD fdD ["tape", "many"] spDigit) (kD : PySem.W.keepIn K (.ref fD) = true)
    (GE : FnOk P w K mg base CX0 (k + 2) fE fdE ["tape", "ahead", "left"] spTd) (kE : PySem.W.keepIn K (.ref fE) = true) (GC : FnOk P w K mg base CX0 (k + 1) fC fdC ["deeds"] (spCr K)) (kC : PySem.W.keepIn K (.ref fC) = true)
    (bD : Binds K fdD ["tape", "many"] []) (bE : Binds K fdE ["tape", "ahead", "left"] []) (bC : Binds K fdC ["deeds"] []) (gD : mg "_law_digit" = some (.ref fD)) (gE : mg "_law_deed" = some (.ref fE)) (gC : mg "_law_carrying" = some (.ref fC))
    (mt : mg "tuple" = none) (mr : mg "range" = none) (mn : mg "len" = none) : FnOk P w K mg base CX0 (k + 3) f fd ["tape", "many", "most", "left"] spTr := by
  refine F.ok sc_law_row (fun vs H Q E h => ?_) (fun cdv A outer s H vs Q E hr h => ?_)
  · obtain ⟨a, m, n, lf, rfl, _⟩ := h
    rfl
  · obtain ⟨a, m, n, lf, rfl, hm, hm2, hn, hn2, ht, q⟩ := h
    have hr1 := hr.mono (show k + 1 ≤ k + 2 by omega)
    refine ⟨_, pss_cons (ps_set (i := 4) sc_law_row.nd rfl (.inl rfl) (pe_lst pa_nil))
      (pss_cons (ps_for PassesOwn.never rfl (pi_range1 (by rfl) mr (pa_cons (pe_call GD hr1 (by rfl) gD kD bD .nil pass0 (pa_cons (pv 0) (pa_cons (pe_op op_add (pv 2) pe_int) pa_nil))) pa_nil)) (pg_name (i := 5) sc_law_row.nd rfl (.inl rfl))
        (pss_one (ps_expr (pe_bm PySem.F.plainAttrs_list PySem.F.slot_list_append PySem.F.type_list_append mt_append (pv 4) (pa_cons (pe_call GE hr (by rfl) gE kE bE .nil pass0 (pa_cons (pv 0) (pa_cons (pe_op op_add (pv 1) (pv 5)) (pa_cons (pe_op op_sub (pv 3) (pe_call GC hr1 (by rfl) gC kC bC .nil pass0 (pa_cons (pv 4) pa_nil))) pa_nil)))) pa_nil)))))
      (pss_cons (ps_set (i := 6) sc_law_row.nd rfl (.inl rfl) (pe_op op_sub (pe_op op_add (pv 1) (pe_callB call_len_seq (by rfl) mn PySem.boot_len (pa_cons (pv 4) pa_nil))) pe_int))
      (pss_mid (ps_if (pt_cmpR op_eq (pe_call GD hr1 (by rfl) gD kD bD .nil pass0 (pa_cons (pv 0) (pa_cons pe_int pa_nil))) pe_int (nomark _)) (pss_one (ps_set (i := 6) sc_law_row.nd rfl (.inl rfl) (pe_call GD hr1 (by rfl) gD kD bD .nil pass0 (pa_cons (pv 0) (pa_cons (pe_op op_add (pv 1) (pe_callB call_len_seq (by rfl) mn PySem.boot_len (pa_cons (pv 4) pa_nil))) pa_nil))))) pss_nil)
      (pss_one (ps_ret (pe_tup (pa_cons (pv 1) (pa_cons (pe_callTy call_tuple_of (by rfl) mt (by decide +kernel) (pa_cons (pv 4) pa_nil)) (pa_cons (pv 6) pa_nil))))))))), ?_⟩
    refine ⟨Nat.zero_le _, fun D hD => ?_⟩
    have nD := ht.ne_new hD
    have sD := same_new (o := .lst []) hD
    refine ⟨.ref a, rfl, .int n, rfl, n, 1, rfl, rfl, a, n + 1, rfl, by omega, by omega, ht.upd nD, fun H1 sz z0 z1 t1 b1 => ?_⟩
    have bH : But a H H1 := (But.same sD).trans b1
    refine ⟨sz, rfl, by omega, by omega, for_range (lo := 0) (n := sz.toNat) (fun i σ H3 => ∃ y rs ds, σ = [some (.ref a), some (.int m), some (.int n), some (.int lf), some (.ref D), y, none] ∧ H3 D = some (.lst (rs.map V.ref)) ∧ DsAt H3 rs ds ∧ ds.length = i ∧ DsOk m ds ∧ (0 ≤ lf → (carN ds : Int) ≤ lf) ∧ TP H3 a ∧ But a H H3)
      ⟨none, [], [], rfl, b1 _ _ nD upd_same, .nil, rfl, ⟨fun k d e => by simp at e⟩, (fun z => z), t1, bH⟩ (fun i σ H3 hi hp => ?_) (fun σ H3 hp => ?_)⟩
    · obtain ⟨y, rs, ds, rfl, eD, hd, hl, ok, hcn, t3, b3⟩ := hp
      refine ⟨.ref D, rfl, .inl ⟨rfl, _, .inl (.inl eD)⟩, .ref a, rfl, .int m, rfl, .int (0 + i), rfl, m, 0 + i, rfl, rfl, .int lf, rfl, .ref D, rfl, D, rs, ds, rfl, .inl (.inl eD), hd, by omega, fun H4 s4 => ?_⟩
      refine ⟨lf, carN ds, rfl, rfl, a, m + (0 + i), lf - carN ds, rfl, by omega, by omega, t3.same s4, fun H5 r d hok hcalm er t5 b5 => ?_⟩
      have eD5 := b5 _ _ nD (s4 _ _ eD)
      refine ⟨D, _, _, rfl, rfl, eD5, ?_, some (.int (0 + i)), rs ++ [r], ds ++ [d], rfl, ?_, ?_, ?_, ?_, ?_, t5.upd nD, ?_⟩
      · rw [List.length_map, awLen hd]
        exact small1000 (by omega)
      · rw [upd_same, List.map_append]
        rfl
      · exact (tups_put eD5).ds (awSnoc (F := fun r d => H5 r = some (.tup (dV d))) er ((b5.tape (t3.same s4)).ds ((Same.tups s4).ds hd)))
      · rw [List.length_append, hl]
        rfl
      · refine dsOk_snoc ok ?_
        rw [hl]
        have : m + (0 + (i : Int)) = m + i := by omega
        rw [this] at hok
        exact hok
      · intro h0
        have h1 := hcn h0
        rw [carN_snoc]
        by_cases hz : d.1 ∈ twC
        · rw [if_pos hz]
          have : ¬ lf - (carN ds : Int) = 0 := fun z => hcalm z hz
          omega
        · rw [if_neg hz]
          omega
      · intro b o nb e
        have nbD : b ≠ D := ne_of_none e hD
        rw [upd_ne nbD]
        exact b5 b o nb (s4 b o (b3 b o nb e))
    · obtain ⟨y, rs, ds, rfl, eD, hd, hl, ok, hcn, t3, b3⟩ := hp
      have elen : ((rs.map V.ref).length : Int) = ds.length := by rw [List.length_map, awLen hd]
      refine ⟨.int m, rfl, .ref D, rfl, D, _, rfl, .inl (.inl (.inl eD)), m, _, rfl, rfl, _, 1, rfl, rfl, ?_⟩
      refine ⟨fun σ4 H4 => ∃ o, σ4 = [some (.ref a), some (.int m), some (.int n), some (.int lf), some (.ref D), y, some (.int o)] ∧ 0 ≤ o ∧ o < m + ds.length ∧ H4 D = some (.lst (rs.map V.ref)) ∧ DsAt H4 rs ds ∧ TP H4 a ∧ But a H H4, ?_, ?_⟩
      · refine ⟨.ref a, rfl, a, 5, rfl, by decide, by decide, t3, fun H4 u u0 u1 t4 b4 => ⟨rfl, _, rfl, ite2 (fun e => ?_) (fun e => ?_)⟩⟩
        · refine ⟨.ref a, rfl, .int m, rfl, .ref D, rfl, D, _, rfl, .inl (.inl (.inl (b4 _ _ nD eD))), m, _, rfl, rfl, a, _, rfl, by omega, by omega, t4, fun H5 o o0 o1 t5 b5 => ?_⟩
          exact ⟨o, rfl, o0, by omega, b5 _ _ nD (b4 _ _ nD eD), ((b4.tape t3).trans (b5.tape t4)).ds hd, t5, (b3.trans b4).trans b5⟩
        · exact ⟨m + ((rs.map V.ref).length : Int) - 1, rfl, by omega, by omega, b4 _ _ nD eD, (b4.tape t3).ds hd, t4, b3.trans b4⟩
      · rintro σ4 H4 ⟨o, rfl, o0, o1, eD4, hd4, t4, b4⟩
        refine ⟨.int m, rfl, .ref D, rfl, D, _, rfl, .inl ⟨.inl (.inl eD4), fun T hT => ?_⟩⟩
        refine ⟨.int o, rfl, by show 3 ≤ sizeLine; decide, fun R hR => ?_⟩
        have s1 : Same H4 (upd H4 T (.tup (rs.map V.ref))) := same_new hT
        have s2 := same_new (o := .tup [.int m, .ref T, .int o]) hR
        exact q _ R ds o ⟨T, rs, upd_same, s2 _ _ upd_same, (Same.tups (s1.trans s2)).ds hd4⟩ ⟨hm, hm2, by omega, ok, o0, by omega⟩ (by omega) hcn (t4.same (s1.trans s2)) (b4.trans (But.same (s1.trans s2)))
/-! ### first_carry -/
def spFc : Sp := fun vs H Q _ => ∃ (R : Addr) (m o : Int) (ds : List Deed), vs = [.ref R] ∧ RowAt H R m ds o ∧ ds.length ≤ 100 ∧ ∀ H' p, Same H H' → H p = none → H' p = some (.tup ((ds.map fcD).map V.int)) → Q (.ref p) H'
theorem ok_fc {f : Addr} {fd : FuncData} {k : Nat} (F : Fun K "first_carry" "first_carry" s_first_carry f fd) (mt : mg "tuple" = none) : FnOk P w K mg base CX0 (k + 1) f fd ["row"] spFc := by
  refine F.ok sc_first_carry (fun vs H Q E h => ?_) (fun cdv A outer s H vs Q E hr h => ?_)
  · obtain ⟨R, m, o, ds, rfl, _⟩ := h
    rfl
  · obtain ⟨R, m, o, ds, rfl, hrow, hl, q⟩ := h
    obtain ⟨D, rs, eR, eD, hd⟩ := id hrow
    refine ⟨_, pss_one (ps_ret (pe_callTy call_tuple_of (by rfl) mt (by decide +kernel) (pa_cons
      (pe_lc (own := [("deed", 1)]) (g := gName 1) (by rfl) sc_first_carry.nd (pi_tup (pe_ix ix_tup (pv 0) pe_int (fun _ _ => rfl))) (blkOk_by (own := [("deed", 1)]) (N := N_first_carry) (sc := defScope s_first_carry) (by decide +kernel))
        (fun _ _ _ _ _ => pg_name (i := 1) sc_first_carry.nd rfl (Or.inl rfl)) (fun _ _ _ _ _ => pts_nil)
        (fun _ _ _ _ _ => pe_ifExp (pt_cmpR (r := rIn K false) op_in_seq (pe_ix (r := rIxT K) ix_tup (pv 1) pe_int (fun _ _ => rfl)) (pe_tup (pa_cons pe_str (pa_cons pe_str pa_nil))) (by rfl)) pe_int pe_int)) pa_nil))), ?_⟩
    refine ⟨.ref R, rfl, R, _, 1, .ref D, rfl, rfl, SqT.of eR, rfl, D, rfl, ⟨_, SqT.of eD⟩, fun L hL => ?_⟩
    refine lc_tup (K := K) (a := D) (xs := rs.map V.ref) (fun i H4 => H4 L = some (.lst (((ds.take i).map fcD).map V.int)) ∧ Same H H4) ⟨upd_same, same_new hL⟩ (fun i H4 _ hp => SqT.of (hp.2 _ _ eD)) (fun i x H4 hx hp => ?_) (fun H4 hp => ?_)
    · obtain ⟨eL, sm⟩ := hp
      have hi : i < rs.length := by
        have := (List.getElem?_eq_some_iff.mp hx).1
        rwa [List.length_map] at this
      have hx' : x = .ref rs[i] := by
        rw [List.getElem?_map, List.getElem?_eq_getElem hi] at hx
        exact (Option.some.inj hx).symm
      subst hx'
      obtain ⟨d, hd1, hd2⟩ := awGet hd (List.getElem?_eq_getElem hi)
      refine ⟨rfl, .ref rs[i], rfl, rs[i], _, 0, .str d.1, rfl, rfl, SqT.of (sm _ _ hd2), dv0 d, by show 2 ≤ sizeLine; decide, fun T hT => ?_⟩
      have sT := same_new (o := .tup [.str "neg", .str "one"]) hT
      have eL2 := sT _ _ eL
      have old : ∀ o, Same H (upd (upd H4 T (.tup [.str "neg", .str "one"])) L o) := fun o b u e => by
        rw [upd_ne (ne_of_none e hL)]
        exact sT b u (sm b u e)
      have small : (((ds.take i).map fcD).map V.int).length < sizeLine := by
        rw [List.length_map, List.length_map, List.length_take]
        exact small1000 (by omega)
      have hin := inS d.1 ["neg", "one"]
      refine ⟨T, _, rfl, .inr (SqT.of upd_same), rfl, rfl, _, rfl, ite2 (fun e => ?_) (fun e => ?_)⟩
      · have hm : d.1 ∈ (["neg", "one"] : List Str) := of_decide_eq_true (hin.symm.trans e)
        have e1 : fcD d = 1 := if_pos hm
        refine ⟨_, eL2, small, ?_, old _⟩
        rw [upd_same, List.take_add_one, hd1]
        simp [e1]
      · have hm : ¬ d.1 ∈ (["neg", "one"] : List Str) := fun z => e (hin.trans (decide_eq_true z))
        have e1 : fcD d = 0 := if_neg hm
        refine ⟨_, eL2, small, ?_, old _⟩
        rw [upd_same, List.take_add_one, hd1]
        simp [e1]
    · obtain ⟨eL, sm⟩ := hp
      rw [List.length_map, awLen hd, List.take_length] at eL
      refine ⟨L, _, rfl, .inl ⟨.inl (.inl eL), fun p hp => ?_⟩⟩
      exact q _ p (sm.trans (same_new hp)) (sm.free hp) upd_same
/-! ### deed_bit, bits_of -/
def spDb (K : PySem.W.Frag) : Sp := fun vs H Q _ => ∃ (r L : Addr) (d : Deed) (told : List Int) (c : Int), vs = [.ref r, .int c, .ref L] ∧ H r = some (.tup (dV d)) ∧ SqL K H L (told.map V.int) ∧ DeedOk told.length d ∧ Q (.int (dbitAt d c told)) H
theorem ok_db {f : Addr} {fd : FuncData} {k : Nat} (F : Fun K "deed_bit" "deed_bit" s_deed_bit f fd) : FnOk P w K mg base CX0 (k + 1) f fd ["deed", "held", "told"] (spDb K) := by
  refine F.ok sc_deed_bit (fun vs H Q E h => ?_) (fun cdv A outer s H vs Q E hr h => ?_)
  · obtain ⟨r, L, d, told, c, rfl, _⟩ := h
    rfl
  · obtain ⟨r, L, d, told, c, rfl, er, eL, ok, q⟩ := h
    refine ⟨_, pss_cons (ps_set (i := 3) sc_deed_bit.nd rfl (.inl rfl) (pe_ix ix_tup (pv 0) pe_int (fun _ _ => rfl)))
      (pss_cons (ps_if (pt_cmpR op_eq (pv 3) pe_str (nomark _)) (pss_one (ps_ret pe_int)) pss_nil)
      (pss_cons (ps_if (pt_cmpR op_eq (pv 3) pe_str (nomark _)) (pss_one (ps_ret pe_int)) pss_nil)
      (pss_cons (ps_if (PW.pt (pw_or (pt_cmpR op_eq (pv 3) pe_str (nomark _)) (pw_or1 (pt_cmpR op_eq (pv 3) pe_str (nomark _))))) (pss_one (ps_ret (pv 1))) pss_nil)
      (pss_cons (ps_set (i := 4) sc_deed_bit.nd rfl (.inl rfl) (pe_ix ix_list (pv 2) (pe_ix ix_tup (pv 0) pe_int (fun _ _ => rfl)) (fun _ _ => rfl)))
      (pss_cons (ps_if (pt_cmpR op_eq (pv 3) pe_str (nomark _)) (pss_one (ps_ret (pe_op op_sub pe_int (pv 4)))) pss_nil)
      (pss_cons (ps_if (pt_cmpR op_eq (pv 3) pe_str (nomark _)) (pss_one (ps_ret (pe_op op_xor (pe_op op_sub pe_int (pv 4)) (pv 1)))) pss_nil)
      (pss_cons (ps_set (i := 5) sc_deed_bit.nd rfl (.inl rfl) (pe_ix ix_list (pv 2) (pe_ix ix_tup (pv 0) pe_int (fun _ _ => rfl)) (fun _ _ => rfl)))
      (pss_cons (ps_if (pt_cmpR op_eq (pv 3) pe_str (nomark _)) (pss_one (ps_ret (pe_op op_and (pv 4) (pv 5)))) pss_nil)
      (pss_cons (ps_if (pt_cmpR op_eq (pv 3) pe_str (nomark _)) (pss_one (ps_ret (pe_op op_or (pv 4) (pv 5)))) pss_nil)
      (pss_cons (ps_if (pt_cmpR op_eq (pv 3) pe_str (nomark _)) (pss_one (ps_ret (pe_op op_xor (pv 4) (pv 5)))) pss_nil)
      (pss_one (ps_ret (pe_op op_xor (pe_op op_xor (pv 4) (pv 5)) (pv 1)))))))))))))), ?_⟩
    unfold dbitAt dbit at q
    refine ⟨.ref r, rfl, r, _, 0, .str d.1, rfl, rfl, SqT.of er, dv0 d, ?_⟩
    refine ⟨.str d.1, rfl, rfl, _, rfl, ite2 (fun e => ?_) (fun n1 => ?_)⟩
    · rw [if_pos (strEq e)] at q
      exact q
    rw [if_neg (strNe n1)] at q
    refine ⟨.str d.1, rfl, rfl, _, rfl, ite2 (fun e => ?_) (fun n2 => ?_)⟩
    · rw [if_pos (strEq e)] at q
      exact q
    rw [if_neg (strNe n2)] at q
    refine ⟨.str d.1, rfl, rfl, _, rfl, ite2 (fun e => ?_) (fun n3 => ?_)⟩
    · rw [if_pos (strEq e)] at q
      exact ⟨.int c, rfl, q⟩
    rw [if_neg (strNe n3)] at q
    refine ⟨.str d.1, rfl, rfl, _, rfl, ite2 (fun e => ?_) (fun n4 => ?_)⟩
    · rw [if_pos (strEq e)] at q
      exact ⟨.int c, rfl, q⟩
    rw [if_neg (strNe n4)] at q
    obtain ⟨i, hi, ai, ei⟩ := arg1 ok (strNe n1) (strNe n3) (strNe n2)
    refine ⟨.ref L, rfl, .ref r, rfl, r, _, 1, .int i, rfl, rfl, SqT.of er, dvN (k := 0) hi, L, _, i, .int (argAt d told 0), rfl, rfl, eL, ei, ?_⟩
    refine ⟨.str d.1, rfl, rfl, _, rfl, ite2 (fun e => ?_) (fun n5 => ?_)⟩
    · rw [if_pos (strEq e)] at q
      exact ⟨.int _, rfl, 1, _, rfl, rfl, q⟩
    rw [if_neg (strNe n5)] at q
    refine ⟨.str d.1, rfl, rfl, _, rfl, ite2 (fun e => ?_) (fun n6 => ?_)⟩
    · rw [if_pos (strEq e)] at q
      exact ⟨.int _, rfl, 1, _, rfl, rfl, .int c, rfl, _, _, rfl, rfl, q⟩
    rw [if_neg (strNe n6)] at q
    obtain ⟨j, hj, aj, ej⟩ := arg2 ok (strNe n1) (strNe n3) (strNe n2) (strNe n5) (strNe n6) (strNe n4)
    refine ⟨.ref L, rfl, .ref r, rfl, r, _, 2, .int j, rfl, rfl, SqT.of er, dvN (k := 1) hj, L, _, j, .int (argAt d told 1), rfl, rfl, eL, ej, ?_⟩
    refine ⟨.str d.1, rfl, rfl, _, rfl, ite2 (fun e => ?_) (fun n7 => ?_)⟩
    · rw [if_pos (strEq e)] at q
      exact ⟨.int _, rfl, .int _, rfl, _, _, rfl, rfl, q⟩
    rw [if_neg (strNe n7)] at q
    refine ⟨.str d.1, rfl, rfl, _, rfl, ite2 (fun e => ?_) (fun n8 => ?_)⟩
    · rw [if_pos (strEq e)] at q
      exact ⟨.int _, rfl, .int _, rfl, _, _, rfl, rfl, q⟩
    rw [if_neg (strNe n8)] at q
    refine ⟨.str d.1, rfl, rfl, _, rfl, ite2 (fun e => ?_) (fun n9 => ?_)⟩
    · rw [if_pos (strEq e)] at q
      exact ⟨.int _, rfl, .int _, rfl, _, _, rfl, rfl, q⟩
    rw [if_neg (strNe n9)] at q
    exact ⟨.int _, rfl, .int _, rfl, _, _, rfl, rfl, .int c, rfl, _, _, rfl, rfl, q⟩
def spBo : Sp := fun vs H Q _ => ∃ (R C B : Addr) (m o : Int) (ds : List Deed) (cs bs : List Int), vs = [.ref R, .ref C, .ref B] ∧ RowAt H R m ds o ∧ DsOk m ds ∧ ds.length ≤ 100 ∧ H C = some (.tup (cs.map V.int)) ∧ cs.length = ds.length ∧ H B = some (.tup (bs.map V.int)) ∧ (bs.length : Int) = m ∧ bs.length ≤ 100 ∧
  ∀ H' p, Same H H' → H p = none → H' p = some (.tup ((bts ds cs bs).map V.int)) → Q (.ref p) H'
theorem ok_bo {f fB : Addr} {fd fdB : FuncData} {k : Nat} (F : Fun K "bits_of" "bits_of" s_bits_of f fd) (GB : FnOk P w K mg base CX0 (k + 1) fB fdB ["deed", "held", "told"] (spDb K)) (kB : PySem.W.keepIn K (.ref fB) = true) (bB : Binds K fdB ["deed", "held", "told"] []) (gB : mg "deed_bit" = some (.ref fB))
    (ml : mg "list" = none) (mt : mg "tuple" = none) (mz : mg "zip" = none) : FnOk P w K mg base CX0 (k + 2) f fd ["row", "carry", "bits"] spBo := by
  refine F.ok sc_bits_of (fun vs H Q E h => ?_) (fun cdv A outer s H vs Q E hr h => ?_)
  · obtain ⟨R, C, B, m, o, ds, cs, bs, rfl, _⟩ := h
    rfl
  · obtain ⟨R, C, B, m, o, ds, cs, bs, rfl, hrow, hok, hds, eC, hcl, eB, hm, hbl, q⟩ := h
    obtain ⟨D, rs, eR, eD, hd⟩ := id hrow
    refine ⟨_, pss_cons (ps_set (i := 3) sc_bits_of.nd rfl (.inl rfl) (pe_callTy call_list_of (by rfl) ml (by decide +kernel) (pa_cons (pv 2) pa_nil)))
      (pss_cons (ps_for PassesOwn.never rfl (RZ.pi_zipA (by rfl) mz (pa_cons (pe_ix ix_tup (pv 0) pe_int (fun _ _ => rfl)) (pa_cons (pv 1) pa_nil))) (pg_tup rfl (pgs_cons (pg_name (i := 4) sc_bits_of.nd rfl (.inl rfl)) (pgs_cons (pg_name (i := 5) sc_bits_of.nd rfl (.inl rfl)) pgs_nil)))
        (pss_one (ps_expr (pe_bm PySem.F.plainAttrs_list PySem.F.slot_list_append PySem.F.type_list_append mt_append (pv 3) (pa_cons (pe_call GB hr (by rfl) gB kB bB .nil pass0 (pa_cons (pv 4) (pa_cons (pv 5) (pa_cons (pv 3) pa_nil)))) pa_nil)))))
      (pss_one (ps_ret (pe_callTy call_tuple_of (by rfl) mt (by decide +kernel) (pa_cons (pv 3) pa_nil))))), ?_⟩
    refine ⟨.ref B, rfl, B, _, rfl, .inr (SqT.of eB), fun L hL => ?_⟩
    have sL := same_new (o := .lst (bs.map V.int)) hL
    have lrs : (rs.map V.ref).length = ds.length := by rw [List.length_map, awLen hd]
    have lcs : (cs.map V.int).length = ds.length := by rw [List.length_map, hcl]
    refine ⟨.ref R, rfl, R, _, 1, .ref D, rfl, rfl, SqT.of (sL _ _ eR), rfl, .ref C, rfl, D, C, _, _, rfl, .inr ⟨SqT.of (sL _ _ eD), SqT.of (sL _ _ eC), RZ.for_zipT (K := K) (xs := rs.map V.ref) (ys := cs.map V.int) (lrs.trans lcs.symm) (fun i σ H3 => ∃ y4 y5, σ = [some (.ref R), some (.ref C), some (.ref B), some (.ref L), y4, y5] ∧ H3 L = some (.lst ((bts (ds.take i) (cs.take i) bs).map V.int)) ∧ Same H H3) ⟨none, none, rfl, by rw [upd_same]; cases ds <;> rfl, sL⟩ (fun i σ H3 hp => ?_) (fun i x y T σ H3 hx hy hp hT => ?_) (fun σ H3 hp => ?_)⟩⟩
    · obtain ⟨_, _, _, _, sm⟩ := hp
      exact ⟨SqT.of (sm _ _ eD), SqT.of (sm _ _ eC)⟩
    · obtain ⟨y4, y5, rfl, e3, sm⟩ := hp
      have hi : i < rs.length := by
        have := (List.getElem?_eq_some_iff.mp hx).1
        rwa [List.length_map] at this
      have hx' : x = .ref rs[i] := by
        rw [List.getElem?_map, List.getElem?_eq_getElem hi] at hx
        exact (Option.some.inj hx).symm
      subst hx'
      obtain ⟨d, hd1, hd2⟩ := awGet hd (List.getElem?_eq_getElem hi)
      obtain ⟨c, hc, rfl⟩ : ∃ c, cs[i]? = some c ∧ y = .int c := by
        rw [List.getElem?_map] at hy
        cases e : cs[i]? with
        | none => rw [e] at hy; cases hy
        | some c => rw [e] at hy; exact ⟨c, rfl, (Option.some.inj hy).symm⟩
      have h2 : i < ds.length := by
        rw [← awLen hd]
        exact hi
      have hlen : (bts (ds.take i) (cs.take i) bs).length = bs.length + i := by
        rw [bts_len (by rw [List.length_take, List.length_take, hcl]), List.length_take, Nat.min_eq_left (Nat.le_of_lt h2)]
      have okd : DeedOk (bts (ds.take i) (cs.take i) bs).length d := by
        rw [hlen]
        have := hok.each i d hd1
        rw [← hm] at this
        exact this
      have sT := same_new (o := .tup [.ref rs[i], .int c]) hT
      have e4 := sT _ _ e3
      refine ⟨T, [.ref rs[i], .int c], rfl, .inl (.inl upd_same), rfl, .ref rs[i], [.int c], rfl, .int c, [], rfl, rfl, ?_⟩
      refine ⟨.ref L, rfl, .inl ⟨rfl, _, .inl (.inl e4)⟩, .ref rs[i], rfl, .int c, rfl, .ref L, rfl, rs[i], L, d, _, c, rfl, sT _ _ (sm _ _ hd2), .inl (.inl e4), okd, L, _, _, rfl, rfl, e4, ?_, some (.ref rs[i]), some (.int c), rfl, ?_, ?_⟩
      · rw [List.length_map, hlen]
        exact small1000 (by omega)
      · rw [upd_same, bts_next hd1 hc, List.map_append]
        rfl
      · intro b u e
        rw [upd_ne (ne_of_none e hL)]
        exact sT b u (sm b u e)
    · obtain ⟨y4, y5, rfl, e3, sm⟩ := hp
      rw [lrs, List.take_length, ← hcl, List.take_length] at e3
      refine ⟨.ref L, rfl, L, _, rfl, .inl ⟨.inl (.inl e3), fun p hp => ?_⟩⟩
      exact q _ p (sm.trans (same_new hp)) (sm.free hp) upd_same
/-! ### two_or_more, deed_carry -/
def spTm : Sp := fun vs H Q _ => ∃ a b c : Int, vs = [.int a, .int b, .int c] ∧ Q (.int ((a + b + c) / 2)) H
theorem ok_tm {f : Addr} {fd : FuncData} {k : Nat} (F : Fun K "two_or_more" "two_or_more" s_two_or_more f fd) : FnOk P w K mg base CX0 (k + 1) f fd ["one", "other", "third"] spTm := by
  refine F.ok sc_two_or_more (fun vs H Q E h => ?_) (fun cdv A outer s H vs Q E hr h => ?_)
  · obtain ⟨a, b, c, rfl, _⟩ := h
    rfl
  · obtain ⟨a, b, c, rfl, q⟩ := h
    refine ⟨_, pss_one (ps_ret (pe_op op_fdiv (pe_op op_add (pe_op op_add (pv 0) (pv 1)) (pv 2)) pe_int)), ?_⟩
    exact ⟨.int a, rfl, .int b, rfl, a, b, rfl, rfl, .int c, rfl, _, c, rfl, rfl, _, 2, rfl, rfl, ⟨by decide, by decide⟩, q⟩
def spDc : Sp := fun vs H Q _ => ∃ (r L : Addr) (d : Deed) (told : List Int) (c : Int), vs = [.ref r, .int c, .ref L] ∧ H r = some (.tup (dV d)) ∧ H L = some (.tup (told.map V.int)) ∧ DeedOk told.length d ∧ Q (.int (dcarAt d c told)) H
theorem ok_dc {f fT : Addr} {fd fdT : FuncData} {k : Nat} (F : Fun K "deed_carry" "deed_carry" s_deed_carry f fd) (GT : FnOk P w K mg base CX0 (k + 1) fT fdT ["one", "other", "third"] spTm) (kT : PySem.W.keepIn K (.ref fT) = true) (bT : Binds K fdT ["one", "other", "third"] []) (gT : mg "two_or_more" = some (.ref fT)) :
    FnOk P w K mg base CX0 (k + 2) f fd ["deed", "held", "told"] spDc := by
  refine F.ok sc_deed_carry (fun vs H Q E h => ?_) (fun cdv A outer s H vs Q E hr h => ?_)
  · obtain ⟨r, L, d, told, c, rfl, _⟩ := h
    rfl
  · obtain ⟨r, L, d, told, c, rfl, er, eL, ok, q⟩ := h
    refine ⟨_, pss_cons (ps_set (i := 3) sc_deed_carry.nd rfl (.inl rfl) (pe_ix ix_tup (pv 0) pe_int (fun _ _ => rfl)))
      (pss_cons (ps_if (pt_cmpR op_eq (pv 3) pe_str (nomark _)) (pss_one (ps_ret (pe_op op_and (pe_op op_sub pe_int (pe_ix ix_tup (pv 2) (pe_ix ix_tup (pv 0) pe_int (fun _ _ => rfl)) (fun _ _ => rfl))) (pv 1)))) pss_nil)
      (pss_cons (ps_if (pt_cmpR op_eq (pv 3) pe_str (nomark _)) (pss_one (ps_ret (pe_ix ix_tup (pv 2) (pe_ix ix_tup (pv 0) pe_int (fun _ _ => rfl)) (fun _ _ => rfl)))) pss_nil)
      (pss_cons (ps_if (pt_cmpR op_eq (pv 3) pe_str (nomark _)) (pss_one (ps_ret (pe_call GT hr (by rfl) gT kT bT .nil pass0 (pa_cons (pe_ix ix_tup (pv 2) (pe_ix ix_tup (pv 0) pe_int (fun _ _ => rfl)) (fun _ _ => rfl)) (pa_cons (pe_ix ix_tup (pv 2) (pe_ix ix_tup (pv 0) pe_int (fun _ _ => rfl)) (fun _ _ => rfl)) (pa_cons (pv 1) pa_nil)))))) pss_nil)
      (pss_cons (ps_if (pt_cmpR op_eq (pv 3) pe_str (nomark _)) (pss_one (ps_ret (pe_call GT hr (by rfl) gT kT bT .nil pass0 (pa_cons (pe_op op_sub pe_int (pe_ix ix_tup (pv 2) (pe_ix ix_tup (pv 0) pe_int (fun _ _ => rfl)) (fun _ _ => rfl))) (pa_cons (pe_ix ix_tup (pv 2) (pe_ix ix_tup (pv 0) pe_int (fun _ _ => rfl)) (fun _ _ => rfl)) (pa_cons (pv 1) pa_nil)))))) pss_nil)
      (pss_one (ps_ret pe_int)))))), ?_⟩
    unfold dcarAt dcar at q
    have lL : SqT K H L (told.map V.int) := SqT.of eL
    refine ⟨.ref r, rfl, r, _, 0, .str d.1, rfl, rfl, SqT.of er, dv0 d, ?_⟩
    refine ⟨.str d.1, rfl, rfl, _, rfl, ite2 (fun e => ?_) (fun n1 => ?_)⟩
    · rw [if_pos (strEq e)] at q
      have e2 := strEq e
      obtain ⟨i, hi, ai, ei⟩ := arg1 ok (by rw [e2]; decide +kernel) (by rw [e2]; decide +kernel) (by rw [e2]; decide +kernel)
      exact ⟨.ref L, rfl, .ref r, rfl, r, _, 1, .int i, rfl, rfl, SqT.of er, dvN (k := 0) hi, L, _, i, _, rfl, rfl, lL, ei, 1, _, rfl, rfl, .int c, rfl, _, _, rfl, rfl, q⟩
    rw [if_neg (strNe n1)] at q
    refine ⟨.str d.1, rfl, rfl, _, rfl, ite2 (fun e => ?_) (fun n2 => ?_)⟩
    · rw [if_pos (strEq e)] at q
      have e2 := strEq e
      obtain ⟨i, hi, ai, ei⟩ := arg1 ok (by rw [e2]; decide +kernel) (by rw [e2]; decide +kernel) (by rw [e2]; decide +kernel)
      exact ⟨.ref L, rfl, .ref r, rfl, r, _, 1, .int i, rfl, rfl, SqT.of er, dvN (k := 0) hi, L, _, i, _, rfl, rfl, lL, ei, q⟩
    rw [if_neg (strNe n2)] at q
    refine ⟨.str d.1, rfl, rfl, _, rfl, ite2 (fun e => ?_) (fun n3 => ?_)⟩
    · rw [if_pos (strEq e)] at q
      have e2 := strEq e
      obtain ⟨i, hi, ai, ei⟩ := arg1 ok (by rw [e2]; decide +kernel) (by rw [e2]; decide +kernel) (by rw [e2]; decide +kernel)
      obtain ⟨j, hj, aj, ej⟩ := arg2 ok (by rw [e2]; decide +kernel) (by rw [e2]; decide +kernel) (by rw [e2]; decide +kernel) (by rw [e2]; decide +kernel) (by rw [e2]; decide +kernel) (by rw [e2]; decide +kernel)
      exact ⟨.ref L, rfl, .ref r, rfl, r, _, 1, .int i, rfl, rfl, SqT.of er, dvN (k := 0) hi, L, _, i, _, rfl, rfl, lL, ei, .ref L, rfl, .ref r, rfl, r, _, 2, .int j, rfl, rfl, SqT.of er, dvN (k := 1) hj, L, _, j, _, rfl, rfl, lL, ej, .int c, rfl, _, _, c, rfl, q⟩
    rw [if_neg (strNe n3)] at q
    refine ⟨.str d.1, rfl, rfl, _, rfl, ite2 (fun e => ?_) (fun n4 => ?_)⟩
    · rw [if_pos (strEq e)] at q
      have e2 := strEq e
      obtain ⟨i, hi, ai, ei⟩ := arg1 ok (by rw [e2]; decide +kernel) (by rw [e2]; decide +kernel) (by rw [e2]; decide +kernel)
      obtain ⟨j, hj, aj, ej⟩ := arg2 ok (by rw [e2]; decide +kernel) (by rw [e2]; decide +kernel) (by rw [e2]; decide +kernel) (by rw [e2]; decide +kernel) (by rw [e2]; decide +kernel) (by rw [e2]; decide +kernel)
      exact ⟨.ref L, rfl, .ref r, rfl, r, _, 1, .int i, rfl, rfl, SqT.of er, dvN (k := 0) hi, L, _, i, _, rfl, rfl, lL, ei, 1, _, rfl, rfl, .ref L, rfl, .ref r, rfl, r, _, 2, .int j, rfl, rfl, SqT.of er, dvN (k := 1) hj, L, _, j, _, rfl, rfl, lL, ej, .int c, rfl, _, _, c, rfl, q⟩
    rw [if_neg (strNe n4)] at q
    exact q
theorem okd_more {m : Int} {i n : Nat} {d : Deed} (h : DeedOk (m + i) d) (hn : m + i ≤ n) : DeedOk n d := ⟨h.word, fun z hz => ⟨(h.ahead z hz).1, by have := (h.ahead z hz).2; omega⟩⟩
/-! ### carry_behind, steps, kept_steps -/
def spCb : Sp := fun vs H Q _ => ∃ (R C T : Addr) (m o : Int) (ds : List Deed) (cs told : List Int), vs = [.ref R, .ref C, .ref T] ∧ RowAt H R m ds o ∧ DsOk m ds ∧ ds.length ≤ 100 ∧ H C = some (.tup (cs.map V.int)) ∧ cs.length = ds.length ∧ H T = some (.tup (told.map V.int)) ∧ (told.length : Int) = m + ds.length ∧
  ∀ H' p, Same H H' → H p = none → H' p = some (.tup ((nxt ds cs told).map V.int)) → Q (.ref p) H'
theorem ok_cb {f fC : Addr} {fd fdC : FuncData} {k : Nat} (F : Fun K "carry_behind" "carry_behind" s_carry_behind f fd)
    (GC : FnOk P w K mg base CX0 (k + 2) fC fdC ["deed", "held", "told"] spDc) (kC : PySem.W.keepIn K (.ref fC) = true) (bC : Binds K fdC ["deed", "held", "told"] []) (gC : mg "deed_carry" = some (.ref fC)) (mt : mg "tuple" = none) (mz : mg "zip" = none) : FnOk P w K mg base CX0 (k + 3) f fd ["row", "carry", "told"] spCb := by
  refine F.ok sc_carry_behind (fun vs H Q E h => ?_) (fun cdv A outer s H vs Q E hr h => ?_)
  · obtain ⟨R, C, T, m, o, ds, cs, told, rfl, _⟩ := h
    rfl
  · obtain ⟨R, C, T, m, o, ds, cs, told, rfl, hrow, hok, hds, eC, hcl, eT, htl, q⟩ := h
    obtain ⟨D, rs, eR, eD, hd⟩ := id hrow
    refine ⟨_, pss_one (ps_ret (pe_callTy call_tuple_of (by rfl) mt (by decide +kernel) (pa_cons
        (pe_lc (own := [("deed", 3), ("held", 4)]) (g := gTup K 2 (gCons (gName 3) (gCons (gName 4) gNil))) (by rfl) sc_carry_behind.nd (RZ.pi_zipA (by rfl) mz (pa_cons (pe_ix ix_tup (pv 0) pe_int (fun _ _ => rfl)) (pa_cons (pv 1) pa_nil))) (blkOk_by (own := [("deed", 3), ("held", 4)]) (N := N_carry_behind) (sc := defScope s_carry_behind) (by decide +kernel))
          (fun _ _ _ _ _ => pg_tup rfl (pgs_cons (pg_name (i := 3) sc_carry_behind.nd rfl (.inl rfl)) (pgs_cons (pg_name (i := 4) sc_carry_behind.nd rfl (.inl rfl)) pgs_nil))) (fun _ _ _ _ _ => pts_nil)
          (fun _ _ _ _ _ => pe_call GC hr (by rfl) gC kC bC .nil pass0 (pa_cons (pv 3) (pa_cons (pv 4) (pa_cons (pv 2) pa_nil))))) pa_nil))), ?_⟩
    have lrs : (rs.map V.ref).length = ds.length := by rw [List.length_map, awLen hd]
    have lcs : (cs.map V.int).length = ds.length := by rw [List.length_map, hcl]
    refine ⟨.ref R, rfl, R, _, 1, .ref D, rfl, rfl, SqT.of eR, rfl, .ref C, rfl, D, C, _, _, rfl, .inr ⟨SqT.of eD, SqT.of eC, fun L hL => ?_⟩⟩
    refine lc_it (walk_zipT (K := K) (a := D) (b := C) (xs := rs.map V.ref) (ys := cs.map V.int) (lrs.trans lcs.symm)) (fun i H4 => H4 L = some (.lst (((nxt ds cs told).take i).map V.int)) ∧ Same H H4) ⟨upd_same, same_new hL⟩ (fun i H4 _ hp => ⟨SqT.of (hp.2 _ _ eD), SqT.of (hp.2 _ _ eC)⟩) (fun i x H4 H5 hi hp hy => ?_) (fun H4 hp => ?_)
    · obtain ⟨eL, sm⟩ := hp
      obtain ⟨U, x1, x2, rfl, hU, rfl, g1, g2⟩ := hy
      have hi2 : i < rs.length := by rwa [List.length_map] at hi
      have hx' : x1 = .ref rs[i] := by
        have g1' : (rs.map V.ref)[i]? = some x1 := g1
        rw [List.getElem?_map, List.getElem?_eq_getElem hi2] at g1'
        exact (Option.some.inj g1').symm
      subst hx'
      obtain ⟨d, hd1, hd2⟩ := awGet hd (List.getElem?_eq_getElem hi2)
      obtain ⟨c, hc, rfl⟩ : ∃ c, cs[i]? = some c ∧ x2 = .int c := by
        have g2' : (cs.map V.int)[i]? = some x2 := g2
        rw [List.getElem?_map] at g2'
        cases e : cs[i]? with
        | none => rw [e] at g2'; cases g2'
        | some c => rw [e] at g2'; exact ⟨c, rfl, (Option.some.inj g2').symm⟩
      have h2 : i < ds.length := by
        rw [← awLen hd]
        exact hi2
      have okd : DeedOk told.length d := okd_more (hok.each i d hd1) (by omega)
      have sU := same_new (o := .tup [.ref rs[i], .int c]) hU
      refine ⟨U, [.ref rs[i], .int c], rfl, .inl (.inl upd_same), rfl, .ref rs[i], [.int c], rfl, .int c, [], rfl, rfl, rfl, ?_⟩
      refine ⟨.ref rs[i], rfl, .int c, rfl, .ref T, rfl, rs[i], T, d, _, c, rfl, sU _ _ (sm _ _ hd2), sU _ _ (sm _ _ eT), okd, _, sU _ _ eL, ?_, ?_, ?_⟩
      · rw [List.length_map, List.length_take, nxt_len hcl.symm]
        exact small1000 (by omega)
      · rw [upd_same, nxt_next hd1 hc, List.map_append]
        rfl
      · intro b u e
        rw [upd_ne (ne_of_none e hL)]
        exact sU b u (sm b u e)
    · obtain ⟨eL, sm⟩ := hp
      rw [lrs, ← nxt_len (t := told) hcl.symm, List.take_length] at eL
      refine ⟨L, _, rfl, .inl ⟨.inl (.inl eL), fun p hp => ?_⟩⟩
      exact q _ p (sm.trans (same_new hp)) (sm.free hp) upd_same
/-! ### next_carry by carry_behind -/
def spNc : Sp := fun vs H Q _ => ∃ (R C B : Addr) (m o : Int) (ds : List Deed) (cs bs : List Int), vs = [.ref R, .ref C, .ref B] ∧ RowAt H R m ds o ∧ DsOk m ds ∧ ds.length ≤ 100 ∧ H C = some (.tup (cs.map V.int)) ∧ cs.length = ds.length ∧ H B = some (.tup (bs.map V.int)) ∧ (bs.length : Int) = m ∧ bs.length ≤ 100 ∧
  ∀ H' p, Same H H' → H p = none → H' p = some (.tup ((nxt ds cs (bts ds cs bs)).map V.int)) → Q (.ref p) H'
theorem ok_nc {f fB fC : Addr} {fd fdB fdC : FuncData} {k : Nat} (F : Fun K "next_carry" "next_carry" s_next_carry f fd) (GB : FnOk P w K mg base CX0 (k + 2) fB fdB ["row", "carry", "bits"] spBo) (kB : PySem.W.keepIn K (.ref fB) = true) (bB : Binds K fdB ["row", "carry", "bits"] []) (gB : mg "bits_of" = some (.ref fB))
    (GC : FnOk P w K mg base CX0 (k + 3) fC fdC ["row", "carry", "told"] spCb) (kC : PySem.W.keepIn K (.ref fC) = true) (bC : Binds K fdC ["row", "carry", "told"] []) (gC : mg "carry_behind" = some (.ref fC)) : FnOk P w K mg base CX0 (k + 4) f fd ["row", "carry", "bits"] spNc := by
  refine F.ok sc_next_carry (fun vs H Q E h => ?_) (fun cdv A outer s H vs Q E hr h => ?_)
  · obtain ⟨R, C, B, m, o, ds, cs, bs, rfl, _⟩ := h
    rfl
  · obtain ⟨R, C, B, m, o, ds, cs, bs, rfl, hrow, hok, hds, eC, hcl, eB, hm, hbl, q⟩ := h
    have r2 := hr.mono (show k + 2 ≤ k + 3 by omega)
    refine ⟨_, pss_one (ps_ret (pe_call GC hr (by rfl) gC kC bC .nil pass0 (pa_cons (pv 0) (pa_cons (pv 1) (pa_cons (pe_call GB r2 (by rfl) gB kB bB .nil pass0 (pa_cons (pv 0) (pa_cons (pv 1) (pa_cons (pv 2) pa_nil)))) pa_nil))))), ?_⟩
    have tl : (bts ds cs bs).length = bs.length + ds.length := bts_len hcl.symm
    refine ⟨.ref R, rfl, .ref C, rfl, .ref R, rfl, .ref C, rfl, .ref B, rfl, R, C, B, m, o, ds, cs, bs, rfl, hrow, hok, hds, eC, hcl, eB, hm, hbl, fun H1 T s1 hT eT => ?_⟩
    refine ⟨R, C, T, m, o, ds, cs, _, rfl, (Same.tups s1).row hrow, hok, hds, s1 _ _ eC, hcl, eT, by omega, fun H2 p s2 np ep => ?_⟩
    exact q H2 p (s1.trans s2) (s1.free np) ep
/-! ### sets of tuples of ints: made, asked, added to, sorted -/
section sets
variable {A : Around} {E : Value → Shared → Prop} {s : Shared} {a : Addr} {L : List (Addr × List Int)} {es : Array (Int × Value)} {ep : Nat} {M : SetTable}
/-- the way of a tuple's hash -/
abbrev wayN (M : SetTable) (h : Int) (n : Nat) : SetTable.Probe := nth M.mask (runAt M.mask (SetTable.bits h % (M.mask + 1)) (SetTable.bits h)) n
theorem wayN_dummy (M : SetTable) (h : Int) (n : Nat) : (wayN M h n).dummy = none := by
  have key : ∀ (n : Nat) (q : SetTable.Probe), q.dummy = none → (nth M.mask q n).dummy = none := by
    intro n
    induction n with
    | zero => exact fun _ z => z
    | succ n ih =>
      intro q z
      apply ih
      unfold adv
      split
      · exact z
      · exact z
  exact key n _ rfl
theorem find_from (R : SetTR P w s.heap a L es ep M) {x : Addr} {k : List Int} (hx : IsT P w s.heap k x) (hu : A.units < cLine) {N : Nat} (nf : N < 10 * SetTable.turns M.mask)
    (n0 : way M.mask (thash P w k) N ∉ M.place.toList) (n1 : ∀ c, c < N → way M.mask (thash P w k) c ∈ M.place.toList) {Q : SetFound → Shared → Prop}
    (yes : ∀ i, k ∈ L.map (·.2) → Q (.there (some i)) s) (no : ∀ i, k ∉ L.map (·.2) → Q (.free i false) s) :
    ∀ (f c : Nat) (st : Option SetTable.Probe), st.getD (M.probeStart (thash P w k)) = wayN M (thash P w k) c → c ≤ N → N - c < f →
      (∀ (i : Nat) p, L[i]? = some p → p.2 = k → ∃ c', c ≤ c' ∧ c' < N ∧ M.place.toList[i]? = some (way M.mask (thash P w k) c')) →
      wpAny (model P w) A (setSearchFrom a (.ref x) (thash P w k) false f st) Q E s
  | 0, _, _, _, _, z, _ => absurd z (Nat.not_lt_zero _)
  | f + 1, c, st, hst, hc, hf, met => by
    obtain ⟨o, g1, g2, g3⟩ := R.ob
    rw [setSearchFrom_succ]
    apply wpAny_bind
    refine wpAny_setState_of g1 g3 R.fits ?_
    dsimp only
    refine wp_if_neg R.gw ?_
    have shift : ∀ q, nth M.mask (wayN M (thash P w k) c) q = wayN M (thash P w k) (c + q) := fun q => (nth_add M.mask c _ q).symm
    have slot : ∀ q, (nth M.mask (wayN M (thash P w k) c) q).j = way M.mask (thash P w k) (c + q) := fun q => congrArg SetTable.Probe.j (shift q)
    have answers := go_spec M R.tab.ris R.tab.dm (fun i => (es[i]?.map (·.1)).getD 0) (thash P w k) (10 * SetTable.turns M.mask) (N - c) _ (wayN_dummy M (thash P w k) c) (by omega)
      (fun q hq => by rw [slot]; exact n1 _ (by omega)) (by rw [slot, show c + (N - c) = N by omega]; exact n0)
    have hashed : ∀ (i : Nat) p, L[i]? = some p → (fun i => (es[i]?.map (·.1)).getD 0) i = thash P w p.2 := fun i p z => by
      show (es[i]?.map (·.1)).getD 0 = _
      rw [R.entry z]
      rfl
    rcases answers with ⟨q, i, hq, hi, _, past, ans⟩ | ⟨past, ans⟩
    · have ans2 : M.probe (fun i => (es[i]?.map (·.1)).getD 0) (thash P w k) (st.getD (M.probeStart (thash P w k))) = some (.candidate (way M.mask (thash P w k) (c + q)) i (wayN M (thash P w k) (c + (q + 1)))) := by
        rw [hst, ← slot, ← shift]
        exact ans
      rw [ans2]
      dsimp only
      rw [slot] at hi
      have il : i < L.length := by
        have z1 := (List.getElem?_eq_some_iff.mp hi).1
        have z2 := R.tab.sz
        rw [List.length_map] at z2
        rw [Array.length_toList, z2] at z1
        exact z1
      obtain ⟨p, hp⟩ : ∃ p, L[i]? = some p := ⟨_, List.getElem?_eq_getElem il⟩
      have pm : p ∈ L := List.mem_of_getElem? hp
      have rest : wpAny (model P w) A (searchRest a (.ref x) (thash P w k) false f es M (way M.mask (thash P w k) (c + q)) i (wayN M (thash P w k) (c + (q + 1)))) Q E s := by
        unfold searchRest
        rw [R.entry hp]
        dsimp only
        apply wpAny_bind
        apply wpAny_holding
        refine wpAny_eqBool_tuple hu (R.tup p pm) hx ?_
        apply wpAny_bind
        refine wpAny_setState_of g1 g3 R.fits ?_
        dsimp only
        refine wp_if_neg (by simp) ?_
        rw [sameMem]
        dsimp only
        have live : M.slot (way M.mask (thash P w k) (c + q)) = .live i := slot_live R.tab.ris hi
        simp only [if_true, live, R.entry hp]
        apply wpAny_bind
        apply wpAny_isSame_ref_self
        apply wpAny_bind
        apply wpAny_pure
        simp only [if_true]
        by_cases same : p.2 = k
        · refine wp_if_pos (by simp [same]) ?_
          exact wpAny_pure (yes i (List.mem_map.mpr ⟨p, pm, same⟩))
        · refine wp_if_neg (by simp [same]) ?_
          refine find_from R hx hu nf n0 n1 yes no f (c + (q + 1)) _ rfl (by omega) (by omega) fun j p' hj hk' => ?_
          obtain ⟨c', b1, b2, b3⟩ := met j p' hj hk'
          refine ⟨c', ?_, b2, b3⟩
          by_cases z : c + (q + 1) ≤ c'
          · exact z
          exfalso
          by_cases z2 : c' = c + q
          · rw [z2] at b3
            have l2 := slot_live R.tab.ris b3
            rw [live] at l2
            injection l2 with l2
            rw [← l2, hp] at hj
            exact same ((congrArg Prod.snd (Option.some.inj hj)).trans hk')
          · exact past (c' - c) j (by omega) (by rw [slot, show c + (c' - c) = c' by omega]; exact b3) ((hashed j p' hj).trans (congrArg (thash P w) hk'))
      by_cases led : M.led = true
      · refine wp_if_neg (by simp [led]) ?_
        exact rest
      · refine wp_if_pos (by simp [led]) ?_
        apply wpAny_bind
        refine seen_tup hx (fun y hy => ?_) ?_
        · obtain ⟨e1, m1, rfl⟩ := List.mem_map.mp hy
          have m2 : e1 ∈ es.toList := by
            have z : e1 ∈ es ∧ e1.1 = thash P w k := by simpa using m1
            simpa using z.1
          rw [R.rows] at m2
          obtain ⟨p2, m3, rfl⟩ := List.mem_map.mp m2
          exact ⟨_, _, rfl, R.tup _ m3⟩
        · refine wp_if_neg (by decide) ?_
          exact rest
    · have ans2 : M.probe (fun i => (es[i]?.map (·.1)).getD 0) (thash P w k) (st.getD (M.probeStart (thash P w k))) = some (.empty (way M.mask (thash P w k) N) none) := by
        have z : way M.mask (thash P w k) N = (nth M.mask (wayN M (thash P w k) c) (N - c)).j := by rw [slot, show c + (N - c) = N by omega]
        rw [hst, z]
        exact ans
      rw [ans2]
      dsimp only
      refine wpAny_pure (no _ fun z => ?_)
      obtain ⟨p, pm, hk'⟩ := List.mem_map.mp z
      obtain ⟨j, hj⟩ := List.mem_iff_getElem?.mp pm
      obtain ⟨c', b1, b2, b3⟩ := met j p hj hk'
      exact past (c' - c) j (by omega) (by rw [slot, show c + (c' - c) = c' by omega]; exact b3) ((hashed j p hj).trans (congrArg (thash P w) hk'))
theorem find_at (R : SetTR P w s.heap a L es ep M) {x : Addr} {k : List Int} (hx : IsT P w s.heap k x) (hu : A.units < cLine) {Q : Option Nat → Shared → Prop}
    (q : ∀ r, r.isSome = decide (k ∈ L.map (·.2)) → Q r s) : wpAny (model P w) A (setFind a (.ref x) (thash P w k)) Q E s := by
  obtain ⟨o, g1, g2, g3⟩ := R.ob
  have room := R.room
  obtain ⟨N, nf, n0, n1⟩ := R.tab.first (by rw [List.length_map]; omega) (thash P w k)
  have big : N < 100000 := by
    have z : 10 * SetTable.turns M.mask ≤ 1420 := by
      unfold SetTable.turns
      rcases R.tab.mok with z | z | z <;> rw [z] <;> decide
    omega
  unfold setFind
  rw [show (100000 : Nat) = 99999 + 1 from rfl]
  unfold setFindIn
  apply wpAny_bind
  refine wpAny_setState_of g1 g3 R.fits ?_
  dsimp only
  refine wp_if_neg (by simp [byScan, Value.scannable]) ?_
  apply wpAny_bind
  unfold setSearch
  refine find_from R hx hu nf n0 n1 (fun i z => ?_) (fun i z => ?_) 100000 0 none rfl (Nat.zero_le _) (by omega) fun i p hp hk' => ?_
  · exact wpAny_pure (q (some i) (by rw [decide_eq_true z]; rfl))
  · exact wpAny_pure (q none (by rw [decide_eq_false z]; rfl))
  · have il : i < M.place.toList.length := by
      have z1 := (List.getElem?_eq_some_iff.mp hp).1
      have z2 := R.tab.sz
      rw [List.length_map] at z2
      rw [Array.length_toList, z2]
      exact z1
    have hj := List.getElem?_eq_getElem il
    obtain ⟨c, hc, e⟩ := R.tab.before (h := thash P w k) n0 (by rw [List.getElem?_map, hp, ← hk']; rfl) hj
    exact ⟨c, Nat.zero_le _, hc, by rw [hj, e]⟩
theorem SetTR.ty (R : SetTR P w s.heap a L es ep M) : s.TypeIs (.ref a) "set" := by
  obtain ⟨o, g1, g2, g3⟩ := R.ob
  exact ⟨o, g1, g2.1⟩
theorem ask_set (R : SetTR P w s.heap a L es ep M) {x : Addr} {k : List Int} (hx : IsT P w s.heap k x) (hu : A.units + 1 < cLine) {Q : Bool → Shared → Prop}
    (q : Q (decide (k ∈ L.map (·.2))) { s with toks := s.toks + (k.length + 1) }) : wpAny (model P w) A (contains (.ref a) (.ref x)) Q E s := by
  unfold contains
  apply wpAny_holding
  apply wpAny_bind
  refine wpAny_specialOf (SetTR.ty R) F.slot_set_contains.lookup ?_
  show wpAny _ _ (if (some (Value.builtin "set.__contains__") == some Value.none) = true then _ else _) _ E s
  rw [if_neg (by rw [beq_builtin_none]; decide)]
  apply wpAny_bind
  refine wpAny_callSpecialUnlessNone?_slot (name := Str.ofString "__contains__") (SetTR.ty R) F.slot_set_contains ?_
  refine wpAny_call_entry F.slot_set_contains (SetTR.ty R) entry_set_contains ?_ (F.args_set_contains_2 _ _)
  unfold Builtin.«frozenset.__contains__» Builtin.Frozenset.oneOther
  simp only [List.isEmpty_nil, bind_assoc]
  unfold Builtin.Frozenset.addrOf Builtin.Frozenset.withSetAsKey setContains
  apply wpAny_bind
  apply wpAny_pure
  try dsimp only
  apply wpAny_bind
  apply wpAny_pure
  try dsimp only
  apply wpAny_bind
  apply wpAny_tryCatch
  apply wpAny_holding
  apply wpAny_bind
  refine wpAny_pyHash_tuple (by show A.units + 1 < cLine; exact hu) hx ?_
  apply wpAny_bind
  refine find_at (s := { s with toks := s.toks + (k.length + 1) }) R hx (by show A.units + 1 < cLine; exact hu) fun r hr => ?_
  apply wpAny_pure
  show wpAny _ _ (ret (Value.bool r.isSome)) _ _ _
  rw [hr]
  exact wpAny_pure ⟨_, rfl, wpAny_truthy_bool q⟩
theorem add_set (R : SetTR P w s.heap a L es ep M) {x : Addr} {k : List Int} (hx : IsT P w s.heap k x) (hu : A.units + 1 < cLine) (few : L.length + 1 < 64) {Q : Value → Shared → Prop}
    (q : ∀ h' L' es' ep' t', Heap.SameBut a s.heap h' → SetTR P w h' a L' es' ep' t' → (k ∈ L.map (·.2) → L' = L) → (k ∉ L.map (·.2) → L'.Perm ((x, k) :: L)) → Q .none { s with heap := h', toks := s.toks + (k.length + 1) }) :
    wpAny (model P w) A (call (.builtin "set.add") [.ref a, .ref x]) Q E s := by
  refine wpAny_call_entry F.slot_set_add (SetTR.ty R) F.entry_set_add ?_ (F.args_set_add_2 _ _)
  unfold Builtin.«set.add» Builtin.Frozenset.oneOther
  simp only [List.isEmpty_nil, bind_assoc]
  unfold Builtin.Frozenset.addrOf setAdd
  apply wpAny_bind
  apply wpAny_pure
  try dsimp only
  apply wpAny_bind
  apply wpAny_pure
  try dsimp only
  apply wpAny_bind
  apply wpAny_holding
  apply wpAny_bind
  refine wpAny_pyHash_tuple (by show A.units + 1 < cLine; exact hu) hx ?_
  refine add_at (s := { s with toks := s.toks + (k.length + 1) }) R hx (by show A.units + 1 < cLine; exact hu) few fun b h' L' es' ep' t' z1 z2 z3 z4 => ?_
  show wpAny _ _ (ret Value.none) _ _ _
  exact wpAny_pure ⟨_, rfl, q h' L' es' ep' t' z1 z2 z3 z4⟩
theorem perm_one {α : Type} : ∀ {l k : List α}, l.Perm k → l.length ≤ 1 → l = k
  | [], k, h, _ => (List.nil_perm.mp h).symm
  | [v], k, h, _ => List.singleton_perm.mp h
  | _ :: _ :: _, _, _, h => by simp at h
/-- sorted of a set of at most one tuple -/
theorem sort_set1 {Q : Value → Shared → Prop} (R : SetTR P w s.heap a L es ep M) (hh : A.handled = none) (one : L.length ≤ 1)
    (q : ∀ s' p (out : Array Value) (c : Nat), (∀ b o, s.heap.get? b = some o → s'.heap.get? b = some o) → s'.gens = s.gens → s'.os = s.os → s.heap.objs.size ≤ p →
      s'.heap.get? p = some (seqObj "list" out c) → out.toList = L.map (fun z => Value.ref z.1) → Q (.ref p) s') :
    wpAny (model P w) A (call (.builtin "sorted") [.ref a]) Q E s := by
  obtain ⟨o, g1, g2, g3⟩ := R.ob
  have sz := R.size
  refine Calls.call_function_entry kind_sorted plain_sorted entry_sorted (args_sorted1 _) ?_
  unfold Builtin.«sorted»
  refine wpAny_bind (m := checkCount "sorted" 1 1 _) ?_
  apply wpAny_pure
  apply wpAny_bind
  refine collect_set (A := A.in1) hh ⟨o, g1, g2.1, g3⟩ R.fits (by unfold scanBound; omega) R.tab.ris R.led fun s1 vs k1 hz gz oz pm => ?_
  have hes : es.toList.map (·.2) = L.map fun z => Value.ref z.1 := by
    rw [R.rows]
    unfold rowsOf
    rw [List.map_map]
    rfl
  rw [hes] at pm
  have hvl : vs.length ≤ 1 := by rw [pm.length_eq, List.length_map]; exact one
  have hvs : vs = L.map fun z => Value.ref z.1 := perm_one pm hvl
  apply wpAny_bind
  refine wpAny_newList ?_ (by rw [sizeLine_eq]; omega)
  have hoL : (s1.heap.push (seqObj "list" vs.toArray 0)).get? s1.heap.objs.size = some (seqObj "list" vs.toArray 0) := Heap.get?_push_size _ rfl
  apply wpAny_bind
  apply wpAny_holding
  refine wpAny_call_entry slot_list_sort ⟨_, hoL, rfl⟩ entry_list_sort (SK.plain_sort (r := fun _ => 0) (s := { s1 with heap := s1.heap.push (seqObj "list" vs.toArray 0) }) hoL (by omega) (fun h2 => absurd h2 (by omega)) fun ps out z1 z2 z3 => ⟨_, rfl, ?_⟩) (args_list_sort _)
  obtain ⟨c, hc⟩ := sortedHeap_at (vs := vs) (out := out) hoL
  have hout : out.toList = L.map fun z => Value.ref z.1 := by
    rw [← hvs, z1, perm_one z2 (by rw [z2.length_eq, List.length_zip]; omega)]
    exact List.map_snd_zip (Nat.le_refl _)
  refine wpAny_pure ⟨_, rfl, q _ s1.heap.objs.size out c (fun b u e => ?_) gz oz hz hc hout⟩
  have e2 := k1 b u e
  have lt := Heap.lt_size e2
  show (sortedHeap (s1.heap.push (seqObj "list" vs.toArray 0)) s1.heap.objs.size vs out).get? b = some u
  rw [sortedHeap_old (Nat.ne_of_lt lt) (by rw [size_push']; exact Nat.lt_succ_of_lt lt)]
  exact Heap.get?_push_of_some _ e2
end sets
section setrules
variable {X : Cx}
/-- the set at a of the tuples in L -/
def STt (X : Cx) (H : Hp) (a : Addr) (L : List (Addr × List Int)) : Prop := H a = some (SetTO X.prog X.w a L) ∧ ∀ p ∈ L, SqT X.K H p.1 (p.2.map V.int)
theorem STt.full {pins : List (Addr × Obj)} {σ : L2.St} {H : Hp} {s : Shared} {a : Addr} {L : List (Addr × List Int)} (I : Inv X pins σ H s) (h : STt X H a L) : ∃ es ep M, SetTR X.prog X.w s.heap a L es ep M := by
  have R0 : SetT0 X.prog X.w s.heap a L := (I.hok a _ h.1).1
  exact R0.full fun p hp => I.isT (h.2 p hp)
def rSet0T (P : Program) (w : World) : List V → Hp → VK → Prop := fun xs H Q => xs = [] ∧ ∀ p, H p = none → Q (.ref p) (upd H p (SetTO P w p []))
theorem cr_set0T : CallR X (.type "set") (rSet0T X.prog X.w) := by
  intro pins s σ H xs us Q I r h
  obtain ⟨rfl, q⟩ := h
  cases r
  refine setR_new fun _ => ?_
  have new := setTR_fresh (P := X.prog) (w := X.w) (h := s.heap.push { cls := .type "set", dict := none, data := .set #[] 0 (.fresh 0 0 (!X.w.params.followText "set-order")) }) (a := s.heap.objs.size) (Heap.get?_push_size _ rfl)
  exact ⟨.ref _, upd H s.heap.objs.size (SetTO X.prog X.w s.heap.objs.size []), I.laid (t' := s.toks) (fun b u e => Heap.get?_push_of_some _ e) (Nat.le_refl _) (setTO_new new.t0), rfl, q _ (I.hok.fresh (Nat.le_refl _))⟩
def rSAddT (X : Cx) : V → List V → Hp → VK → Prop := fun x xs H Q => ∃ (a t : Addr) (k : List Int) (L : List (Addr × List Int)), x = .ref a ∧ xs = [.ref t] ∧ STt X H a L ∧ SqT X.K H t (k.map V.int) ∧ L.length + 1 < 64 ∧
  ∀ L', (k ∈ L.map (·.2) → L' = L) → (k ∉ L.map (·.2) → L'.Perm ((t, k) :: L)) → Q .non (upd H a (SetTO X.prog X.w a L'))
theorem mt_saddT (hu : X.A.units + 1 < cLine) : MtR X "set.add" (rSAddT X) := by
  intro pins s σ H x xs v us Q I rx rxs h
  obtain ⟨a, t, k, L, rfl, rfl, ha, hk, few, q⟩ := h
  cases rx
  cases rxs with
  | cons ry rt =>
    cases rt
    cases ry
    obtain ⟨es, ep, M, R⟩ := ha.full I
    refine add_set R (I.isT hk) hu few fun h' L' es' ep' t' sb new z1 z2 => ?_
    obtain ⟨o, g1, _⟩ := new.ob
    exact ⟨.non, _, I.write (e := a) (t' := s.toks + (k.length + 1)) (by rw [ha.1]; trivial) (.inl rfl) (fun b u hb hu => (sb.2 b hb).trans hu) ⟨o, g1⟩ (setTO_new new.t0), rfl, q L' z1 z2⟩
def tSAddT (X : Cx) (to : TE) (t : TA) : TE := fun σ H Q => to σ H fun x H1 => (∃ a L, x = V.ref a ∧ STt X H1 a L) ∧ t σ H1 fun xs H2 => rSAddT X x xs H2 Q
theorem pe_saddT {o e : Expr} {es : List Expr} {to : TE} {t : TA} {apos cpos : Pos} (hu : X.A.units + 1 < cLine) (ho : PE X o to) (ha : PA X (e :: es) t)
    (c1 : attributeBase o "add" X.env (eval o X.env) = eval o X.env := by rfl)
    (c2 : ((backTo cpos (starEach (e :: es) X.env)).all (fun x => !x.1) && (backToKw cpos (keywordEach [] X.env)).all (fun x => x.1.isSome) && decide ((e :: es).length + ([] : List Keyword).length + (if ([] : List Keyword).isEmpty then 0 else 1) < 30)) = true := by rfl)
    (c3 : (apos.endLine == cpos.line) = true := by rfl) (c4 : starEach (e :: es) X.env = (false, eval e X.env) :: starEach es X.env := by rfl) (c5 : (backTo cpos (starEach es X.env)).any (·.1) = false := by rfl) :
    PE X (.Call (.Attribute o "add" apos) (e :: es) [] cpos) (tSAddT X to t) := by
  constructor
  intro pins s σ H Q I h
  refine wpAny_Call_method_late c1 c2 c3 rfl (thn (ho.run pins s σ H _ I h) fun v s1 ⟨x, H1, I1, r1, ty, q1⟩ => ?_)
  obtain ⟨a, L, rfl, hka⟩ := ty
  obtain ⟨es', ep, M, R⟩ := hka.full I1
  cases r1
  obtain ⟨ob, g1, g2, g3⟩ := R.ob
  refine ⟨"set", "set.add", F.plainAttrs_set, F.slot_set_add, F.type_set_add, SetTR.ty R, (fun z e => ⟨ob, by injection e with e; rw [← e]; exact g1, g2.2.1⟩), ?_⟩
  have hA := ha.run cpos pins s1 σ H1 _ I1 q1
  rw [c4] at hA ⊢
  refine Calls.callWith_builtin (by show (false || (backTo cpos (starEach es X.env)).any (·.1)) = false; rw [c5]; rfl) (Calls.evalArgs_plain ?_)
  exact thn hA fun us s2 ⟨vs, H2, I2, r2, q2⟩ => mt_saddT hu pins s2 σ H2 (.ref a) vs (.ref a) us Q I2 rfl r2 q2
def rSInT (X : Cx) (neg : Bool) : V → V → Hp → VK → Prop := fun x y H Q => ∃ (a t : Addr) (k : List Int) (L : List (Addr × List Int)), x = .ref t ∧ y = .ref a ∧ STt X H a L ∧ SqT X.K H t (k.map V.int) ∧ Q (.bl (if neg then !decide (k ∈ L.map (·.2)) else decide (k ∈ L.map (·.2)))) H
theorem or_sinT (hu : X.A.units + 1 < cLine) : OpR X (compareOp .In) (rSInT X false) := by
  intro pins s σ H x y v u Q I rx ry h
  obtain ⟨a, t, k, L, rfl, rfl, ha, hk, q⟩ := h
  cases rx
  cases ry
  obtain ⟨es, ep, M, R⟩ := ha.full I
  show wpAny _ _ (do return Value.bool (← contains (.ref a) (.ref t))) _ _ s
  apply wpAny_bind
  exact ask_set R (I.isT hk) hu (wpAny_pure ⟨.bl _, H, I.tok _, rfl, q⟩)
theorem or_snotinT (hu : X.A.units + 1 < cLine) : OpR X (compareOp .NotIn) (rSInT X true) := by
  intro pins s σ H x y v u Q I rx ry h
  obtain ⟨a, t, k, L, rfl, rfl, ha, hk, q⟩ := h
  cases rx
  cases ry
  obtain ⟨es, ep, M, R⟩ := ha.full I
  show wpAny _ _ (do return Value.bool (!(← contains (.ref a) (.ref t)))) _ _ s
  apply wpAny_bind
  exact ask_set R (I.isT hk) hu (wpAny_pure ⟨.bl _, H, I.tok _, rfl, q⟩)
/-- sorted of a set of tuples of d bits -/
def rSortA (X : Cx) : List V → Hp → VK → Prop := fun vs H Q => ∃ (a : Addr) (L : List (Addr × List Int)) (d : Nat) (B : Int), vs = [V.ref a] ∧ STt X H a L ∧ (∀ p ∈ L, p.2.length = d ∧ TS.Bd B p.2) ∧
  ∀ (L' : List (Addr × List Int)) (p : Addr), L'.Perm L → (L'.map (·.2)).Nodup → L'.Pairwise (fun q r => TS.code B q.2 ≤ TS.code B r.2) → H p = none → Q (.ref p) (upd H p (.lst (L'.map fun q => V.ref q.1)))
theorem cr_sortA (hc : X.calm = true) : CallR X (.builtin "sorted") (rSortA X) := by
  intro pins s σ H vs us Q I r h
  obtain ⟨a, L, d, B, rfl, ha, hB, q⟩ := h
  obtain ⟨es, ep, M, R⟩ := ha.full I
  by_cases hd : 1 ≤ d
  · exact cr_sortedT hc pins s σ H _ us Q I r ⟨a, L, d, B, rfl, ha.1, ha.2, hd, hB, fun L' p z1 z2 z3 z4 z5 => q L' p z1 z2 z4 z5⟩
  · have all : ∀ p ∈ L, p.2 = [] := fun p hp => List.eq_nil_of_length_eq_zero (by have := (hB p hp).1; omega)
    have one : L.length ≤ 1 := by
      have nd := R.nd
      match L, nd, all with
      | [], _, _ => exact Nat.zero_le _
      | [_], _, _ => exact Nat.le_refl _
      | p :: p' :: _, nd, all =>
        rw [List.map_cons, List.map_cons, List.nodup_cons] at nd
        exact absurd (by rw [all p List.mem_cons_self, all p' (by simp)]; exact List.mem_cons_self) nd.1
    have few := R.few
    rw [Vals.ref1 r]
    refine sort_set1 R (I.ok.hd hc) one fun s' p out c k g o hp hg hout => ?_
    have hn : H p = none := I.hok.fresh hp
    have hv : Vals (L.map fun z => V.ref z.1) out.toList := by rw [hout]; exact vals_of_refs L
    have J : Inv X pins σ (upd H p (.lst (L.map fun z => V.ref z.1))) { s with heap := s'.heap, gens := s'.gens, drawn := s'.drawn, toks := s'.toks } :=
      I.call (ch := []) (Un.laid k hp hn) (I.hok.laid k hp ⟨by rw [List.length_map, sizeLine_eq]; omega, out.toList, c, hv, hg⟩) (by rw [g]; exact I.bare) (fun _ z => nomatch z)
    have e : s' = { s with heap := s'.heap, gens := s'.gens, drawn := s'.drawn, toks := s'.toks } := by
      cases s'
      cases s
      cases o
      rfl
    rw [e]
    refine ⟨.ref p, _, J, rfl, q L p (List.Perm.refl _) R.nd ?_ hn⟩
    match L, one with
    | [], _ => exact List.Pairwise.nil
    | [_], _ => exact List.pairwise_singleton _ _
    | _ :: _ :: _, h => simp at h
end setrules
/-! ### zip of a list and a tuple -/
section zipm
def ItzM (K : PySem.W.Frag) (a b : Addr) : It where
  go := fun i H => ∃ (xs ys : List V) (x y : V), SqL K H a xs ∧ SqT K H b ys ∧ xs[i]? = some x ∧ ys[i]? = some y
  yld := fun i H v H' => ∃ T x y, v = .ref T ∧ H T = none ∧ H' = upd H T (.tup [x, y]) ∧ (∀ xs, SqL K H a xs → xs[i]? = some x) ∧ ∀ ys, SqT K H b ys → ys[i]? = some y
  stop := fun i H => ∃ xs ys : List V, SqL K H a xs ∧ SqT K H b ys ∧ i ≤ xs.length ∧ i ≤ ys.length ∧ (i = xs.length ∨ i = ys.length)
theorem turn_zipM {elts : List Expr} {kk : Nat} {tpos : Pos} {a b z TI TO j1 j2 : Addr} (D : ZipSep2 z TI TO j1 j2 [j1, a] [j2, b]) (na : a ≠ j1) (nb : b ≠ j2) :
    Turn P w K (.Tuple elts kk tpos) (ItzM K a b) [z, TI, TO, j1, j2] z (fun i h => IsZip h z TI TO .none ∧ IsTupOf2 h TI (.ref j1) (.ref j2) ∧ (∃ x y, IsTupOf2 h TO x y) ∧ h.IsListIter j1 a i ∧ h.IsTupleIter j2 b i) where
  mem := List.mem_cons_self
  obj := by
    rintro i h ⟨c1, c2, ⟨x, y, c3⟩, ⟨o1, e1, _, d1⟩, ⟨o2, e2, _, d2⟩⟩ c hc
    simp only [List.mem_cons, List.not_mem_nil, or_false] at hc
    rcases hc with rfl | rfl | rfl | rfl | rfl
    · exact ⟨_, c1, fun v z => nomatch z⟩
    · exact ⟨_, c2, fun v z => nomatch z⟩
    · exact ⟨_, c3, fun v z => nomatch z⟩
    · exact ⟨o1, e1, fun v z => by rw [d1] at z; cases z⟩
    · exact ⟨o2, e2, fun v z => by rw [d2] at z; cases z⟩
  keep := by
    rintro i h h' ⟨c1, c2, ⟨x, y, c3⟩, c4, c5⟩ k
    exact ⟨k z (by simp) _ c1, k TI (by simp) _ c2, ⟨x, y, k TO (by simp) _ c3⟩, c4.at fun o e => k j1 (by simp) o e, c5.at fun o e => k j2 (by simp) o e⟩
  item := by
    intro X hP hw hK hc i pins s σ H E I hf st hg
    subst hP hw hK
    obtain ⟨c1, c2, ⟨x0, y0, c3⟩, c4, c5⟩ := st
    obtain ⟨xs, ys, x, y, q1, q2, gx, gy⟩ := hg
    obtain ⟨its, rv, p, _⟩ := I.list q1
    obtain ⟨its2, rv2, p2, _⟩ := I.tuple q2
    obtain ⟨u, hu, ru⟩ := rv.get gx
    obtain ⟨u2, hu2, ru2⟩ := rv2.get gy
    have zl : z < s.heap.objs.size := Heap.lt_size c1
    have hh : X.A.in1.handled = none := I.ok.hd hc
    have l1 : i < its.toArray.size := by
      have := (List.getElem?_eq_some_iff.mp hu).1
      simpa using this
    have l2 : i < its2.toArray.size := by
      have := (List.getElem?_eq_some_iff.mp hu2).1
      simpa using this
    refine wpAny_pyNext_zipD2_item D (Draws.list hh j1 a na its.toArray) (Draws.tuple hh j2 b nb its2.toArray) c1 c2 c3 ⟨c4, p.isList⟩ ⟨c5, p2⟩ l1 l2 fun v1 v2 h' tk g1 g2 z' TO' s1' s2' hT hsz hk => ?_
    have ev1 : v1 = u := by
      have g1' : its.toArray[i]? = some v1 := g1
      have e : its[i]? = some v1 := by simpa using g1'
      rw [hu] at e
      exact (Option.some.inj e).symm
    have ev2 : v2 = u2 := by
      have g2' : its2.toArray[i]? = some v2 := g2
      have e : its2[i]? = some v2 := by simpa using g2'
      rw [hu2] at e
      exact (Option.some.inj e).symm
    subst ev1 ev2
    refine ⟨_, rfl, ?_⟩
    refine wpAny_letOwnedTupleGo_zip (s := { s with heap := h', toks := tk }) z' fun h2 z2 sb => ?_
    have hT2 : h2.get? s.heap.objs.size = some { cls := .type "tuple", data := .seq #[v1, v2] } := (sb.2 _ (Nat.ne_of_gt zl)).trans hT
    have kept : ∀ c o, c ∉ [z, TI, TO, j1, j2] → s.heap.get? c = some o → h2.get? c = some o := fun c o hn e => by
      simp only [List.mem_cons, List.not_mem_nil, or_false, not_or] at hn
      exact (sb.2 c hn.1).trans (hk c o hn.1 hn.2.2.1 hn.2.2.2.1 hn.2.2.2.2 e)
    have new : ObjOk X.prog X.w (upd H s.heap.objs.size (.tup [x, y])) h2 s.heap.objs.size (.tup [x, y]) :=
      ⟨(by show 2 ≤ sizeLine; decide), [v1, v2], .cons ru (.cons ru2 .nil), ⟨_, hT2, rfl, _, rfl⟩⟩
    have I1 : Inv X pins σ (upd H s.heap.objs.size (.tup [x, y])) { s with heap := h2, toks := tk } :=
      I.turnedNew (t' := tk) (ch := [z, TI, TO, j1, j2]) kept hf (Nat.le_refl _) new
    refine ⟨.ref s.heap.objs.size, _, I1, rfl, ⟨_, x, y, rfl, I.hok.fresh (Nat.le_refl _), rfl, fun l hl => ?_, fun l hl => ?_⟩, ⟨z2, ?_, ⟨v1, v2, ?_⟩, ?_, ?_⟩, fun c hcm => ?_⟩
    · rw [I.list_inj hl q1]
      exact gx
    · rw [I.tuple_inj hl q2]
      exact gy
    · exact (sb.2 _ D.TIz).trans (hk _ _ D.TIz D.TITO D.TIi1 D.TIi2 c2)
    · exact (sb.2 _ D.TOz).trans TO'
    · exact s1'.1.at fun o e => (sb.2 _ D.zi1.symm).trans e
    · exact s2'.1.at fun o e => (sb.2 _ D.zi2.symm).trans e
    · have lt : c < s.heap.objs.size := by
        have hcm2 := hcm
        simp only [List.mem_cons, List.not_mem_nil, or_false] at hcm2
        rcases hcm2 with rfl | rfl | rfl | rfl | rfl
        · exact zl
        · exact Heap.lt_size c2
        · exact Heap.lt_size c3
        · obtain ⟨_, e1, _⟩ := c4
          exact Heap.lt_size e1
        · obtain ⟨_, e1, _⟩ := c5
          exact Heap.lt_size e1
      rw [upd_ne (Nat.ne_of_lt lt)]
      exact (hf c hcm).1
  done := by
    intro X hP hw hK hc i pins s σ H E I hf st hg
    subst hP hw hK
    obtain ⟨c1, c2, ⟨x0, y0, c3⟩, c4, c5⟩ := st
    obtain ⟨xs, ys, q1, q2, g1, g2, g3⟩ := hg
    obtain ⟨its, rv, p, _⟩ := I.list q1
    obtain ⟨its2, rv2, p2, _⟩ := I.tuple q2
    have l1 := rv.length
    have l2 := rv2.length
    have hh : X.A.in1.handled = none := I.ok.hd hc
    refine wpAny_pyNext_zipD2_end D (Draws.list hh j1 a na its.toArray) (Draws.tuple hh j2 b nb its2.toArray) c1 c2 c3 ⟨c4, p.isList⟩ ⟨c5, p2⟩ (by rw [List.size_toArray]; omega) (by rw [List.size_toArray]; omega) (by rw [List.size_toArray, List.size_toArray]; omega) fun h' tk hk => ⟨rfl, ?_⟩
    refine I.turnedL (t' := tk) (ch := [z, TI, TO, j1, j2]) (fun c o hn e => ?_) hf
    simp only [List.mem_cons, List.not_mem_nil, or_false, not_or] at hn
    exact hk c o hn.1 hn.2.2.1 hn.2.2.2.1 hn.2.2.2.2 e
  self := fun A i s Q E st h => wpAny_pyIter_zip st.1 h
def iZipM (K : PySem.W.Frag) (ta : TA) : TI := fun σ H R => ta σ H fun vs H1 => ∃ a b xs ys, vs = [.ref a, .ref b] ∧ SqL K H1 a xs ∧ SqT K H1 b ys ∧ R (ItzM K a b) H1
theorem pi_zipM {X : Cx} {e e2 : Expr} {ta : TA} {p pos tpos : Pos} {elts : List Expr} {kk : Nat} (hg : Gl X "zip") (hm : X.mg "zip" = none) (ha : PA X [e, e2] ta)
    (z1 : starEach [e, e2] X.env = (false, eval e X.env) :: starEach [e2] X.env := by rfl) (z2 : (backTo pos (starEach [e2] X.env)).any (·.1) = false := by rfl) :
    PI X (.Tuple elts kk tpos) (.Call (.Name "zip" p) [e, e2] [] pos) (iZipM X.K ta) := by
  constructor
  intro pins s σ H R I h
  refine Call_ (ld_blt I hg hm PyProof.Rows.boot_zip (PyProof.Rows.callWith_type1 (thn (ha.run pos pins s σ H _ I h) fun us s1 ⟨vs, H1, I1, r1, q1⟩ => ?_) z1 z2))
  obtain ⟨a, b, xs, ys, rfl, q1, q2, q⟩ := q1
  obtain ⟨u1, u2, rfl, ru1, ru2⟩ : ∃ u1 u2, us = [u1, u2] ∧ u1 = .ref a ∧ u2 = .ref b := by
    cases r1 with
    | cons ra rr =>
      cases rr with
      | cons rb rn =>
        cases rn
        exact ⟨_, _, rfl, ra, rb⟩
  subst ru1 ru2
  obtain ⟨its, rv, p1, _⟩ := I1.list q1
  obtain ⟨its2, rv2, p2, _⟩ := I1.tuple q2
  have la : a < s1.heap.objs.size := p1.lt
  have lb : b < s1.heap.objs.size := by
    obtain ⟨o2, e2, _⟩ := id p2
    exact Heap.lt_size e2
  have na : a ≠ s1.heap.objs.size := fun e => absurd la (by rw [e]; exact Nat.lt_irrefl _)
  have nb : b ≠ s1.heap.objs.size + 1 := fun e => absurd lb (by rw [e]; exact Nat.not_lt.mpr (Nat.le_succ _))
  have sep := zip_sep2 (N := s1.heap.objs.size) (fp1 := [a]) (fp2 := [b]) (fun c hc => by rw [List.mem_singleton.mp hc]; exact la) (fun c hc => by rw [List.mem_singleton.mp hc]; exact lb)
  refine zip_begins2 (begins_list a its.toArray) (begins_tuple b its2.toArray) p1.isList p2 fun h' g1 g2 g3 g4 g5 hsz hk => ?_
  refine wpAny_pyIter_zip g1 ?_
  have I2 : Inv X pins σ H1 { s1 with heap := h' } := I1.kept (t' := s1.toks) hk
  refine ⟨s1.heap.objs.size + 4, [s1.heap.objs.size + 4, s1.heap.objs.size + 2, s1.heap.objs.size + 3, s1.heap.objs.size, s1.heap.objs.size + 1], _, _, H1, rfl, I2,
    turn_zipM sep na nb,
    ⟨g1, g2, ⟨_, _, g3⟩, ⟨_, g4, rfl, rfl⟩, ⟨_, g5, rfl, rfl⟩⟩, fun c hcm => ?_, q⟩
  have le : s1.heap.objs.size ≤ c := by
    simp only [List.mem_cons, List.not_mem_nil, or_false] at hcm
    rcases hcm with rfl | rfl | rfl | rfl | rfl
    · exact Nat.le_add_right _ _
    · exact Nat.le_add_right _ _
    · exact Nat.le_add_right _ _
    · exact Nat.le_refl _
    · exact Nat.le_add_right _ _
  exact I1.fpOk le (I1.hok.fresh le)
theorem walk_zipM {K : PySem.W.Frag} {a b : Addr} {xs ys : List V} (hn : xs.length = ys.length) : Walk (ItzM K a b) xs.length (fun H => SqL K H a xs ∧ SqT K H b ys) (YPair (fun i => xs[i]?) (fun i => ys[i]?)) where
  goes := fun i H hi q => ⟨xs, ys, xs[i], ys[i]'(by omega), q.1, q.2, List.getElem?_eq_getElem hi, List.getElem?_eq_getElem (by omega)⟩
  stops := fun H q => ⟨xs, ys, q.1, q.2, Nat.le_refl _, by omega, .inl rfl⟩
  yields := fun i H v H2 hi q y => by
    obtain ⟨T, x, z, h1, h2, h3, h4, h5⟩ := y
    exact ⟨T, x, z, h1, h2, h3, h4 xs q.1, h5 ys q.2⟩
end zipm
/-! ### bits tell values -/
def bitA (t : Nat) (x : Int) : Int := x / 2 ^ t % 2
theorem bitA_bit (t : Nat) (x : Int) : Bit (bitA t x) := by
  have h0 := Int.emod_nonneg (x / 2 ^ t) (show (2 : Int) ≠ 0 by decide)
  have h1 := Int.emod_lt_of_pos (x / 2 ^ t) (show (0 : Int) < 2 by decide)
  unfold bitA Bit
  omega
/-- the bit at p -/
theorem bit_at {V p u k r : Int} (hp : 0 < p) (h : V = p * (2 * u + k) + r) (r0 : 0 ≤ r) (r1 : r < p) : V / p % 2 = k % 2 := by
  have e : V / p = 2 * u + k := by
    rw [h, Int.add_comm, Int.add_mul_ediv_left _ _ (by omega), Int.ediv_eq_zero_of_lt r0 r1, Int.zero_add]
  rw [e]
  omega
theorem bit_val {k : Int} (h : Bit k) : k % 2 = k := by rcases h with rfl | rfl <;> decide
theorem low_next (A : Int) {p : Int} (hp : 0 < p) : A % (2 * p) = p * (A / p % 2) + A % p := by
  have e := Int.mul_ediv_add_emod A p
  have e2 := Int.mul_ediv_add_emod (A / p) 2
  have r0 := Int.emod_nonneg A (show p ≠ 0 by omega)
  have r1 := Int.emod_lt_of_pos A hp
  have hb := bitA_bit 0 (A / p)
  have b : A / p % 2 = 0 ∨ A / p % 2 = 1 := by omega
  have e3 : A = 2 * p * (A / p / 2) + (p * (A / p % 2) + A % p) := by
    have z : p * (A / p) = p * (2 * (A / p / 2) + A / p % 2) := by rw [e2]
    rw [Int.mul_add, ← Int.mul_assoc, Int.mul_comm p 2] at z
    omega
  have s0 : 0 ≤ p * (A / p % 2) + A % p := by rcases b with b | b <;> rw [b] <;> omega
  have s1 : p * (A / p % 2) + A % p < 2 * p := by rcases b with b | b <;> rw [b] <;> omega
  generalize p * (A / p % 2) + A % p = s at e3 s0 s1
  rw [e3, Int.mul_add_emod_self_left, Int.emod_eq_of_lt s0 s1]
/-- what is carried into the bit at p -/
def CI (x : Str) (A B p c : Int) : Prop :=
  if x = "add" then ∃ r, A % p + B % p = p * c + r ∧ 0 ≤ r ∧ r < p
  else if x = "sub" then ∃ r, A % p - B % p = r - p * c ∧ 0 ≤ r ∧ r < p
  else if x = "neg" then ∃ r, -(A % p) = r - p * (1 - c) ∧ 0 ≤ r ∧ r < p
  else if x = "twice" then ∃ r, A % p + A % p = p * c + r ∧ 0 ≤ r ∧ r < p
  else if x = "one" then c = if p = 1 then 1 else 0
  else c = 0
theorem ci_first (d : Deed) (A B : Int) : CI d.1 A B 1 (fcD d) := by
  unfold CI fcD
  rw [Int.emod_one, Int.emod_one]
  by_cases h1 : d.1 = "add"
  · rw [if_pos h1, h1]
    exact ⟨0, by decide, by decide, by decide⟩
  rw [if_neg h1]
  by_cases h2 : d.1 = "sub"
  · rw [if_pos h2, h2]
    exact ⟨0, by decide, by decide, by decide⟩
  rw [if_neg h2]
  by_cases h3 : d.1 = "neg"
  · rw [if_pos h3, h3]
    exact ⟨0, by decide, by decide, by decide⟩
  rw [if_neg h3]
  by_cases h4 : d.1 = "twice"
  · rw [if_pos h4, h4]
    exact ⟨0, by decide, by decide, by decide⟩
  rw [if_neg h4]
  by_cases h5 : d.1 = "one"
  · rw [if_pos h5, h5]
    decide
  rw [if_neg h5, if_neg (by simp [h3, h5])]
theorem ci_next {x : Str} {A B p c : Int} (hp : 0 < p) (hc : Bit c) (h : CI x A B p c) : CI x A B (2 * p) (dcar x (A / p % 2) (B / p % 2) c) := by
  have ba : Bit (A / p % 2) := by unfold Bit; omega
  have bb : Bit (B / p % 2) := by unfold Bit; omega
  have la := low_next A hp
  have lb := low_next B hp
  have a0 := Int.emod_nonneg A (show p ≠ 0 by omega)
  have a1 := Int.emod_lt_of_pos A hp
  generalize A / p % 2 = α at la ba
  generalize B / p % 2 = β at lb bb
  unfold CI at h ⊢
  rw [la, lb]
  generalize A % p = a at h a0 a1
  generalize B % p = b at h
  by_cases h1 : x = "add"
  · subst h1
    rw [if_pos rfl] at h ⊢
    obtain ⟨r, e, r0, r1⟩ := h
    rcases ba with rfl | rfl <;> rcases bb with rfl | rfl <;> rcases hc with rfl | rfl
    · exact ⟨r, by show _ = 2 * p * 0 + r; omega, r0, by omega⟩
    · exact ⟨p + r, by show _ = 2 * p * 0 + (p + r); omega, by omega, by omega⟩
    · exact ⟨p + r, by show _ = 2 * p * 0 + (p + r); omega, by omega, by omega⟩
    · exact ⟨r, by show _ = 2 * p * 1 + r; omega, r0, by omega⟩
    · exact ⟨p + r, by show _ = 2 * p * 0 + (p + r); omega, by omega, by omega⟩
    · exact ⟨r, by show _ = 2 * p * 1 + r; omega, r0, by omega⟩
    · exact ⟨r, by show _ = 2 * p * 1 + r; omega, r0, by omega⟩
    · exact ⟨p + r, by show _ = 2 * p * 1 + (p + r); omega, by omega, by omega⟩
  rw [if_neg h1] at h ⊢
  by_cases h2 : x = "sub"
  · subst h2
    rw [if_pos rfl] at h ⊢
    obtain ⟨r, e, r0, r1⟩ := h
    rcases ba with rfl | rfl <;> rcases bb with rfl | rfl <;> rcases hc with rfl | rfl
    · exact ⟨r, by show _ = r - 2 * p * 0; omega, r0, by omega⟩
    · exact ⟨p + r, by show _ = (p + r) - 2 * p * 1; omega, by omega, by omega⟩
    · exact ⟨p + r, by show _ = (p + r) - 2 * p * 1; omega, by omega, by omega⟩
    · exact ⟨r, by show _ = r - 2 * p * 1; omega, r0, by omega⟩
    · exact ⟨p + r, by show _ = (p + r) - 2 * p * 0; omega, by omega, by omega⟩
    · exact ⟨r, by show _ = r - 2 * p * 0; omega, r0, by omega⟩
    · exact ⟨r, by show _ = r - 2 * p * 0; omega, r0, by omega⟩
    · exact ⟨p + r, by show _ = (p + r) - 2 * p * 1; omega, by omega, by omega⟩
  rw [if_neg h2] at h ⊢
  by_cases h3 : x = "neg"
  · subst h3
    rw [if_pos rfl] at h ⊢
    obtain ⟨r, e, r0, r1⟩ := h
    rcases ba with rfl | rfl <;> rcases hc with rfl | rfl
    · exact ⟨p + r, by show _ = (p + r) - 2 * p * (1 - 0); omega, by omega, by omega⟩
    · exact ⟨r, by show _ = r - 2 * p * (1 - 1); omega, r0, by omega⟩
    · exact ⟨r, by show _ = r - 2 * p * (1 - 0); omega, r0, by omega⟩
    · exact ⟨p + r, by show _ = (p + r) - 2 * p * (1 - 0); omega, by omega, by omega⟩
  rw [if_neg h3] at h ⊢
  by_cases h4 : x = "twice"
  · subst h4
    rw [if_pos rfl] at h ⊢
    obtain ⟨r, e, r0, r1⟩ := h
    rcases ba with rfl | rfl
    · exact ⟨a + a, by show _ = 2 * p * 0 + (a + a); omega, by omega, by omega⟩
    · exact ⟨a + a, by show _ = 2 * p * 1 + (a + a); omega, by omega, by omega⟩
  rw [if_neg h4] at h ⊢
  have hz : dcar x α β c = 0 := by
    unfold dcar
    rw [if_neg h3, if_neg h4, if_neg h1, if_neg h2]
  by_cases h5 : x = "one"
  · rw [if_pos h5, hz, if_neg (by omega)]
  · rw [if_neg h5, hz]
theorem nat_bits {a b t : Nat} : ((a &&& b) / 2 ^ t % 2 = (a / 2 ^ t % 2) &&& (b / 2 ^ t % 2)) ∧ ((a ||| b) / 2 ^ t % 2 = (a / 2 ^ t % 2) ||| (b / 2 ^ t % 2)) ∧ ((a ^^^ b) / 2 ^ t % 2 = (a / 2 ^ t % 2) ^^^ (b / 2 ^ t % 2)) := by
  refine ⟨?_, ?_, ?_⟩
  · rw [← Nat.shiftRight_eq_div_pow, ← Nat.shiftRight_eq_div_pow, ← Nat.shiftRight_eq_div_pow, Nat.shiftRight_and_distrib]
    exact Nat.and_mod_two_pow (n := 1)
  · rw [← Nat.shiftRight_eq_div_pow, ← Nat.shiftRight_eq_div_pow, ← Nat.shiftRight_eq_div_pow, Nat.shiftRight_or_distrib]
    exact Nat.or_mod_two_pow (n := 1)
  · rw [← Nat.shiftRight_eq_div_pow, ← Nat.shiftRight_eq_div_pow, ← Nat.shiftRight_eq_div_pow, Nat.shiftRight_xor_distrib]
    exact Nat.xor_mod_two_pow (n := 1)
theorem cast_bit (a t : Nat) : bitA t (a : Int) = ((a / 2 ^ t % 2 : Nat) : Int) := by
  unfold bitA
  rw [pw_cast]
  omega
theorem bit_land {A B : Int} (t : Nat) (ha : 0 ≤ A) (hb : 0 ≤ B) : bitA t (Builtin.bitAnd A B) = Builtin.bitAnd (bitA t A) (bitA t B) := by
  obtain ⟨a, rfl⟩ := Int.eq_ofNat_of_zero_le ha
  obtain ⟨b, rfl⟩ := Int.eq_ofNat_of_zero_le hb
  rw [cast_bit, cast_bit, bitAnd_pp (Int.natCast_nonneg _) (Int.natCast_nonneg _), bitAnd_pp (Int.natCast_nonneg _) (Int.natCast_nonneg _)]
  simp only [Int.toNat_natCast]
  rw [cast_bit, nat_bits.1]
theorem bit_lor {A B : Int} (t : Nat) (ha : 0 ≤ A) (hb : 0 ≤ B) : bitA t (Builtin.bitOr A B) = Builtin.bitOr (bitA t A) (bitA t B) := by
  obtain ⟨a, rfl⟩ := Int.eq_ofNat_of_zero_le ha
  obtain ⟨b, rfl⟩ := Int.eq_ofNat_of_zero_le hb
  rw [cast_bit, cast_bit, bitOr_nn (Int.natCast_nonneg _) (Int.natCast_nonneg _), bitOr_nn (Int.natCast_nonneg _) (Int.natCast_nonneg _)]
  simp only [Int.toNat_natCast]
  rw [cast_bit, nat_bits.2.1]
theorem bit_lxor {A B : Int} (t : Nat) (ha : 0 ≤ A) (hb : 0 ≤ B) : bitA t (Builtin.bitXor A B) = Builtin.bitXor (bitA t A) (bitA t B) := by
  obtain ⟨a, rfl⟩ := Int.eq_ofNat_of_zero_le ha
  obtain ⟨b, rfl⟩ := Int.eq_ofNat_of_zero_le hb
  rw [cast_bit, cast_bit, Bits.bitXor_pp (Int.natCast_nonneg _) (Int.natCast_nonneg _), Bits.bitXor_pp (Int.natCast_nonneg _) (Int.natCast_nonneg _)]
  simp only [Int.toNat_natCast]
  rw [cast_bit, nat_bits.2.2]
theorem dbit_tells {x : Str} {A B c : Int} {t n : Nat} (hx : x ∈ fwL.map (·.1)) (ht : t < n) (ha : 0 ≤ A) (hb : 0 ≤ B) (hc : Bit c) (h : CI x A B (2 ^ t) c) : dbit x (bitA t A) (bitA t B) c = bitA t (dvalue x A B (2 ^ n)) := by
  have hp := pw_pos t
  have eA := Int.mul_ediv_add_emod A (2 ^ t)
  have eB := Int.mul_ediv_add_emod B (2 ^ t)
  have qa := Int.mul_ediv_add_emod (A / 2 ^ t) 2
  have qb := Int.mul_ediv_add_emod (B / 2 ^ t) 2
  have a0 := Int.emod_nonneg A (show (2 : Int) ^ t ≠ 0 by omega)
  have a1 := Int.emod_lt_of_pos A hp
  have b0 := Int.emod_nonneg B (show (2 : Int) ^ t ≠ 0 by omega)
  have b1 := Int.emod_lt_of_pos B hp
  have ba := bitA_bit t A
  have bb := bitA_bit t B
  obtain ⟨N', hN⟩ : ∃ N' : Int, (2 : Int) ^ n = 2 ^ t * (2 * N') := by
    refine ⟨2 ^ (n - t - 1), ?_⟩
    rw [show n = t + 1 + (n - t - 1) by omega, Int.pow_add, Int.pow_succ, Int.mul_assoc]
    congr 3
    omega
  have land := bit_land t ha hb
  have lor := bit_lor t ha hb
  have lxor := bit_lxor t ha hb
  have tt : bitA t (A + A) = (A + A) / 2 ^ t % 2 := rfl
  rw [hN]
  unfold CI at h
  have p1 : (2 : Int) ^ t = 1 ∨ 2 ≤ (2 : Int) ^ t := by omega
  unfold bitA at ba bb ⊢
  unfold bitA at land lor lxor
  clear tt hN
  generalize (2 : Int) ^ t = p at *
  generalize hα : A / p % 2 = α at *
  generalize hβ : B / p % 2 = β at *
  generalize A % p = a at *
  generalize B % p = b at *
  generalize A / p / 2 = A' at *
  generalize B / p / 2 = B' at *
  have dA : A = p * (2 * A' + α) + a := by rw [qa]; omega
  have dB : B = p * (2 * B' + β) + b := by rw [qb]; omega
  have mA := Int.mul_add p (2 * A') α
  have mB := Int.mul_add p (2 * B') β
  simp only [fwL, List.map_cons, List.map_nil, List.mem_cons, List.not_mem_nil, or_false] at hx
  rcases hx with rfl | rfl | rfl | rfl | rfl | rfl | rfl | rfl | rfl | rfl | rfl
  · show (0 : Int) = 0 / p % 2
    rw [Int.zero_ediv]
    rfl
  · show c = 1 / p % 2
    have hc1 : c = if p = 1 then 1 else 0 := h
    rcases p1 with p1 | p1
    · rw [hc1, if_pos p1, p1]
      decide
    · rw [hc1, if_neg (by omega), Int.ediv_eq_zero_of_lt (by omega) (by omega)]
      rfl
  · show (1 : Int) = (p * (2 * N') - 1) / p % 2
    rw [bit_at (u := N' - 1) (k := 1) (r := p - 1) hp (by rw [Int.mul_add, Int.mul_sub, Int.mul_sub]; omega) (by omega) (by omega)]
    decide
  · show 1 - α = (p * (2 * N') - 1 - A) / p % 2
    have e : p * (2 * (N' - 1 - A') + (1 - α)) = p * (2 * N') - p * (2 * A') - p * α - p := by
      rw [Int.mul_add, Int.mul_sub 2, Int.mul_sub 2, Int.mul_sub p, Int.mul_sub p, Int.mul_sub p]
      omega
    rw [bit_at (u := N' - 1 - A') (k := 1 - α) (r := p - 1 - a) hp (by rw [e]; omega) (by omega) (by omega)]
    rcases ba with rfl | rfl <;> decide
  · show Builtin.bitXor (1 - α) c = (-A) / p % 2
    obtain ⟨r, er, r0, r1⟩ : ∃ r, -a = r - p * (1 - c) ∧ 0 ≤ r ∧ r < p := h
    have e : p * (2 * (-A') + (-α - 1 + c)) = -(p * (2 * A')) - p * α - p * (1 - c) := by
      rw [Int.mul_add, Int.mul_neg, Int.mul_neg, Int.mul_sub, Int.mul_add, Int.mul_sub, Int.mul_neg]
      omega
    rw [bit_at (u := -A') (k := -α - 1 + c) (r := r) hp (by rw [e]; omega) r0 r1]
    rcases ba with rfl | rfl <;> rcases hc with rfl | rfl <;> decide
  · show c = (A + A) / p % 2
    obtain ⟨r, er, r0, r1⟩ : ∃ r, a + a = p * c + r ∧ 0 ≤ r ∧ r < p := h
    have e : p * (2 * (2 * A' + α) + c) = 2 * (p * (2 * A')) + 2 * (p * α) + p * c := by
      rw [Int.mul_add, Int.mul_left_comm, Int.mul_add p]
      omega
    rw [bit_at (u := 2 * A' + α) (k := c) (r := r) hp (by rw [e]; omega) r0 r1, bit_val hc]
  · show Builtin.bitAnd α β = Builtin.bitAnd A B / p % 2
    rw [land]
  · show Builtin.bitOr α β = Builtin.bitOr A B / p % 2
    rw [lor]
  · show Builtin.bitXor α β = Builtin.bitXor A B / p % 2
    rw [lxor]
  · show Builtin.bitXor (Builtin.bitXor α β) c = (A + B) / p % 2
    obtain ⟨r, er, r0, r1⟩ : ∃ r, a + b = p * c + r ∧ 0 ≤ r ∧ r < p := h
    have e : p * (2 * (A' + B') + (α + β + c)) = p * (2 * A') + p * (2 * B') + p * α + p * β + p * c := by
      rw [Int.mul_add 2, Int.mul_add, Int.mul_add p, Int.mul_add p, Int.mul_add p]
      omega
    rw [bit_at (u := A' + B') (k := α + β + c) (r := r) hp (by rw [e]; omega) r0 r1]
    rcases ba with rfl | rfl <;> rcases bb with rfl | rfl <;> rcases hc with rfl | rfl <;> decide
  · show Builtin.bitXor (Builtin.bitXor α β) c = (A - B) / p % 2
    obtain ⟨r, er, r0, r1⟩ : ∃ r, a - b = r - p * c ∧ 0 ≤ r ∧ r < p := h
    have e : p * (2 * (A' - B') + (α - β - c)) = p * (2 * A') - p * (2 * B') + p * α - p * β - p * c := by
      rw [Int.mul_sub 2, Int.mul_add, Int.mul_sub p, Int.mul_sub p, Int.mul_sub p]
      omega
    rw [bit_at (u := A' - B') (k := α - β - c) (r := r) hp (by rw [e]; omega) r0 r1]
    rcases ba with rfl | rfl <;> rcases bb with rfl | rfl <;> rcases hc with rfl | rfl <;> decide
/-! ### rows' bits and carries -/
theorem bit_mod {V : Int} {t n : Nat} (h : t < n) : bitA t (V % 2 ^ n) = bitA t V := by
  obtain ⟨N', hN⟩ : ∃ N' : Int, (2 : Int) ^ n = 2 ^ t * (2 * N') := by
    refine ⟨2 ^ (n - t - 1), ?_⟩
    rw [show n = t + 1 + (n - t - 1) by omega, Int.pow_add, Int.pow_succ, Int.mul_assoc]
    congr 3
    omega
  have hp := pw_pos t
  have e := Int.mul_ediv_add_emod V (2 ^ n)
  have e1 := Int.mul_ediv_add_emod (V % 2 ^ n) (2 ^ t)
  have r0 := Int.emod_nonneg (V % 2 ^ n) (show (2 : Int) ^ t ≠ 0 by omega)
  have r1 := Int.emod_lt_of_pos (V % 2 ^ n) hp
  unfold bitA
  have z : V / 2 ^ t % 2 = (V % 2 ^ n / 2 ^ t) % 2 := by
    refine bit_at (u := N' * (V / 2 ^ n)) (k := V % 2 ^ n / 2 ^ t) (r := V % 2 ^ n % 2 ^ t) hp ?_ r0 r1
    have e2 : (2 : Int) ^ t * (2 * (N' * (V / 2 ^ n))) = 2 ^ n * (V / 2 ^ n) := by rw [hN, Int.mul_assoc, Int.mul_assoc]
    rw [Int.mul_add, e2]
    omega
  exact z.symm
theorem vals_pre {N : Int} : ∀ (ds : List Deed) (t : List Int), (vals N ds t).take t.length = t
  | [], t => List.take_length
  | d :: ds, t => by
    have h := vals_pre ds (t ++ [dval N d t]) (N := N)
    show (vals N ds (t ++ [dval N d t])).take t.length = t
    have h2 : ((vals N ds (t ++ [dval N d t])).take (t ++ [dval N d t]).length).take t.length = t := by
      rw [h]
      exact List.take_left
    rw [List.take_take, List.length_append, Nat.min_eq_left (by omega)] at h2
    exact h2
theorem vals_at {N : Int} {ds : List Deed} {xs : List Int} (i : Nat) (hi : i ≤ ds.length) : vals N (ds.take i) xs = (vals N ds xs).take (xs.length + i) := by
  have e : vals N ds xs = vals N (ds.drop i) (vals N (ds.take i) xs) := by rw [← vals_append, List.take_append_drop]
  have l : (vals N (ds.take i) xs).length = xs.length + i := by rw [vals_len, List.length_take, Nat.min_eq_left hi]
  rw [e, ← l, vals_pre]
theorem ix_lt {d : Deed} {n : Nat} (h : DeedOk n d) (hn : 1 ≤ n) (k : Nat) : (d.2.getD k 0).toNat < n := by
  rw [List.getD_eq_getElem?_getD]
  cases e : d.2[k]? with
  | none => exact hn
  | some i =>
    obtain ⟨h0, h1⟩ := h.ahead i (List.mem_of_getElem? e)
    show i.toNat < n
    omega
theorem arg_map {d : Deed} {told : List Int} (f : Int → Int) (h : DeedOk told.length d) (hn : 1 ≤ told.length) (k : Nat) : argAt d (told.map f) k = f (argAt d told k) := by
  have hi := ix_lt h hn k
  unfold argAt
  generalize (d.2.getD k 0).toNat = j at hi
  rw [List.getD_eq_getElem?_getD, List.getD_eq_getElem?_getD, List.getElem?_map, List.getElem?_eq_getElem hi]
  rfl
theorem arg_take {d : Deed} {v : List Int} {n : Nat} (h : DeedOk n d) (hn : 1 ≤ n) (hv : n ≤ v.length) (k : Nat) : argAt d (v.take n) k = argAt d v k := by
  have hi := ix_lt h hn k
  unfold argAt
  generalize (d.2.getD k 0).toNat = j at hi
  rw [List.getD_eq_getElem?_getD, List.getD_eq_getElem?_getD, List.getElem?_take, if_pos hi]
/-- the carries into bit t -/
structure CIs (v : List Int) (t : Nat) (ds : List Deed) (cs : List Int) : Prop where
  len : cs.length = ds.length
  each : ∀ (k : Nat) d c, ds[k]? = some d → cs[k]? = some c → CI d.1 (argAt d v 0) (argAt d v 1) (2 ^ t) c ∧ Bit c
theorem cis_first (v : List Int) (ds : List Deed) : CIs v 0 ds (ds.map fcD) where
  len := List.length_map ..
  each := fun k d c hd hc => by
    rw [List.getElem?_map, hd] at hc
    obtain rfl := Option.some.inj hc
    refine ⟨ci_first d _ _, ?_⟩
    unfold fcD
    split
    · exact bit1
    · exact bit0
theorem cis_bits {m n t : Nat} {ds : List Deed} {xs cs : List Int} (ok : DsOk m ds) (hm : xs.length = m) (m1 : 1 ≤ m) (hx : ∀ x ∈ xs, 0 ≤ x ∧ x < 2 ^ n) (ht : t < n) (h : CIs (vals (2 ^ n) ds xs) t ds cs) : bts ds cs (xs.map (bitA t)) = (vals (2 ^ n) ds xs).map (bitA t) := by
  have vr := vals_range (pw_pos n) ds xs hx
  have vl := vals_len (size := 2 ^ n) ds xs
  have key : ∀ i, i ≤ ds.length → bts (ds.take i) (cs.take i) (xs.map (bitA t)) = ((vals (2 ^ n) ds xs).take (xs.length + i)).map (bitA t) := by
    intro i
    induction i with
    | zero =>
      intro _
      rw [Nat.add_zero, vals_pre]
      cases ds <;> rfl
    | succ i ih =>
      intro hi
      have hd : ds[i]? = some ds[i] := List.getElem?_eq_getElem (by omega)
      have hc : cs[i]? = some (cs[i]'(by rw [h.len]; omega)) := List.getElem?_eq_getElem _
      obtain ⟨h1, h2⟩ := h.each i _ _ hd hc
      generalize ds[i] = d at hd h1
      generalize cs[i]'(by rw [h.len]; omega) = c at hc h1 h2
      have okd : DeedOk ((xs.length + i : Nat) : Int) d := by
        have := ok.each i d hd
        rw [hm]
        have e : ((m + i : Nat) : Int) = (m : Int) + (i : Int) := by omega
        rw [e]
        exact this
      have pl : ((vals (2 ^ n) ds xs).take (xs.length + i)).length = xs.length + i := by
        rw [List.length_take, vl]
        omega
      rw [bts_next hd hc, ih (by omega), ← vals_at (i + 1) hi, vals_next hd, vals_at i (by omega), List.map_append]
      congr 1
      show [dbitAt d c _] = [bitA t (dval (2 ^ n) d _)]
      unfold dbitAt dval
      rw [arg_map _ (by rw [pl]; exact okd) (by omega), arg_map _ (by rw [pl]; exact okd) (by omega), arg_take okd (by omega) (by omega), arg_take okd (by omega) (by omega), bit_mod ht]
      rw [dbit_tells (List.mem_map.mpr ⟨_, okd.word, rfl⟩) ht (arg_nn (fun x hx => (vr x hx).1) d 0) (arg_nn (fun x hx => (vr x hx).1) d 1) h2 h1]
  have e := key ds.length (Nat.le_refl _)
  rw [List.take_length, ← h.len, List.take_length, h.len, ← vl, List.take_length] at e
  exact e
theorem cis_next {m n t : Nat} {ds : List Deed} {xs cs : List Int} (ok : DsOk m ds) (hm : xs.length = m) (m1 : 1 ≤ m) (h : CIs (vals (2 ^ n) ds xs) t ds cs) : CIs (vals (2 ^ n) ds xs) (t + 1) ds (nxt ds cs ((vals (2 ^ n) ds xs).map (bitA t))) where
  len := nxt_len h.len.symm
  each := fun k d c hd hc => by
    unfold nxt at hc
    rw [List.getElem?_zipWith, hd] at hc
    cases e : cs[k]? with
    | none => rw [e] at hc; simp at hc
    | some c0 =>
      rw [e] at hc
      obtain rfl : dcarAt d c0 ((vals (2 ^ n) ds xs).map (bitA t)) = c := by simpa using hc
      obtain ⟨h1, h2⟩ := h.each k d c0 hd e
      have kl := (List.getElem?_eq_some_iff.mp hd).1
      have okd : DeedOk (vals (2 ^ n) ds xs).length d := by
        rw [vals_len]
        refine ⟨(ok.each k d hd).word, fun i hi => ?_⟩
        have := (ok.each k d hd).ahead i hi
        omega
      have l1 : 1 ≤ (vals (2 ^ n) ds xs).length := by
        rw [vals_len]
        omega
      unfold dcarAt
      rw [arg_map _ okd l1, arg_map _ okd l1]
      refine ⟨?_, dcar_bit (bitA_bit _ _) (bitA_bit _ _) h2⟩
      rw [Int.pow_succ, Int.mul_comm]
      exact ci_next (pw_pos t) h2 h1
/-- the carry come to by the words' bits -/
def crry (ds : List Deed) (xs : List Int) : Nat → List Int
  | 0 => ds.map fcD
  | t + 1 => nxt ds (crry ds xs t) (bts ds (crry ds xs t) (xs.map (bitA t)))
theorem crry_ok {m n : Nat} {ds : List Deed} {xs : List Int} (ok : DsOk m ds) (hm : xs.length = m) (m1 : 1 ≤ m) (hx : ∀ x ∈ xs, 0 ≤ x ∧ x < 2 ^ n) : ∀ t, t ≤ n → CIs (vals (2 ^ n) ds xs) t ds (crry ds xs t)
  | 0, _ => cis_first _ ds
  | t + 1, h => by
    have ih := crry_ok ok hm m1 hx t (by omega)
    show CIs _ (t + 1) ds (nxt ds (crry ds xs t) (bts ds (crry ds xs t) (xs.map (bitA t))))
    rw [cis_bits ok hm m1 hx (by omega) ih]
    exact cis_next ok hm m1 ih
theorem crry_bits {m n t : Nat} {ds : List Deed} {xs : List Int} (ok : DsOk m ds) (hm : xs.length = m) (m1 : 1 ≤ m) (hx : ∀ x ∈ xs, 0 ≤ x ∧ x < 2 ^ n) (ht : t < n) : bts ds (crry ds xs t) (xs.map (bitA t)) = (vals (2 ^ n) ds xs).map (bitA t) :=
  cis_bits ok hm m1 hx ht (crry_ok ok hm m1 hx t (by omega))
/-! ### the carries that come -/
inductive Rch (m : Nat) (ds : List Deed) : List Int → Prop
  | first : Rch m ds (ds.map fcD)
  | next {c bs : List Int} : Rch m ds c → bs.length = m → (∀ x ∈ bs, Bit x) → Rch m ds (nxt ds c (bts ds c bs))
theorem crry_rch (ds : List Deed) (xs : List Int) : ∀ t, Rch xs.length ds (crry ds xs t)
  | 0 => .first
  | t + 1 => .next (crry_rch ds xs t) (List.length_map ..) fun x hx => by
    obtain ⟨y, _, rfl⟩ := List.mem_map.mp hx
    exact bitA_bit t y
/-- bits, none where nothing carries -/
def Shp : List Deed → List Int → Prop
  | [], [] => True
  | d :: ds, c :: cs => Bit c ∧ (d.1 ∉ twC → c = 0) ∧ Shp ds cs
  | _, _ => False
theorem Shp.len : ∀ {ds : List Deed} {cs : List Int}, Shp ds cs → cs.length = ds.length
  | [], [], _ => rfl
  | [], _ :: _, h => h.elim
  | _ :: _, [], h => h.elim
  | _ :: _, _ :: _, h => congrArg (· + 1) (Shp.len h.2.2)
theorem Shp.bits : ∀ {ds : List Deed} {cs : List Int}, Shp ds cs → ∀ c ∈ cs, Bit c
  | [], [], _ => (fun _ z => nomatch z)
  | [], _ :: _, h => h.elim
  | _ :: _, [], h => h.elim
  | _ :: _, _ :: _, h => fun c hc => by
    rcases List.mem_cons.mp hc with rfl | hc
    · exact h.1
    · exact Shp.bits h.2.2 c hc
theorem calm_first {d : Deed} (h : d.1 ∉ twC) : fcD d = 0 := by
  unfold fcD
  rw [if_neg]
  intro z
  simp only [List.mem_cons, List.not_mem_nil, or_false] at z
  simp only [twC, List.mem_cons, List.not_mem_nil, or_false, not_or] at h
  rcases z with z | z
  · exact h.2.2.2.1 z
  · exact h.2.2.2.2 z
theorem calm_car {x : Str} (h : x ∉ twC) (a b c : Int) : dcar x a b c = 0 := by
  simp only [twC, List.mem_cons, List.not_mem_nil, or_false, not_or] at h
  obtain ⟨h1, h2, h3, h4, h5⟩ := h
  unfold dcar
  rw [if_neg h4, if_neg h3, if_neg h1, if_neg h2]
theorem shp_first : ∀ ds : List Deed, Shp ds (ds.map fcD)
  | [] => trivial
  | d :: ds => ⟨(by unfold fcD; split; exact bit1; exact bit0), calm_first, shp_first ds⟩
theorem shp_nxt {told : List Int} (hb : ∀ x ∈ told, Bit x) : ∀ {ds : List Deed} {cs : List Int}, Shp ds cs → Shp ds (nxt ds cs told)
  | [], [], _ => trivial
  | [], _ :: _, h => h.elim
  | _ :: _, [], h => h.elim
  | d :: ds, c :: cs, h => ⟨dcar_bit (argAt_bit hb d 0) (argAt_bit hb d 1) h.1, fun z => calm_car z _ _ _, shp_nxt hb h.2.2⟩
theorem rch_shp {m : Nat} {ds : List Deed} : ∀ {c : List Int}, Rch m ds c → Shp ds c := by
  intro c h
  induction h with
  | first => exact shp_first ds
  | next h hl hb ih => exact shp_nxt (bts_bits hb ih.bits) ih
def univ : List Deed → List (List Int)
  | [] => [[]]
  | d :: ds => if d.1 ∈ twC then (univ ds).map (0 :: ·) ++ (univ ds).map (1 :: ·) else (univ ds).map (0 :: ·)
theorem univ_len : ∀ ds : List Deed, (univ ds).length = 2 ^ carN ds
  | [] => rfl
  | d :: ds => by
    have ih := univ_len ds
    unfold univ carN
    by_cases h : d.1 ∈ twC
    · rw [if_pos h, if_pos h, List.length_append, List.length_map, List.length_map, ih, Nat.pow_succ]
      omega
    · rw [if_neg h, if_neg h, List.length_map, ih]
      rfl
theorem shp_univ : ∀ {ds : List Deed} {cs : List Int}, Shp ds cs → cs ∈ univ ds
  | [], [], _ => List.mem_cons_self
  | [], _ :: _, h => h.elim
  | _ :: _, [], h => h.elim
  | d :: ds, c :: cs, h => by
    have ih := shp_univ h.2.2
    unfold univ
    by_cases hd : d.1 ∈ twC
    · rw [if_pos hd]
      rcases h.1 with rfl | rfl
      · exact List.mem_append_left _ (List.mem_map.mpr ⟨cs, ih, rfl⟩)
      · exact List.mem_append_right _ (List.mem_map.mpr ⟨cs, ih, rfl⟩)
    · rw [if_neg hd, h.2.1 hd]
      exact List.mem_map.mpr ⟨cs, ih, rfl⟩
theorem pigeon {α : Type} [DecidableEq α] : ∀ (l D : List α), l.Nodup → (∀ x ∈ l, x ∈ D) → l.length ≤ D.length
  | [], _, _, _ => Nat.zero_le _
  | x :: l, D, nd, h => by
    rw [List.nodup_cons] at nd
    have hx := h x List.mem_cons_self
    have ih := pigeon l (D.erase x) nd.2 fun y hy => (List.mem_erase_of_ne (fun e : y = x => nd.1 (by rw [← e]; exact hy))).mpr (h y (List.mem_cons_of_mem _ hy))
    rw [List.length_erase_of_mem hx] at ih
    have := List.length_pos_of_mem hx
    rw [List.length_cons]
    omega
/-! ### all bits -/
theorem walk_gen {J : It} {n : Nat} {G : Hp → Prop} {Y : Nat → Hp → V → Hp → Prop} (w : Walk J n G Y) {g : TG} {σ0 : L2.St} {B : (Hp → Prop) → L2.St → Hp → Prop} {H0 : Hp} {Qd : Hp → Prop} (Pv : Nat → Hp → Prop) (h0 : Pv 0 H0)
    (hG : ∀ i H, i ≤ n → Pv i H → G H) (hs : ∀ i x H H', i < n → Pv i H → Y i H x H' → g x σ0 H' fun σ2 H2 => B (Pv (i + 1)) σ2 H2) (hd : ∀ H, Pv n H → Qd H) :
    ∃ W : Nat → Nat → Hp → Prop, (∃ m, W 0 m H0) ∧ ∀ i m H, W i m H → (J.stop i H ∧ Qd H) ∨ (J.go i H ∧ ∃ Nx : Hp → Prop, (∀ H', Nx H' → ∃ m', m' < m ∧ W (i + 1) m' H') ∧ ∀ x H', J.yld i H x H' → g x σ0 H' fun σ2 H2 => B Nx σ2 H2) := by
  refine ⟨fun i m H => m = n - i ∧ i ≤ n ∧ Pv i H, ⟨n, by simp, Nat.zero_le _, h0⟩, ?_⟩
  rintro i m H ⟨rfl, hi, q⟩
  by_cases lt : i < n
  · exact .inr ⟨w.goes i H lt (hG i H hi q), Pv (i + 1), fun H' z => ⟨n - (i + 1), by omega, rfl, lt, z⟩, fun x H' y => hs i x H H' lt q (w.yields i H x H' lt (hG i H hi q) y)⟩
  · obtain rfl : i = n := by omega
    exact .inl ⟨w.stops H (hG i H hi q), hd H q⟩
def ext2 (l : List (List Int)) : List (List Int) := l.flatMap fun b => [b ++ [0], b ++ [1]]
def allB : Nat → List (List Int)
  | 0 => [[]]
  | m + 1 => ext2 (allB m)
theorem ext2_len (l : List (List Int)) : (ext2 l).length = 2 * l.length := by
  unfold ext2
  induction l with
  | nil => rfl
  | cons b l ih => rw [List.flatMap_cons, List.length_append, ih, List.length_cons]; simp; omega
theorem allB_len : ∀ m, (allB m).length = 2 ^ m
  | 0 => rfl
  | m + 1 => by
    show (ext2 (allB m)).length = _
    rw [ext2_len, allB_len m, Nat.pow_succ]
    omega
theorem allB_ok : ∀ m, ∀ bs ∈ allB m, bs.length = m ∧ ∀ x ∈ bs, Bit x
  | 0, bs, h => by
    rw [List.mem_singleton.mp h]
    exact ⟨rfl, (fun _ z => nomatch z)⟩
  | m + 1, bs, h => by
    obtain ⟨b, hb, h2⟩ := List.mem_flatMap.mp h
    obtain ⟨h3, h4⟩ := allB_ok m b hb
    simp only [List.mem_cons, List.not_mem_nil, or_false] at h2
    rcases h2 with rfl | rfl
    · refine ⟨by rw [List.length_append, h3]; rfl, fun x hx => ?_⟩
      rcases List.mem_append.mp hx with hx | hx
      · exact h4 x hx
      · rw [List.mem_singleton.mp hx]
        exact bit0
    · refine ⟨by rw [List.length_append, h3]; rfl, fun x hx => ?_⟩
      rcases List.mem_append.mp hx with hx | hx
      · exact h4 x hx
      · rw [List.mem_singleton.mp hx]
        exact bit1
theorem allB_all : ∀ m, ∀ bs : List Int, bs.length = m → (∀ x ∈ bs, Bit x) → bs ∈ allB m
  | 0, bs, h, _ => by
    rw [List.eq_nil_of_length_eq_zero h]
    exact List.mem_cons_self
  | m + 1, bs, h, hb => by
    have hne : bs ≠ [] := fun e => by rw [e] at h; simp at h
    have e := List.dropLast_concat_getLast hne
    have h1 : bs.dropLast ∈ allB m := allB_all m _ (by rw [List.length_dropLast, h]; rfl) fun x hx => hb x ((List.dropLast_sublist bs).subset hx)
    refine List.mem_flatMap.mpr ⟨_, h1, ?_⟩
    rcases hb _ (List.getLast_mem hne) with z | z
    · rw [z] at e
      exact List.mem_cons.mpr (.inl e.symm)
    · rw [z] at e
      exact List.mem_cons.mpr (.inr (List.mem_singleton.mpr e.symm))
/-- tuples of ints -/
abbrev TAt (H : Hp) : List Addr → List (List Int) → Prop := Paired fun f bs => H f = some (.tup (bs.map V.int))
theorem tat_stay {H H' : Hp} (t : TupsStay H H') {fs : List Addr} {l : List (List Int)} (h : TAt H fs l) : TAt H' fs l := awMap (fun f b e => t f _ e) h
def spAll : Sp := fun vs H Q _ => ∃ m : Nat, vs = [.int (m : Int)] ∧ m ≤ 3 ∧ ∀ H' p fs, Same H H' → H p = none → H' p = some (.lst (fs.map V.ref)) → TAt H' fs (allB m) → Q (.ref p) H'
theorem ok_all {f : Addr} {fd : FuncData} {k : Nat} (F : Fun K "all_bits" "all_bits" s_all_bits f fd) (mr : mg "range" = none) : FnOk P w K mg base CX0 (k + 1) f fd ["many"] spAll := by
  refine F.ok sc_all_bits (fun vs H Q E h => ?_) (fun cdv A outer s H vs Q E hr h => ?_)
  · obtain ⟨m, rfl, _⟩ := h
    rfl
  · obtain ⟨m, rfl, m3, q⟩ := h
    refine ⟨_, pss_cons (ps_set (i := 1) sc_all_bits.nd rfl (.inl rfl) (pe_lst (pa_cons (pe_tup pa_nil) pa_nil)))
      (pss_cons (ps_for PassesOwn.never rfl (pi_range1 (by rfl) mr (pa_cons (pv 0) pa_nil)) (pg_name (i := 2) sc_all_bits.nd rfl (.inl rfl))
        (pss_one (ps_setLc2 (i := 1) (own := [("bits", 3), ("bit", 4)]) (vs1 := [4]) (g := gName 3) (g1 := gName 4) (wi1 := iTup K (tTup (tCons (tC (.int 0)) (tCons (tC (.int 1)) tNil)))) (by rfl) sc_all_bits.nd rfl rfl (sw_true rfl rfl rfl (by decide +kernel)) (pi_list (pv 1)) (blkOk_by (own := [("bits", 3), ("bit", 4)]) (N := N_all_bits) (sc := defScope s_all_bits) (by decide +kernel)) (by decide)
          (fun _ _ _ _ _ => pg_name (i := 3) sc_all_bits.nd rfl (Or.inl rfl)) (fun _ _ _ _ _ => pts_nil) (fun _ _ _ _ _ => pi_tup (pe_tup (pa_cons pe_int (pa_cons pe_int pa_nil))))
          (fun _ _ _ _ _ => pg_name (i := 4) sc_all_bits.nd rfl (Or.inl rfl)) (fun _ _ _ _ _ => pts_nil) (fun _ _ _ _ _ => pe_op op_catZ (pv 3) (pe_tup (pa_cons (pv 4) pa_nil))))))
      (pss_one (ps_ret (pv 1)))), ?_⟩
    refine ⟨by show 0 ≤ sizeLine; decide, fun T hT => ⟨by show 1 ≤ sizeLine; decide, fun L hL => ?_⟩⟩
    have s1 := same_new (o := .tup []) hT
    have s2 := same_new (o := .lst [.ref T]) hL
    refine ⟨.int m, rfl, m, rfl, by omega, by omega, for_range (lo := 0) (n := m) (fun i σ H3 => ∃ y2 F1 fs, σ = [some (.int (m : Int)), some (.ref F1), y2, none, none] ∧ H F1 = none ∧ H3 F1 = some (.lst (fs.map V.ref)) ∧ TAt H3 fs (allB i) ∧ Same H H3) ⟨none, L, [T], rfl, s1.free hL, upd_same, .cons (s2 _ _ upd_same) .nil, s1.trans s2⟩ (fun i σ H3 hi hp => ?_) (fun σ H3 hp => ?_)⟩
    · obtain ⟨y2, F1, fs, rfl, nF, eF, hf, sm⟩ := hp
      have fl : fs.length ≤ 8 := by
        rw [awLen hf, allB_len]
        exact Nat.le_trans (Nat.pow_le_pow_right (by decide) (show i ≤ 3 by omega)) (by decide)
      refine ⟨.ref F1, rfl, F1, rfl, ⟨_, .inl (.inl eF)⟩, fun M hM => ?_⟩
      refine walk_gen (walk_list (K := K) (a := F1) (xs := fs.map V.ref)) (fun j H4 => ∃ gs, H4 M = some (.lst (gs.map V.ref)) ∧ TAt H4 gs (ext2 ((allB i).take j)) ∧ Same H3 H4) ⟨[], upd_same, .nil, same_new hM⟩ (fun j H4 _ hp => ?_) (fun j x H4 H5 hj hp hy => ?_) (fun H4 hp => ?_)
      · obtain ⟨_, _, _, s4⟩ := hp
        exact .inl (.inl (s4 _ _ eF))
      · obtain ⟨gs, eM, hg, s4⟩ := hp
        obtain ⟨rfl, hx⟩ := hy
        have hj2 : j < fs.length := by rwa [List.length_map] at hj
        have hx' : x = .ref fs[j] := by
          rw [List.getElem?_map, List.getElem?_eq_getElem hj2] at hx
          exact (Option.some.inj hx).symm
        subst hx'
        obtain ⟨b, hb1, hb2⟩ := awGet hf (List.getElem?_eq_getElem hj2)
        have bl : b.length = i := (allB_ok i b (List.mem_of_getElem? hb1)).1
        refine ⟨rfl, by show 2 ≤ sizeLine; decide, fun U hU => ?_⟩
        have sU := same_new (o := .tup [.int 0, .int 1]) hU
        refine ⟨U, rfl, ⟨_, SqT.of upd_same⟩, ?_⟩
        refine walk_gen (walk_tup (K := K) (a := U) (xs := [.int 0, .int 1])) (fun t H6 => ∃ gs, H6 M = some (.lst (gs.map V.ref)) ∧ TAt H6 gs (ext2 ((allB i).take j) ++ [b ++ [0], b ++ [1]].take t) ∧ TupsStay (upd H5 U (.tup [.int 0, .int 1])) H6 ∧ Same H3 H6) ⟨gs, sU _ _ eM, (by rw [List.take_zero, List.append_nil]; exact tat_stay (Same.tups sU) hg), (fun _ _ e => e), s4.trans sU⟩ (fun t H6 _ hp => ?_) (fun t x H6 H7 ht hp hy => ?_) (fun H6 hp => ?_)
        · obtain ⟨_, _, _, t6, _⟩ := hp
          exact SqT.of (t6 _ _ upd_same)
        · obtain ⟨gs, eM6, hg6, t6, s6⟩ := hp
          obtain ⟨rfl, hx⟩ := hy
          obtain ⟨z, rfl, hz⟩ : ∃ z : Int, x = .int z ∧ [b ++ [0], b ++ [1]].take (t + 1) = [b ++ [0], b ++ [1]].take t ++ [b ++ [z]] := by
            have ht2 : t = 0 ∨ t = 1 := by
              have : t < 2 := ht
              omega
            rcases ht2 with rfl | rfl
            · exact ⟨0, (Option.some.inj hx).symm, rfl⟩
            · exact ⟨1, (Option.some.inj hx).symm, rfl⟩
          have eb := s6 _ _ (hb2)
          refine ⟨rfl, .ref fs[j], rfl, .int z, rfl, by show 1 ≤ sizeLine; decide, fun U2 hU2 => ?_⟩
          have sU2 := same_new (o := .tup [.int z]) hU2
          refine ⟨fs[j], U2, _, _, rfl, rfl, sU2 _ _ eb, upd_same, by rw [List.length_map]; exact Nat.le_of_lt (small1000 (by show b.length + 1 ≤ 1000; omega)), fun p H8 s8 ep => ?_⟩
          have s78 := sU2.trans s8
          have eM8 := s78 _ _ eM6
          have gl := awLen hg6
          have gl2 : gs.length ≤ 18 := by
            rw [gl, List.length_append, ext2_len, List.length_take]
            have e1 : (allB i).length = fs.length := (awLen hf).symm
            have e2 : ([b ++ [0], b ++ [1]].take t).length ≤ 2 := by
              rw [List.length_take]
              exact Nat.min_le_right _ _
            omega
          have tp := tups_put (o := .lst (gs.map V.ref ++ [V.ref p])) eM8
          refine ⟨_, eM8, by rw [List.length_map]; exact small1000 (by omega), gs ++ [p], ?_, ?_, ?_, ?_⟩
          · rw [upd_same, List.map_append]
            rfl
          · rw [hz, ← List.append_assoc]
            refine tat_stay tp (awSnoc (F := fun f (bs : List Int) => H8 f = some (.tup (bs.map V.int))) ?_ (tat_stay (Same.tups s78) hg6))
            rw [ep, List.map_append]
            rfl
          · exact (t6.trans (Same.tups s78)).trans tp
          · intro c u e
            rw [upd_ne (ne_of_none e hM)]
            exact s78 c u (s6 c u e)
        · obtain ⟨gs, eM6, hg6, t6, s6⟩ := hp
          refine ⟨gs, eM6, ?_, s6⟩
          have e1 : ext2 ((allB i).take (j + 1)) = ext2 ((allB i).take j) ++ [b ++ [0], b ++ [1]] := by
            rw [List.take_add_one, hb1]
            unfold ext2
            rw [List.flatMap_append]
            rfl
          rw [e1]
          exact hg6
      · obtain ⟨gs, eM, hg, s4⟩ := hp
        refine ⟨some (.int (0 + i)), M, gs, rfl, sm.free hM, eM, ?_, sm.trans s4⟩
        rw [List.length_map, awLen hf, List.take_length] at hg
        exact hg
    · obtain ⟨y2, F1, fs, rfl, nF, eF, hf, sm⟩ := hp
      exact ⟨.ref F1, rfl, q _ F1 fs sm nF eF hf⟩
/-- the steps of a carry: for all bits the bit of out and the next carry -/
def stp (m : Nat) (ds : List Deed) (o : Int) (cs : List Int) : List (Int × List Int) := (allB m).map fun bs => ((bts ds cs bs).getD o.toNat 0, nxt ds cs (bts ds cs bs))
theorem stp_len (m : Nat) (ds : List Deed) (o : Int) (cs : List Int) : (stp m ds o cs).length = 2 ^ m := by
  unfold stp
  rw [List.length_map, allB_len]
abbrev StAt (H : Hp) : List Addr → List (Int × List Int) → Prop := Paired fun q e => ∃ c, H q = some (.tup [.int e.1, .ref c]) ∧ H c = some (.tup (e.2.map V.int))
theorem stat_stay {H H' : Hp} (t : TupsStay H H') {ps : List Addr} {l : List (Int × List Int)} (h : StAt H ps l) : StAt H' ps l := awMap (fun q e z => z.elim fun c y => ⟨c, t _ _ y.1, t _ _ y.2⟩) h
def spSt : Sp := fun vs H Q _ => ∃ (R C : Addr) (m : Nat) (o : Int) (ds : List Deed) (cs : List Int), vs = [.ref R, .ref C] ∧ RowAt H R m ds o ∧ RowOk m ds o ∧ H C = some (.tup (cs.map V.int)) ∧ cs.length = ds.length ∧
  ∀ H' p ps, Same H H' → H p = none → H' p = some (.lst (ps.map V.ref)) → StAt H' ps (stp m ds o cs) → Q (.ref p) H'
theorem ok_st {f fA fB fC : Addr} {fd fdA fdB fdC : FuncData} {k : Nat} (F : Fun K "steps" "steps" s_steps f fd)
    (GA : FnOk P w K mg base CX0 (k + 1) fA fdA ["many"] spAll) (kA : PySem.W.keepIn K (.ref fA) = true) (bA : Binds K fdA ["many"] []) (gA : mg "all_bits" = some (.ref fA))
    (GB : FnOk P w K mg base CX0 (k + 2) fB fdB ["row", "carry", "bits"] spBo) (kB : PySem.W.keepIn K (.ref fB) = true) (bB : Binds K fdB ["row", "carry", "bits"] []) (gB : mg "bits_of" = some (.ref fB))
    (GC : FnOk P w K mg base CX0 (k + 3) fC fdC ["row", "carry", "told"] spCb) (kC : PySem.W.keepIn K (.ref fC) = true) (bC : Binds K fdC ["row", "carry", "told"] []) (gC : mg "carry_behind" = some (.ref fC)) : FnOk P w K mg base CX0 (k + 4) f fd ["row", "carry"] spSt := by
  refine F.ok sc_steps (fun vs H Q E h => ?_) (fun cdv A outer s H vs Q E hr h => ?_)
  · obtain ⟨R, C, m, o, ds, cs, rfl, _⟩ := h
    rfl
  · obtain ⟨R, C, m, o, ds, cs, rfl, hrow, hok, eC, hcl, q⟩ := h
    obtain ⟨D, rs, eR, eD, hd⟩ := id hrow
    have r1 := hr.mono (show k + 1 ≤ k + 3 by omega)
    have r2 := hr.mono (show k + 2 ≤ k + 3 by omega)
    refine ⟨_, pss_cons (ps_set (i := 2) sc_steps.nd rfl (.inl rfl) (pe_lst pa_nil))
      (pss_cons (ps_for PassesOwn.never rfl (pi_list (pe_call GA r1 (by rfl) gA kA bA .nil pass0 (pa_cons (pe_ix ix_tup (pv 0) pe_int (fun _ _ => rfl)) pa_nil))) (pg_name (i := 3) sc_steps.nd rfl (.inl rfl))
        (pss_cons (ps_set (i := 4) sc_steps.nd rfl (.inl rfl) (pe_call GB r2 (by rfl) gB kB bB .nil pass0 (pa_cons (pv 0) (pa_cons (pv 1) (pa_cons (pv 3) pa_nil)))))
        (pss_one (ps_expr (pe_bm PySem.F.plainAttrs_list PySem.F.slot_list_append PySem.F.type_list_append mt_append (pv 2) (pa_cons (pe_tup (pa_cons (pe_ix ix_tup (pv 4) (pe_ix ix_tup (pv 0) pe_int (fun _ _ => rfl)) (fun _ _ => rfl)) (pa_cons (pe_call GC hr (by rfl) gC kC bC .nil pass0 (pa_cons (pv 0) (pa_cons (pv 1) (pa_cons (pv 4) pa_nil)))) pa_nil))) pa_nil))))))
      (pss_one (ps_ret (pv 2)))), ?_⟩
    have m1 := hok.m1
    have m3 := hok.m3
    have l8 := hok.len
    refine ⟨Nat.zero_le _, fun L hL => ?_⟩
    have sL := same_new (o := .lst []) hL
    refine ⟨.ref R, rfl, R, _, 0, .int m, rfl, rfl, SqT.of (sL _ _ eR), rfl, m, rfl, by omega, fun H1 B fs s1 nB eB hf => ?_⟩
    have nLB : B ≠ L := fun z => by rw [z, upd_same] at nB; cases nB
    have fl : fs.length = 2 ^ m := by rw [awLen hf, allB_len]
    have f8 : fs.length ≤ 8 := by
      rw [fl]
      exact Nat.le_trans (Nat.pow_le_pow_right (by decide) (show m ≤ 3 by omega)) (by decide)
    have old : ∀ H5 o, Same H H5 → Same H (upd H5 L o) := fun H5 o s5 b u e => by
      rw [upd_ne (ne_of_none e hL)]
      exact s5 b u e
    refine ⟨B, rfl, ⟨_, .inl (.inl eB)⟩, for_list (K := K) (a := B) (xs := fs.map V.ref) (fun i σ H3 => ∃ y3 y4 ps, σ = [some (.ref R), some (.ref C), some (.ref L), y3, y4] ∧ H3 L = some (.lst (ps.map V.ref)) ∧ StAt H3 ps ((stp m ds o cs).take i) ∧ H3 B = some (.lst (fs.map V.ref)) ∧ TAt H3 fs (allB m) ∧ Same H H3)
      ⟨none, none, [], rfl, s1 _ _ upd_same, .nil, eB, hf, sL.trans s1⟩ (fun i σ H3 _ hp => ?_) (fun i x σ H3 hx hp => ?_) (fun σ H3 hp => ?_)⟩
    · obtain ⟨_, _, _, _, _, _, e, _⟩ := hp
      exact .inl (.inl e)
    · obtain ⟨y3, y4, ps, rfl, eL, hs, eB3, hf3, s3⟩ := hp
      have hi : i < fs.length := by
        have := (List.getElem?_eq_some_iff.mp hx).1
        rwa [List.length_map] at this
      have hx' : x = .ref fs[i] := by
        rw [List.getElem?_map, List.getElem?_eq_getElem hi] at hx
        exact (Option.some.inj hx).symm
      subst hx'
      obtain ⟨bs, hb1, hb2⟩ := awGet hf3 (List.getElem?_eq_getElem hi)
      obtain ⟨bl, bb⟩ := allB_ok m bs (List.mem_of_getElem? hb1)
      refine ⟨.ref R, rfl, .ref C, rfl, .ref fs[i], rfl, R, C, fs[i], m, o, ds, cs, bs, rfl, (Same.tups s3).row hrow, hok.deeds, by omega, s3 _ _ eC, hcl, hb2, by rw [bl], by omega, fun H4 T s4 nT eT => ?_⟩
      have tl : (bts ds cs bs).length = m + ds.length := by rw [bts_len hcl.symm, bl]
      have o0 := hok.o0
      have o1 := hok.o1
      refine ⟨.ref L, rfl, .inl ⟨rfl, _, .inl (.inl (s4 _ _ eL))⟩, .ref T, rfl, .ref R, rfl, R, _, 2, .int o, rfl, rfl, SqT.of (s4 _ _ (s3 _ _ eR)), rfl, T, _, o, _, rfl, rfl, SqT.of eT, atI_ints o0 (by omega), ?_⟩
      refine ⟨.ref R, rfl, .ref C, rfl, .ref T, rfl, R, C, T, m, o, ds, cs, _, rfl, (Same.tups (s3.trans s4)).row hrow, hok.deeds, by omega, s4 _ _ (s3 _ _ eC), hcl, eT, by rw [tl]; omega, fun H5 N s5 nN eN => ?_⟩
      refine ⟨by show 2 ≤ sizeLine; decide, fun p hp => ?_⟩
      have sp := same_new (o := .tup [.int ((bts ds cs bs).getD o.toNat 0), .ref N]) hp
      have s46 := (s4.trans s5).trans sp
      have eL6 := s46 _ _ eL
      have e1 : (stp m ds o cs)[i]? = some ((bts ds cs bs).getD o.toNat 0, nxt ds cs (bts ds cs bs)) := by
        unfold stp
        rw [List.getElem?_map, hb1]
        rfl
      have pl := awLen hs
      rw [List.length_take] at pl
      have tp := tups_put (o := .lst (ps.map V.ref ++ [V.ref p])) eL6
      refine ⟨L, _, _, rfl, rfl, eL6, ?_, some (.ref fs[i]), some (.ref T), ps ++ [p], rfl, ?_, ?_, ?_, ?_, ?_⟩
      · rw [List.length_map]
        exact small1000 (by omega)
      · rw [upd_same, List.map_append]
        rfl
      · rw [List.take_add_one, e1]
        exact stat_stay tp (awSnoc (F := fun (q : Addr) (e : Int × List Int) => ∃ c, (upd H5 p (.tup [.int ((bts ds cs bs).getD o.toNat 0), .ref N])) q = some (.tup [.int e.1, .ref c]) ∧ (upd H5 p (.tup [.int ((bts ds cs bs).getD o.toNat 0), .ref N])) c = some (.tup (e.2.map V.int))) ⟨N, upd_same, sp _ _ eN⟩ (stat_stay (Same.tups s46) hs))
      · rw [upd_ne nLB]
        exact s46 _ _ eB3
      · exact tat_stay tp (tat_stay (Same.tups s46) hf3)
      · exact old _ _ (s3.trans s46)
    · obtain ⟨y3, y4, ps, rfl, eL, hs, eB3, hf3, s3⟩ := hp
      rw [List.length_map, fl, ← stp_len m ds o cs, List.take_length] at hs
      exact ⟨.ref L, rfl, q _ L ps s3 hL eL hs⟩
/-! ### dicts by lists of ints -/
abbrev kI (c : List Int) : List Key := c.map Sum.inl
theorem kI_V (c : List Int) : (kI c).map kV = c.map V.int := by
  rw [List.map_map]
  rfl
theorem ints_inj : ∀ {a b : List Int}, a.map V.int = b.map V.int → a = b
  | [], [], _ => rfl
  | [], _ :: _, h => nomatch h
  | _ :: _, [], h => nomatch h
  | x :: a, y :: b, h => by
    rw [List.map_cons, List.map_cons, List.cons.injEq] at h
    rw [V.int.inj h.1, ints_inj h.2]
theorem kI_inj {a b : List Int} (h : kI a = kI b) : a = b := by
  have e := congrArg (List.map kV) h
  rw [kI_V, kI_V] at e
  exact ints_inj e
section tab
variable {α : Type}
def emb (f : α → V) (es : List (List Int × α)) : List (List Key × V) := es.map fun e => (kI e.1, f e.2)
def getA (es : List (List Int × α)) (c : List Int) : Option α := (es.find? fun e => decide (e.1 = c)).map (·.2)
def putA (es : List (List Int × α)) (c : List Int) (v : α) : List (List Int × α) := if c ∈ es.map (·.1) then es.map (fun e => if e.1 = c then (e.1, v) else e) else es ++ [(c, v)]
theorem emb_get (f : α → V) (c : List Int) : ∀ es : List (List Int × α), valV (emb f es) (kI c) = (getA es c).map f
  | [] => rfl
  | e :: es => by
    have ih := emb_get f c es
    unfold emb getA at *
    rw [List.map_cons, List.find?_cons]
    by_cases h : e.1 = c
    · rw [valV_pos (show (kI e.1, f e.2).1 = kI c by rw [h]), decide_eq_true h]
      rfl
    · rw [valV_neg (fun z => h (kI_inj z)), decide_eq_false h]
      exact ih
theorem getA_none {c : List Int} : ∀ {es : List (List Int × α)}, getA es c = none ↔ c ∉ es.map (·.1)
  | [] => by simp [getA]
  | e :: es => by
    have ih := getA_none (c := c) (es := es)
    unfold getA at *
    rw [List.find?_cons, List.map_cons, List.mem_cons, not_or]
    by_cases h : e.1 = c
    · simp [h]
    · rw [decide_eq_false h]
      exact ⟨fun z => ⟨fun y => h y.symm, ih.mp z⟩, fun z => ih.mpr z.2⟩
theorem getA_some {c : List Int} {v : α} {es : List (List Int × α)} (h : getA es c = some v) : (c, v) ∈ es := by
  unfold getA at h
  cases e : es.find? fun e => decide (e.1 = c) with
  | none => rw [e] at h; cases h
  | some p =>
    rw [e] at h
    have h1 := List.mem_of_find?_eq_some e
    have h2 : p.1 = c := of_decide_eq_true (List.find?_some (p := fun e : List Int × α => decide (e.1 = c)) e)
    obtain rfl : p.2 = v := Option.some.inj h
    rw [← h2]
    exact h1
theorem getA_of {c : List Int} {v : α} : ∀ {es : List (List Int × α)}, (es.map (·.1)).Nodup → (c, v) ∈ es → getA es c = some v
  | [], _, h => nomatch h
  | e :: es, nd, h => by
    rw [List.map_cons, List.nodup_cons] at nd
    unfold getA
    rw [List.find?_cons]
    rcases List.mem_cons.mp h with h | h
    · rw [← h]
      simp
    · have hne : ¬ e.1 = c := fun z => nd.1 (z ▸ List.mem_map.mpr ⟨_, h, rfl⟩)
      rw [decide_eq_false hne]
      exact getA_of nd.2 h
theorem emb_put (f : α → V) (es : List (List Int × α)) (c : List Int) (v : α) : putK (emb f es) (kI c) (f v) = emb f (putA es c v) := by
  unfold putK putA
  by_cases h : c ∈ es.map (·.1)
  · rw [if_pos h, if_pos]
    · unfold emb
      rw [List.map_map, List.map_map]
      apply List.map_congr_left
      intro e _
      show (if kI e.1 = kI c then (kI e.1, f v) else (kI e.1, f e.2)) = _
      by_cases he : e.1 = c
      · rw [if_pos (congrArg kI he)]
        simp [he]
      · rw [if_neg (fun z => he (kI_inj z))]
        simp [he]
    · rw [List.any_eq_true]
      obtain ⟨e, h1, h2⟩ := List.mem_map.mp h
      exact ⟨(kI e.1, f e.2), List.mem_map.mpr ⟨e, h1, rfl⟩, by simp [h2]⟩
  · rw [if_neg h, if_neg]
    · unfold emb
      rw [List.map_append]
      rfl
    · intro z
      rw [List.any_eq_true] at z
      obtain ⟨p, h1, h2⟩ := z
      obtain ⟨e, h3, rfl⟩ := List.mem_map.mp h1
      exact h (List.mem_map.mpr ⟨e, h3, kI_inj (of_decide_eq_true h2)⟩)
theorem putA_keys {es : List (List Int × α)} {c : List Int} {v : α} : (putA es c v).map (·.1) = if c ∈ es.map (·.1) then es.map (·.1) else es.map (·.1) ++ [c] := by
  unfold putA
  split
  · rw [List.map_map]
    apply List.map_congr_left
    intro e _
    show (if e.1 = c then (e.1, v) else e).1 = e.1
    split <;> rfl
  · rw [List.map_append]
    rfl
theorem putA_nodup {es : List (List Int × α)} {c : List Int} {v : α} (h : (es.map (·.1)).Nodup) : ((putA es c v).map (·.1)).Nodup := by
  rw [putA_keys]
  split
  · exact h
  · rename_i hn
    rw [List.nodup_append]
    refine ⟨h, by simp, fun a ha b hb => ?_⟩
    rw [List.mem_singleton.mp hb]
    exact fun z => hn (z ▸ ha)
theorem mem_putA {es : List (List Int × α)} {c : List Int} {v : α} {e : List Int × α} : e ∈ putA es c v ↔ e = (c, v) ∨ (e ∈ es ∧ e.1 ≠ c) := by
  unfold putA
  by_cases h : c ∈ es.map (·.1)
  · rw [if_pos h, List.mem_map]
    constructor
    · rintro ⟨a, h1, rfl⟩
      by_cases ha : a.1 = c
      · rw [if_pos ha, ha]
        exact .inl rfl
      · rw [if_neg ha]
        exact .inr ⟨h1, ha⟩
    · rintro (rfl | ⟨h1, h2⟩)
      · obtain ⟨a, h1, h2⟩ := List.mem_map.mp h
        exact ⟨a, h1, by rw [if_pos h2, h2]⟩
      · exact ⟨e, h1, if_neg h2⟩
  · rw [if_neg h, List.mem_append, List.mem_singleton]
    constructor
    · rintro (h1 | h1)
      · exact .inr ⟨h1, fun z => h (z ▸ List.mem_map.mpr ⟨e, h1, rfl⟩)⟩
      · exact .inl h1
    · rintro (h1 | h1)
      · exact .inr h1
      · exact .inl h1.1
end tab
/-- few: all keys are bits, as many as there are deeds -/
theorem few_keys {α : Type} {n : Nat} {es : List (List Int × α)} (nd : (es.map (·.1)).Nodup) (hb : ∀ e ∈ es, e.1.length = n ∧ ∀ x ∈ e.1, Bit x) (hn : n ≤ 8) : es.length ≤ 256 := by
  have h := pigeon (es.map (·.1)) (allB n) nd fun c hc => by
    obtain ⟨e, he, rfl⟩ := List.mem_map.mp hc
    exact allB_all n _ (hb e he).1 (hb e he).2
  rw [List.length_map, allB_len] at h
  exact Nat.le_trans h (Nat.le_trans (Nat.pow_le_pow_right (by decide) hn) (by decide))
/-! ### carries -/
theorem iteP {c A B : Prop} [Decidable c] (h : c) (a : A) : if c then A else B := by
  rw [if_pos h]
  exact a
theorem nil_or_snoc {α : Type} (l : List α) : l = [] ∨ ∃ k x, l = k ++ [x] := by
  rcases List.eq_nil_or_concat l with h | ⟨k, x, h⟩
  · exact .inl h
  · exact .inr ⟨k, x, by rw [h, List.concat_eq_append]⟩
def snd2 (L : List (Addr × List Int)) : List (List Int) := L.map (·.2)
abbrev TAll (H : Hp) (L : List (Addr × List Int)) : Prop := ∀ q ∈ L, H q.1 = some (.tup (q.2.map V.int))
theorem tall_stay {H H' : Hp} (t : TupsStay H H') {L : List (Addr × List Int)} (h : TAll H L) : TAll H' L := fun q hq => t _ _ (h q hq)
theorem tups_set {H : Hp} {S : Addr} {L L' : List (Addr × List Int)} (h : H S = some (SetTO P w S L)) : TupsStay H (upd H S (SetTO P w S L')) := fun b ys e => by
  rw [upd_ne (ne_of e h (fun z => by unfold SetTO at z; cases z))]
  exact e
def succs (m : Nat) (ds : List Deed) (c : List Int) (n : Nat) (X : List (List Int)) : Prop := ∀ bs ∈ (allB m).take n, nxt ds c (bts ds c bs) ∈ X
/-- what has been seen while c is looked at: its first n bits are gone through -/
structure Seen (m : Nat) (ds : List Deed) (X Wt : List (List Int)) (cur : Option (List Int)) : Prop where
  nd : X.Nodup
  rch : ∀ c ∈ X, Rch m ds c
  fst : ds.map fcD ∈ X
  wt : ∀ c ∈ Wt, c ∈ X
  cu : ∀ c, cur = some c → c ∈ X
  cl : ∀ c ∈ X, some c = cur ∨ c ∈ Wt ∨ succs m ds c (2 ^ m) X
theorem Seen.few {m : Nat} {ds : List Deed} {X Wt : List (List Int)} {cur : Option (List Int)} (h : Seen m ds X Wt cur) (h5 : carN ds ≤ 5) : X.length ≤ 32 := by
  have z := pigeon X (univ ds) h.nd fun c hc => shp_univ (rch_shp (h.rch c hc))
  rw [univ_len] at z
  exact Nat.le_trans z (Nat.le_trans (Nat.pow_le_pow_right (by decide) h5) (by decide))
theorem Seen.grow {m : Nat} {ds : List Deed} {X X' Wt : List (List Int)} {c a : List Int} (h : Seen m ds X Wt (some c)) (hp : X'.Perm (a :: X)) (hn : a ∉ X) (hr : Rch m ds a) : Seen m ds X' (Wt ++ [a]) (some c) := by
  have sub : ∀ y ∈ X, y ∈ X' := fun y hy => hp.mem_iff.mpr (List.mem_cons_of_mem _ hy)
  refine ⟨hp.nodup_iff.mpr (List.nodup_cons.mpr ⟨hn, h.nd⟩), fun y hy => ?_, sub _ h.fst, fun y hy => ?_, fun y hy => sub _ (h.cu y hy), fun y hy => ?_⟩
  · rcases List.mem_cons.mp (hp.mem_iff.mp hy) with rfl | hy
    · exact hr
    · exact h.rch y hy
  · rcases List.mem_append.mp hy with hy | hy
    · exact sub _ (h.wt y hy)
    · rw [List.mem_singleton.mp hy]
      exact hp.mem_iff.mpr List.mem_cons_self
  · rcases List.mem_cons.mp (hp.mem_iff.mp hy) with rfl | hy
    · exact .inr (.inl (List.mem_append_right _ List.mem_cons_self))
    · rcases h.cl y hy with z | z | z
      · exact .inl z
      · exact .inr (.inl (List.mem_append_left _ z))
      · exact .inr (.inr fun bs hb => sub _ (z bs hb))
theorem Seen.done {m : Nat} {ds : List Deed} {X Wt : List (List Int)} {c : List Int} (h : Seen m ds X Wt (some c)) (hs : succs m ds c (2 ^ m) X) : Seen m ds X Wt none := by
  refine ⟨h.nd, h.rch, h.fst, h.wt, (fun _ z => nomatch z), fun y hy => ?_⟩
  rcases h.cl y hy with z | z | z
  · obtain rfl := Option.some.inj z
    exact .inr (.inr hs)
  · exact .inr (.inl z)
  · exact .inr (.inr z)
theorem Seen.take {m : Nat} {ds : List Deed} {X Wt : List (List Int)} {c : List Int} (h : Seen m ds X (Wt ++ [c]) none) : Seen m ds X Wt (some c) := by
  refine ⟨h.nd, h.rch, h.fst, fun y hy => h.wt y (List.mem_append_left _ hy), fun y hy => ?_, fun y hy => ?_⟩
  · obtain rfl := Option.some.inj hy
    exact h.wt _ (List.mem_append_right _ List.mem_cons_self)
  · rcases h.cl y hy with z | z | z
    · cases z
    · rcases List.mem_append.mp z with z | z
      · exact .inr (.inl z)
      · exact .inl (congrArg some (List.mem_singleton.mp z))
    · exact .inr (.inr z)
theorem Seen.all {m : Nat} {ds : List Deed} {X : List (List Int)} (h : Seen m ds X [] none) (c : List Int) : c ∈ X ↔ Rch m ds c := by
  refine ⟨h.rch c, fun hr => ?_⟩
  induction hr with
  | first => exact h.fst
  | next hr hl hb ih =>
    rcases h.cl _ ih with z | z | z
    · cases z
    · cases z
    · refine z _ ?_
      rw [← allB_len m, List.take_length]
      exact allB_all m _ hl hb
theorem seen_first (m : Nat) (ds : List Deed) : Seen m ds [ds.map fcD] [ds.map fcD] none :=
  ⟨List.nodup_cons.mpr ⟨List.not_mem_nil, List.nodup_nil⟩, fun c hc => by rw [List.mem_singleton.mp hc]; exact .first, List.mem_cons_self, fun _ h => h, (fun _ z => nomatch z), fun c hc => .inr (.inl hc)⟩
def spCa : Sp := fun vs H Q _ => ∃ (R : Addr) (m : Nat) (o : Int) (ds : List Deed), vs = [.ref R] ∧ RowAt H R m ds o ∧ RowOk m ds o ∧ m ≤ 3 ∧ ds.length ≤ 8 ∧ carN ds ≤ 5 ∧
  ∀ H' p L, Same H H' → H p = none → H' p = some (.lst (L.map fun q : Addr × List Int => V.ref q.1)) → TAll H' L → (snd2 L).Nodup → (∀ c, c ∈ snd2 L ↔ Rch m ds c) → L.Pairwise (fun q r => TS.code 2 q.2 ≤ TS.code 2 r.2) → Q (.ref p) H'
theorem ok_ca {f fF fN : Addr} {fd fdF fdN : FuncData} {k : Nat} (F : Fun K "carries" "carries" s_carries f fd)
    (GF : FnOk P w K mg base CX0 (k + 1) fF fdF ["row"] spFc) (kF : PySem.W.keepIn K (.ref fF) = true) (bF : Binds K fdF ["row"] []) (gF : mg "first_carry" = some (.ref fF))
    (GN : FnOk P w K mg base CX0 (k + 4) fN fdN ["row", "carry"] spSt) (kN : PySem.W.keepIn K (.ref fN) = true) (bN : Binds K fdN ["row", "carry"] []) (gN : mg "steps" = some (.ref fN))
    (mS : mg "set" = none) (ms : mg "sorted" = none) : FnOk P w K mg base CX0 (k + 5) f fd ["row"] spCa := by
  refine F.ok sc_carries (fun vs H Q E h => ?_) (fun cdv A outer s H vs Q E hr h => ?_)
  · obtain ⟨R, m, o, ds, rfl, _⟩ := h
    rfl
  · obtain ⟨R, m, o, ds, rfl, hrow, hok, hm3, hl8, h5, q⟩ := h
    have hr1 := hr.mono (show k + 1 ≤ k + 4 by omega)
    have hu := hu_of hr
    refine ⟨_, pss_cons (ps_set (i := 1) sc_carries.nd rfl (.inl rfl) (pe_call GF hr1 (by rfl) gF kF bF .nil pass0 (pa_cons (pv 0) pa_nil)))
      (pss_cons (ps_set (i := 2) sc_carries.nd rfl (.inl rfl) (pe_callTy0 cr_set0T (by rfl) mS (by decide +kernel)))
      (pss_cons (ps_expr (pe_saddT hu (pv 2) (pa_cons (pv 1) pa_nil)))
      (pss_cons (ps_set (i := 3) sc_carries.nd rfl (.inl rfl) (pe_lst (pa_cons (pv 1) pa_nil)))
      (pss_cons (ps_while PassesOwn.never (pt_truth (pv 3) (fun _ => rfl))
        (pss_one (ps_for PassesOwn.never rfl (pi_list (pe_call GN hr (by rfl) gN kN bN .nil pass0 (pa_cons (pv 0) (pa_cons (pe_bm0 PySem.F.plainAttrs_list PySem.F.slot_list_pop PySem.F.type_list_pop mt_pop (pv 3)) pa_nil)))) (pg_tup rfl (pgs_cons (pg_name (i := 4) sc_carries.nd rfl (.inl rfl)) (pgs_cons (pg_name (i := 5) sc_carries.nd rfl (.inl rfl)) pgs_nil)))
          (pss_one (ps_if (pt_cmpR (or_snotinT hu) (pv 5) (pv 2) (by rfl))
            (pss_cons (ps_expr (pe_saddT hu (pv 2) (pa_cons (pv 5) pa_nil)))
            (pss_one (ps_expr (pe_bm PySem.F.plainAttrs_list PySem.F.slot_list_append PySem.F.type_list_append mt_append (pv 3) (pa_cons (pv 5) pa_nil))))) pss_nil)))))
      (pss_one (ps_ret (pe_callB (cr_sortA rfl) (by rfl) ms (by decide +kernel) (pa_cons (pv 2) pa_nil)))))))), ?_⟩
    obtain ⟨D, rs, eR, eD, hd⟩ := id hrow
    have s1 : Same H H := Same.refl H
    refine ⟨.ref R, rfl, R, m, o, ds, rfl, (Same.tups s1).row hrow, by omega, fun H2 Fi s2 nFi eFi => ?_⟩
    refine ⟨rfl, fun S hS => ?_⟩
    have sS := same_new (o := SetTO P w S []) hS
    have s12 := s1.trans s2
    refine ⟨.ref S, rfl, ⟨S, [], rfl, upd_same, (fun _ z => nomatch z)⟩, .ref Fi, rfl, S, Fi, ds.map fcD, [], rfl, rfl, ⟨upd_same, (fun _ z => nomatch z)⟩, SqT.of (sS _ _ eFi), by decide, fun L0 _ hL0 => ?_⟩
    have pL0 := hL0 List.not_mem_nil
    obtain rfl : L0 = [(Fi, ds.map fcD)] := (List.perm_singleton.mp pL0)
    rw [upd_upd]
    have sS2 := same_new (o := SetTO P w S [(Fi, ds.map fcD)]) hS
    refine ⟨.ref Fi, rfl, by show 1 ≤ sizeLine; decide, fun Wt hWt => ?_⟩
    have sW := same_new (o := .lst [.ref Fi]) hWt
    have sA := (s12.trans sS2).trans sW
    have nS : H S = none := s12.free hS
    have nW : H Wt = none := (s12.trans sS2).free hWt
    have nSW : S ≠ Wt := ne_of_none upd_same hWt
    have keepS : ∀ H4 o, Same H H4 → Same H (upd H4 S o) := fun H4 o s4 b u e => by
      rw [upd_ne (ne_of_none e nS)]
      exact s4 b u e
    have keepW : ∀ H4 o, Same H H4 → Same H (upd H4 Wt o) := fun H4 o s4 b u e => by
      rw [upd_ne (ne_of_none e nW)]
      exact s4 b u e
    -- the heap while it goes
    refine ⟨fun n σ H3 => ∃ y4 y5 L ws, σ = [some (.ref R), some (.ref Fi), some (.ref S), some (.ref Wt), y4, y5] ∧ H3 S = some (SetTO P w S L) ∧ TAll H3 L ∧ H3 Wt = some (.lst (ws.map fun q : Addr × List Int => V.ref q.1)) ∧ TAll H3 ws ∧ Same H H3 ∧ Seen m ds (snd2 L) (snd2 ws) none ∧ n = 2 * (32 - L.length) + ws.length ∧ n ≤ 63,
      ⟨_, none, none, [(Fi, ds.map fcD)], [(Fi, ds.map fcD)], rfl, sW _ _ upd_same, fun q hq => ?_, upd_same, fun q hq => ?_, sA, seen_first m ds, rfl, by show 2 * (32 - 1) + 1 ≤ 63; decide⟩, fun n σ H3 hp => ?_⟩
    · rw [List.mem_singleton.mp hq]
      exact sW _ _ (sS2 _ _ eFi)
    · rw [List.mem_singleton.mp hq]
      exact sW _ _ (sS2 _ _ eFi)
    obtain ⟨y4, y5, L, ws, rfl, eS, tL, eW, tW, s3, sn, rfl, n63⟩ := hp
    refine ⟨.ref Wt, rfl, _, .inl ⟨_, .inl (.inl eW), rfl⟩, ?_⟩
    have Lf := sn.few h5
    have Lf2 : L.length ≤ 32 := by
      unfold snd2 at Lf
      rwa [List.length_map] at Lf
    rcases nil_or_snoc ws with rfl | ⟨ws, c0, rfl⟩
    · -- all is seen
      refine ⟨.ref S, rfl, S, L, ds.length, 2, rfl, ⟨eS, fun q hq => SqT.of (tL q hq)⟩, fun q hq => ?_, fun L' p hp nd srt hn => ?_⟩
      · have sh := rch_shp (sn.rch q.2 (List.mem_map.mpr ⟨q, hq, rfl⟩))
        refine ⟨sh.len, fun x hx => ?_⟩
        rcases sh.bits x hx with rfl | rfl
        · exact ⟨by decide, by decide⟩
        · exact ⟨by decide, by decide⟩
      · have sp := same_new (o := .lst (L'.map fun q => V.ref q.1)) hn
        refine q _ p L' (s3.trans sp) (s3.free hn) upd_same (fun z hz => sp _ _ (tL z (hp.mem_iff.mp hz))) nd (fun c => ?_) srt
        have e : c ∈ snd2 L' ↔ c ∈ snd2 L := (hp.map (·.2)).mem_iff
        rw [e]
        exact sn.all c
    · -- one more
      have tb : (!((ws ++ [c0]).map fun q : Addr × List Int => V.ref q.1).isEmpty) = true := by simp
      refine iteP tb ?_
      have cin : Seen m ds (snd2 L) (snd2 ws) (some c0.2) := by
        have e : snd2 (ws ++ [c0]) = snd2 ws ++ [c0.2] := by
          unfold snd2
          rw [List.map_append]
          rfl
        rw [e] at sn
        exact sn.take
      have ecut : ((ws ++ [c0]).map fun q : Addr × List Int => V.ref q.1).dropLast = ws.map fun q : Addr × List Int => V.ref q.1 := by
        rw [List.map_append]
        exact List.dropLast_concat
      have elast : ((ws ++ [c0]).map fun q : Addr × List Int => V.ref q.1)[((ws ++ [c0]).map fun q : Addr × List Int => V.ref q.1).length - 1]? = some (.ref c0.1) := by
        rw [List.map_append, List.length_append]
        show (ws.map (fun q : Addr × List Int => V.ref q.1) ++ [V.ref c0.1])[(ws.map fun q : Addr × List Int => V.ref q.1).length + 1 - 1]? = _
        rw [Nat.add_sub_cancel, List.getElem?_append_right (Nat.le_refl _), Nat.sub_self]
        rfl
      have wl : (ws ++ [c0]).length = ws.length + 1 := by
        rw [List.length_append]
        rfl
      refine ⟨fun σ' H' => ∃ m', m' < 2 * (32 - L.length) + (ws ++ [c0]).length ∧ (∃ y4 y5 L ws, σ' = [some (.ref R), some (.ref Fi), some (.ref S), some (.ref Wt), y4, y5] ∧ H' S = some (SetTO P w S L) ∧ TAll H' L ∧ H' Wt = some (.lst (ws.map fun q : Addr × List Int => V.ref q.1)) ∧ TAll H' ws ∧ Same H H' ∧ Seen m ds (snd2 L) (snd2 ws) none ∧ m' = 2 * (32 - L.length) + ws.length ∧ m' ≤ 63), fun σ' H' z => z, .ref R, rfl, .ref Wt, rfl, .inl ⟨rfl, _, .inl (.inl eW)⟩, Wt, _, .ref c0.1, rfl, rfl, eW, elast, ?_⟩
      · rw [ecut]
        have tp := tups_put (o := .lst (ws.map fun q : Addr × List Int => V.ref q.1)) eW
        have ec3 := tp _ _ (tW c0 (List.mem_append_right _ List.mem_cons_self))
        have rc0 := cin.rch c0.2 (cin.cu _ rfl)
        have cl0 := (rch_shp rc0).len
        have sk := keepW H3 (.lst (ws.map fun q : Addr × List Int => V.ref q.1)) s3
        refine ⟨R, c0.1, m, o, ds, c0.2, rfl, (Same.tups sk).row hrow, hok, ec3, cl0, fun H9 C ps s9 nC eC hps => ?_⟩
        have psl : ps.length = 2 ^ m := by rw [awLen hps, stp_len]
        have nCS : C ≠ S := fun z => by rw [z, upd_ne nSW, eS] at nC; cases nC
        have nCW : C ≠ Wt := fun z => by rw [z, upd_same] at nC; cases nC
        have tp9 := tp.trans (Same.tups s9)
        refine ⟨C, rfl, ⟨_, .inl (.inl eC)⟩, for_list (K := K) (a := C) (xs := ps.map V.ref) (fun i σ H4 => ∃ y4 y5 L2 ws2, σ = [some (.ref R), some (.ref Fi), some (.ref S), some (.ref Wt), y4, y5] ∧ H4 S = some (SetTO P w S L2) ∧ TAll H4 L2 ∧ H4 Wt = some (.lst (ws2.map fun q : Addr × List Int => V.ref q.1)) ∧ TAll H4 ws2 ∧ H4 C = some (.lst (ps.map V.ref)) ∧ StAt H4 ps (stp m ds o c0.2) ∧ H4 c0.1 = some (.tup (c0.2.map V.int)) ∧ Same H H4 ∧ Seen m ds (snd2 L2) (snd2 ws2) (some c0.2) ∧ succs m ds c0.2 i (snd2 L2) ∧ 2 * (32 - L2.length) + ws2.length ≤ 2 * (32 - L.length) + ws.length)
          ⟨y4, y5, L, ws, rfl, s9 _ _ (by rw [upd_ne nSW]; exact eS), tall_stay tp9 tL, s9 _ _ upd_same, tall_stay tp9 (fun q hq => tW q (List.mem_append_left _ hq)), eC, hps, s9 _ _ ec3, sk.trans s9, cin, (fun bs hb => by rw [List.take_zero] at hb; cases hb), Nat.le_refl _⟩ (fun i σ H4 _ hp => ?_) (fun i x σ H4 hx hp => ?_) (fun σ H4 hp => ?_)⟩
        · obtain ⟨_, _, _, _, _, _, _, _, _, e, _⟩ := hp
          exact .inl (.inl e)
        · obtain ⟨y4, y5, L2, ws2, rfl, eS4, tL4, eW4, tW4, eC4, hf4, ec4, s4, sn4, hsu, hme⟩ := hp
          have hi : i < ps.length := by
            have := (List.getElem?_eq_some_iff.mp hx).1
            rwa [List.length_map] at this
          have hx' : x = .ref ps[i] := by
            rw [List.getElem?_map, List.getElem?_eq_getElem hi] at hx
            exact (Option.some.inj hx).symm
          subst hx'
          obtain ⟨e0, hb1', p, hb2', ep⟩ := awGet hf4 (List.getElem?_eq_getElem hi)
          obtain ⟨bs, hb1, he0⟩ : ∃ bs, (allB m)[i]? = some bs ∧ e0.2 = nxt ds c0.2 (bts ds c0.2 bs) := by
            unfold stp at hb1'
            rw [List.getElem?_map] at hb1'
            cases hbs : (allB m)[i]? with
            | none => rw [hbs] at hb1'; cases hb1'
            | some bs =>
              rw [hbs] at hb1'
              refine ⟨bs, rfl, ?_⟩
              rw [← Option.some.inj hb1']
          obtain ⟨bl, bb⟩ := allB_ok m bs (List.mem_of_getElem? hb1)
          have s5 : Same H4 H4 := Same.refl H4
          refine ⟨ps[i], [.int e0.1, .ref p], rfl, .inl (.inl hb2'), rfl, .int e0.1, [.ref p], rfl, .ref p, [], rfl, rfl, ?_⟩
          rw [he0] at ep
          have rc := sn4.rch c0.2 (sn4.cu _ rfl)
          have ra : Rch m ds (nxt ds c0.2 (bts ds c0.2 bs)) := .next rc bl bb
          have tk : (allB m).take (i + 1) = (allB m).take i ++ [bs] := by
            rw [List.take_add_one, hb1]
            rfl
          generalize ha : nxt ds c0.2 (bts ds c0.2 bs) = a at ep ra
          have eS5 := s5 _ _ eS4
          have tL5 := tall_stay (Same.tups s5) tL4
          have Lf4 := sn4.few h5
          unfold snd2 at Lf4
          rw [List.length_map] at Lf4
          refine ⟨.ref p, rfl, .ref S, rfl, S, p, a, L2, rfl, rfl, ⟨eS5, fun q hq => SqT.of (tL5 q hq)⟩, SqT.of ep, _, rfl, ite2 (fun e => ?_) (fun e => ?_)⟩
          · have hn : a ∉ L2.map (·.2) := by simpa using e
            refine ⟨.ref S, rfl, ⟨S, L2, rfl, eS5, fun q hq => SqT.of (tL5 q hq)⟩, .ref p, rfl, S, p, a, L2, rfl, rfl, ⟨eS5, fun q hq => SqT.of (tL5 q hq)⟩, SqT.of ep, by omega, fun L3 _ hL3 => ?_⟩
            have pL3 := hL3 hn
            have tS : TupsStay H4 (upd H4 S (SetTO P w S L3)) := tups_set eS5
            have eW6 : upd H4 S (SetTO P w S L3) Wt = some (.lst (ws2.map fun q : Addr × List Int => V.ref q.1)) := by
              rw [upd_ne nSW.symm]
              exact s5 _ _ eW4
            refine ⟨.ref Wt, rfl, .inl ⟨rfl, _, .inl (.inl eW6)⟩, .ref p, rfl, Wt, _, _, rfl, rfl, eW6, ?_, ?_⟩
            · rw [List.length_map]
              rw [wl] at n63
              exact small1000 (by omega)
            have tW6 := tups_put (o := .lst ((ws2.map fun q : Addr × List Int => V.ref q.1) ++ [V.ref p])) eW6
            have tA := (Same.tups s5).trans (tS.trans tW6)
            have ll : L3.length = L2.length + 1 := pL3.length_eq
            have g3 : Seen m ds (snd2 L3) (snd2 (ws2 ++ [(p, a)])) (some c0.2) := by
              have e2 : snd2 (ws2 ++ [(p, a)]) = snd2 ws2 ++ [a] := by
                unfold snd2
                rw [List.map_append]
                rfl
              rw [e2]
              exact sn4.grow (pL3.map fun q : Addr × List Int => q.2) hn ra
            have f3 := g3.few h5
            unfold snd2 at f3
            rw [List.length_map] at f3
            refine ⟨some (.int e0.1), some (.ref p), L3, ws2 ++ [(p, a)], rfl, ?_, fun q hq => ?_, ?_, fun q hq => ?_, ?_, stat_stay tA hf4, tA _ _ ec4, keepW _ _ (keepS _ _ (s4.trans s5)), g3, fun b2 hb2 => ?_, ?_⟩
            · rw [upd_ne nSW]
              exact upd_same
            · rcases List.mem_cons.mp (pL3.mem_iff.mp hq) with rfl | hq
              · exact (tS.trans tW6) _ _ ep
              · exact tA _ _ (tL4 q hq)
            · rw [upd_same, List.map_append]
              rfl
            · rcases List.mem_append.mp hq with hq | hq
              · exact tA _ _ (tW4 q hq)
              · rw [List.mem_singleton.mp hq]
                exact (tS.trans tW6) _ _ ep
            · rw [upd_ne nCW, upd_ne nCS]
              exact s5 _ _ eC4
            · rw [tk] at hb2
              rcases List.mem_append.mp hb2 with hb2 | hb2
              · exact (pL3.map fun q : Addr × List Int => q.2).mem_iff.mpr (List.mem_cons_of_mem _ (hsu b2 hb2))
              · rw [List.mem_singleton.mp hb2, ha]
                exact (pL3.map fun q : Addr × List Int => q.2).mem_iff.mpr List.mem_cons_self
            · rw [List.length_append]
              show 2 * (32 - L3.length) + (ws2.length + 1) ≤ _
              omega
          · have hn : a ∈ L2.map (·.2) := by simpa using e
            have tA := Same.tups s5
            refine ⟨some (.int e0.1), some (.ref p), L2, ws2, rfl, eS5, tL5, s5 _ _ eW4, tall_stay tA tW4, s5 _ _ eC4, stat_stay tA hf4, s5 _ _ ec4, s4.trans s5, sn4, fun b2 hb2 => ?_, hme⟩
            rw [tk] at hb2
            rcases List.mem_append.mp hb2 with hb2 | hb2
            · exact hsu b2 hb2
            · rw [List.mem_singleton.mp hb2, ha]
              exact hn
        · obtain ⟨y4, y5, L2, ws2, rfl, eS4, tL4, eW4, tW4, eC4, hf4, ec4, s4, sn4, hsu, hme⟩ := hp
          rw [List.length_map, psl] at hsu
          exact ⟨2 * (32 - L2.length) + ws2.length, by rw [wl]; omega, _, _, L2, ws2, rfl, eS4, tL4, eW4, tW4, s4, sn4.done hsu, rfl, by rw [wl] at n63; omega⟩
/-! ### deed_value, values, worth -/
def spDv (K : PySem.W.Frag) : Sp := fun vs H Q _ => ∃ (r L : Addr) (d : Deed) (told : List Int) (size : Int), vs = [.ref r, .ref L, .int size] ∧ H r = some (.tup (dV d)) ∧ SqL K H L (told.map V.int) ∧ DeedOk told.length d ∧ Q (.int (dvalue d.1 (argAt d told 0) (argAt d told 1) size)) H
theorem ok_dv {f : Addr} {fd : FuncData} {k : Nat} (F : Fun K "deed_value" "deed_value" s_deed_value f fd) : FnOk P w K mg base CX0 (k + 1) f fd ["deed", "told", "size"] (spDv K) := by
  refine F.ok sc_deed_value (fun vs H Q E h => ?_) (fun cdv A outer s H vs Q E hr h => ?_)
  · obtain ⟨r, L, d, told, size, rfl, _⟩ := h
    rfl
  · obtain ⟨r, L, d, told, size, rfl, er, eL, ok, q⟩ := h
    refine ⟨_, pss_cons (ps_set (i := 3) sc_deed_value.nd rfl (.inl rfl) (pe_ix ix_tup (pv 0) pe_int (fun _ _ => rfl)))
      (pss_cons (ps_if (pt_cmpR op_eq (pv 3) pe_str (nomark _)) (pss_one (ps_ret pe_int)) pss_nil)
      (pss_cons (ps_if (pt_cmpR op_eq (pv 3) pe_str (nomark _)) (pss_one (ps_ret pe_int)) pss_nil)
      (pss_cons (ps_if (pt_cmpR op_eq (pv 3) pe_str (nomark _)) (pss_one (ps_ret (pe_op op_sub (pv 2) pe_int))) pss_nil)
      (pss_cons (ps_set (i := 4) sc_deed_value.nd rfl (.inl rfl) (pe_ix ix_list (pv 1) (pe_ix ix_tup (pv 0) pe_int (fun _ _ => rfl)) (fun _ _ => rfl)))
      (pss_cons (ps_if (pt_cmpR op_eq (pv 3) pe_str (nomark _)) (pss_one (ps_ret (pe_op op_sub (pe_op op_sub (pv 2) pe_int) (pv 4)))) pss_nil)
      (pss_cons (ps_if (pt_cmpR op_eq (pv 3) pe_str (nomark _)) (pss_one (ps_ret (pe_un un_neg (pv 4)))) pss_nil)
      (pss_cons (ps_if (pt_cmpR op_eq (pv 3) pe_str (nomark _)) (pss_one (ps_ret (pe_op op_add (pv 4) (pv 4)))) pss_nil)
      (pss_cons (ps_set (i := 5) sc_deed_value.nd rfl (.inl rfl) (pe_ix ix_list (pv 1) (pe_ix ix_tup (pv 0) pe_int (fun _ _ => rfl)) (fun _ _ => rfl)))
      (pss_cons (ps_if (pt_cmpR op_eq (pv 3) pe_str (nomark _)) (pss_one (ps_ret (pe_op op_and (pv 4) (pv 5)))) pss_nil)
      (pss_cons (ps_if (pt_cmpR op_eq (pv 3) pe_str (nomark _)) (pss_one (ps_ret (pe_op op_or (pv 4) (pv 5)))) pss_nil)
      (pss_cons (ps_if (pt_cmpR op_eq (pv 3) pe_str (nomark _)) (pss_one (ps_ret (pe_op op_xor (pv 4) (pv 5)))) pss_nil)
      (pss_cons (ps_if (pt_cmpR op_eq (pv 3) pe_str (nomark _)) (pss_one (ps_ret (pe_op op_add (pv 4) (pv 5)))) pss_nil)
      (pss_one (ps_ret (pe_op op_sub (pv 4) (pv 5)))))))))))))))), ?_⟩
    unfold dvalue at q
    refine ⟨.ref r, rfl, r, _, 0, .str d.1, rfl, rfl, SqT.of er, dv0 d, ?_⟩
    refine ⟨.str d.1, rfl, rfl, _, rfl, ite2 (fun e => ?_) (fun n1 => ?_)⟩
    · rw [if_pos (strEq e)] at q
      exact q
    rw [if_neg (strNe n1)] at q
    refine ⟨.str d.1, rfl, rfl, _, rfl, ite2 (fun e => ?_) (fun n2 => ?_)⟩
    · rw [if_pos (strEq e)] at q
      exact q
    rw [if_neg (strNe n2)] at q
    refine ⟨.str d.1, rfl, rfl, _, rfl, ite2 (fun e => ?_) (fun n3 => ?_)⟩
    · rw [if_pos (strEq e)] at q
      exact ⟨.int size, rfl, size, 1, rfl, rfl, q⟩
    rw [if_neg (strNe n3)] at q
    obtain ⟨i, hi, ai, ei⟩ := arg1 ok (strNe n1) (strNe n2) (strNe n3)
    refine ⟨.ref L, rfl, .ref r, rfl, r, _, 1, .int i, rfl, rfl, SqT.of er, dvN (k := 0) hi, L, _, i, .int (argAt d told 0), rfl, rfl, eL, ei, ?_⟩
    refine ⟨.str d.1, rfl, rfl, _, rfl, ite2 (fun e => ?_) (fun n4 => ?_)⟩
    · rw [if_pos (strEq e)] at q
      exact ⟨.int size, rfl, size, 1, rfl, rfl, .int _, rfl, _, _, rfl, rfl, q⟩
    rw [if_neg (strNe n4)] at q
    refine ⟨.str d.1, rfl, rfl, _, rfl, ite2 (fun e => ?_) (fun n5 => ?_)⟩
    · rw [if_pos (strEq e)] at q
      exact ⟨.int _, rfl, _, rfl, q⟩
    rw [if_neg (strNe n5)] at q
    refine ⟨.str d.1, rfl, rfl, _, rfl, ite2 (fun e => ?_) (fun n6 => ?_)⟩
    · rw [if_pos (strEq e)] at q
      exact ⟨.int _, rfl, .int _, rfl, _, _, rfl, rfl, q⟩
    rw [if_neg (strNe n6)] at q
    obtain ⟨j, hj, aj, ej⟩ := arg2 ok (strNe n1) (strNe n2) (strNe n3) (strNe n4) (strNe n5) (strNe n6)
    refine ⟨.ref L, rfl, .ref r, rfl, r, _, 2, .int j, rfl, rfl, SqT.of er, dvN (k := 1) hj, L, _, j, .int (argAt d told 1), rfl, rfl, eL, ej, ?_⟩
    refine ⟨.str d.1, rfl, rfl, _, rfl, ite2 (fun e => ?_) (fun n7 => ?_)⟩
    · rw [if_pos (strEq e)] at q
      exact ⟨.int _, rfl, .int _, rfl, _, _, rfl, rfl, q⟩
    rw [if_neg (strNe n7)] at q
    refine ⟨.str d.1, rfl, rfl, _, rfl, ite2 (fun e => ?_) (fun n8 => ?_)⟩
    · rw [if_pos (strEq e)] at q
      exact ⟨.int _, rfl, .int _, rfl, _, _, rfl, rfl, q⟩
    rw [if_neg (strNe n8)] at q
    refine ⟨.str d.1, rfl, rfl, _, rfl, ite2 (fun e => ?_) (fun n9 => ?_)⟩
    · rw [if_pos (strEq e)] at q
      exact ⟨.int _, rfl, .int _, rfl, _, _, rfl, rfl, q⟩
    rw [if_neg (strNe n9)] at q
    refine ⟨.str d.1, rfl, rfl, _, rfl, ite2 (fun e => ?_) (fun n10 => ?_)⟩
    · rw [if_pos (strEq e)] at q
      exact ⟨.int _, rfl, .int _, rfl, _, _, rfl, rfl, q⟩
    rw [if_neg (strNe n10)] at q
    exact ⟨.int _, rfl, .int _, rfl, _, _, rfl, rfl, q⟩
def spVals (K : PySem.W.Frag) : Sp := fun vs H Q _ => ∃ (R W : Addr) (m o : Int) (ds : List Deed) (xs : List Int) (n : Nat), vs = [.ref R, .int (n : Int), .ref W] ∧ RowAt H R m ds o ∧ DsOk m ds ∧ ds.length ≤ 100 ∧ SqL K H W (xs.map V.int) ∧ (xs.length : Int) = m ∧ xs.length ≤ 100 ∧ n ≤ 1000 ∧
  ∀ H' L, Same H H' → H L = none → H' L = some (.lst ((vals (2 ^ n) ds xs).map V.int)) → Q (.ref L) H'
theorem ok_vals {f fV : Addr} {fd fdV : FuncData} {k : Nat} (F : Fun K "values" "values" s_values f fd) (GV : FnOk P w K mg base CX0 (k + 1) fV fdV ["deed", "told", "size"] (spDv K)) (kV : PySem.W.keepIn K (.ref fV) = true) (bV : Binds K fdV ["deed", "told", "size"] [])
    (gV : mg "deed_value" = some (.ref fV)) (ml : mg "list" = none) : FnOk P w K mg base CX0 (k + 2) f fd ["row", "width", "words"] (spVals K) := by
  refine F.ok sc_values (fun vs H Q E h => ?_) (fun cdv A outer s H vs Q E hr h => ?_)
  · obtain ⟨R, W, m, o, ds, xs, n, rfl, _⟩ := h
    rfl
  · obtain ⟨R, W, m, o, ds, xs, n, rfl, hrow, hok, hds, eW, hm, hxs, hn, q⟩ := h
    obtain ⟨D, rs, eR, eD, hd⟩ := id hrow
    refine ⟨_, pss_cons (ps_set (i := 3) sc_values.nd rfl (.inl rfl) (pe_op op_shl pe_int (pv 1)))
      (pss_cons (ps_set (i := 4) sc_values.nd rfl (.inl rfl) (pe_callTy call_list_of (by rfl) ml (by decide +kernel) (pa_cons (pv 2) pa_nil)))
      (pss_cons (ps_for PassesOwn.never rfl (pi_tup (pe_ix ix_tup (pv 0) pe_int (fun _ _ => rfl))) (pg_name (i := 5) sc_values.nd rfl (.inl rfl))
        (pss_one (ps_expr (pe_bm PySem.F.plainAttrs_list PySem.F.slot_list_append PySem.F.type_list_append mt_append (pv 4) (pa_cons (pe_op op_mod (pe_call GV hr (by rfl) gV kV bV .nil pass0 (pa_cons (pv 5) (pa_cons (pv 4) (pa_cons (pv 3) pa_nil)))) (pv 3)) pa_nil)))))
      (pss_one (ps_ret (pv 4))))), ?_⟩
    have hpos : (0 : Int) < 2 ^ n := Int.pow_pos (by decide)
    have esz : (1 : Int) * 2 ^ ((n : Int).toNat) = 2 ^ n := by rw [Int.one_mul, Int.toNat_natCast]
    refine ⟨.int n, rfl, 1, n, rfl, rfl, ⟨by omega, by omega, by decide⟩, .ref W, rfl, W, _, rfl, .inl eW, fun L hL => ?_⟩
    have sL := same_new (o := .lst (xs.map V.int)) hL
    refine ⟨.ref R, rfl, R, _, 1, .ref D, rfl, rfl, SqT.of (sL _ _ eR), rfl, D, rfl, ⟨_, SqT.of (sL _ _ eD)⟩, for_tup (K := K) (a := D) (xs := rs.map V.ref) (fun i σ H3 => ∃ y, σ = [some (.ref R), some (.int n), some (.ref W), some (.int (1 * 2 ^ ((n : Int).toNat))), some (.ref L), y] ∧ H3 L = some (.lst ((vals (2 ^ n) (ds.take i) xs).map V.int)) ∧ Same H H3) ⟨none, rfl, upd_same, sL⟩ (fun i σ H3 _ hp => ?_) (fun i x σ H3 hx hp => ?_) (fun σ H3 hp => ?_)⟩
    · obtain ⟨_, _, _, sm⟩ := hp
      exact SqT.of (sm _ _ eD)
    · obtain ⟨y, rfl, e3, sm⟩ := hp
      have hi : i < rs.length := by
        have := (List.getElem?_eq_some_iff.mp hx).1
        rwa [List.length_map] at this
      have hx' : x = .ref rs[i] := by
        rw [List.getElem?_map, List.getElem?_eq_getElem hi] at hx
        exact (Option.some.inj hx).symm
      subst hx'
      obtain ⟨d, hd1, hd2⟩ := awGet hd (List.getElem?_eq_getElem hi)
      have hlen : (vals (2 ^ n) (ds.take i) xs).length = xs.length + i := by
        have h2 : i < ds.length := by
          rw [← awLen hd]
          exact hi
        rw [vals_len, List.length_take, Nat.min_eq_left (Nat.le_of_lt h2)]
      have okd : DeedOk (vals (2 ^ n) (ds.take i) xs).length d := by
        rw [hlen]
        have := hok.each i d hd1
        rw [← hm] at this
        exact this
      refine ⟨.ref L, rfl, .inl ⟨rfl, _, .inl (.inl e3)⟩, .ref rs[i], rfl, .ref L, rfl, .int (1 * 2 ^ ((n : Int).toNat)), rfl, rs[i], L, d, _, _, rfl, sm _ _ hd2, .inl (.inl e3), okd, .int (1 * 2 ^ ((n : Int).toNat)), rfl, _, _, rfl, rfl, (by show (0 : Int) < 1 * 2 ^ ((n : Int).toNat); rw [esz]; exact hpos), L, _, _, rfl, rfl, e3, ?_, some (.ref rs[i]), rfl, ?_, ?_⟩
      · rw [List.length_map, hlen]
        exact small1000 (by rw [awLen hd] at hi; omega)
      · rw [upd_same, vals_next hd1, List.map_append]
        simp only [esz]
        rfl
      · intro b u e
        rw [upd_ne (ne_of_none e hL)]
        exact sm b u e
    · obtain ⟨y, rfl, e3, sm⟩ := hp
      rw [List.length_map, awLen hd, List.take_length] at e3
      exact ⟨.ref L, rfl, q H3 L sm hL e3⟩
def spWorth (K : PySem.W.Frag) : Sp := fun vs H Q _ => ∃ (R W : Addr) (m o : Int) (ds : List Deed) (xs : List Int) (n : Nat), vs = [.ref R, .int (n : Int), .ref W] ∧ RowAt H R m ds o ∧ DsOk m ds ∧ ds.length ≤ 100 ∧ SqL K H W (xs.map V.int) ∧ (xs.length : Int) = m ∧ xs.length ≤ 100 ∧ n ≤ 1000 ∧
  0 ≤ o ∧ o < m + ds.length ∧ ∀ H', Same H H' → Q (.int ((vals (2 ^ n) ds xs).getD o.toNat 0)) H'
theorem ok_worth {f fV : Addr} {fd fdV : FuncData} {k : Nat} (F : Fun K "worth" "worth" s_worth f fd) (GV : FnOk P w K mg base CX0 (k + 2) fV fdV ["row", "width", "words"] (spVals K)) (kV : PySem.W.keepIn K (.ref fV) = true) (bV : Binds K fdV ["row", "width", "words"] [])
    (gV : mg "values" = some (.ref fV)) : FnOk P w K mg base CX0 (k + 3) f fd ["row", "width", "words"] (spWorth K) := by
  refine F.ok sc_worth (fun vs H Q E h => ?_) (fun cdv A outer s H vs Q E hr h => ?_)
  · obtain ⟨R, W, m, o, ds, xs, n, rfl, _⟩ := h
    rfl
  · obtain ⟨R, W, m, o, ds, xs, n, rfl, hrow, hok, hds, eW, hm, hxs, hn, o0, o1, q⟩ := h
    obtain ⟨D, rs, eR, eD, hd⟩ := id hrow
    refine ⟨_, pss_one (ps_ret (pe_ix ix_list (pe_call GV hr (by rfl) gV kV bV .nil pass0 (pa_cons (pv 0) (pa_cons (pv 1) (pa_cons (pv 2) pa_nil)))) (pe_ix ix_tup (pv 0) pe_int (fun _ _ => rfl)) (fun _ _ => rfl))), ?_⟩
    refine ⟨.ref R, rfl, .int n, rfl, .ref W, rfl, R, W, m, o, ds, xs, n, rfl, hrow, hok, hds, eW, hm, hxs, hn, fun H2 L s2 hL e2 => ?_⟩
    refine ⟨.ref R, rfl, R, _, 2, .int o, rfl, rfl, SqT.of (s2 _ _ eR), rfl, L, _, o, _, rfl, rfl, .inl (.inl e2), atI_ints o0 ?_, q H2 s2⟩
    rw [vals_len]
    omega
/-! ### the law's values -/
theorem arg_range {told : List Int} {N : Int} (hN : 0 < N) (h : ∀ x ∈ told, 0 ≤ x ∧ x < N) (d : Deed) (j : Nat) : 0 ≤ argAt d told j ∧ argAt d told j < N := by
  unfold argAt
  rw [List.getD_eq_getElem?_getD]
  cases e : told[(d.2.getD j 0).toNat]? with
  | none => exact ⟨Int.le_refl _, hN⟩
  | some y => exact h y (List.mem_of_getElem? e)
def spLw (K : PySem.W.Frag) : Sp := fun vs H Q _ => ∃ (r L : Addr) (d : Deed) (told : List Int) (n : Nat), vs = [.ref r, .ref L, .int (2 ^ n)] ∧ H r = some (.tup (dV d)) ∧ SqL K H L (told.map V.int) ∧ DeedOk told.length d ∧ (∀ x ∈ told, 0 ≤ x ∧ x < 2 ^ n) ∧ 1 ≤ n ∧
  ∀ H', Same H H' → Q (.int (dval (2 ^ n) d told)) H'
theorem ok_lw {f : Addr} {fd : FuncData} {k : Nat} (F : Fun K "_law_value" "_law_value" s_law_value f fd) : FnOk P w K mg base CX0 (k + 1) f fd ["deed", "told", "full"] (spLw K) := by
  refine F.ok sc_law_value (fun vs H Q E h => ?_) (fun cdv A outer s H vs Q E hr h => ?_)
  · obtain ⟨r, L, d, told, n, rfl, _⟩ := h
    rfl
  · obtain ⟨r, L, d, told, n, rfl, er, eL, ok, tb, hn, q⟩ := h
    refine ⟨_, pss_cons (ps_set (i := 3) sc_law_value.nd rfl (.inl rfl) (pe_ix ix_tup (pv 0) pe_int (fun _ _ => rfl)))
      (pss_cons (ps_if (pt_cmpR op_in_seq (pv 3) (pe_tup (pa_cons pe_str (pa_cons pe_str (pa_cons pe_str pa_nil)))) (by rfl)) (pss_one (ps_ret (pe_dget (hu_of hr) (pe_disp (pps_cons pe_str pe_int (pps_cons pe_str pe_int (pps_cons pe_str (pe_op op_sub (pv 2) pe_int) pps_nil))) (by rfl) (by rfl) (fun z => by cases z) (by decide)) (pv 3) (fun _ _ => rfl)))) pss_nil)
      (pss_cons (ps_set (i := 4) sc_law_value.nd rfl (.inl rfl) (pe_ix ix_list (pv 1) (pe_ix ix_tup (pv 0) pe_int (fun _ _ => rfl)) (fun _ _ => rfl)))
      (pss_cons (ps_if (pt_cmpR op_in_seq (pv 3) (pe_tup (pa_cons pe_str (pa_cons pe_str (pa_cons pe_str pa_nil)))) (by rfl)) (pss_one (ps_ret (pe_op op_mod (pe_dget (hu_of hr) (pe_disp (pps_cons pe_str (pe_op op_sub (pe_op op_sub (pv 2) pe_int) (pv 4)) (pps_cons pe_str (pe_op op_sub pe_int (pv 4)) (pps_cons pe_str (pe_op op_mul pe_int (pv 4)) pps_nil))) (by rfl) (by rfl) (fun z => by cases z) (by decide)) (pv 3) (fun _ _ => rfl)) (pv 2)))) pss_nil)
      (pss_cons (ps_set (i := 5) sc_law_value.nd rfl (.inl rfl) (pe_ix ix_list (pv 1) (pe_ix ix_tup (pv 0) pe_int (fun _ _ => rfl)) (fun _ _ => rfl)))
      (pss_cons (ps_if (pt_cmpR op_in_seq (pv 3) (pe_tup (pa_cons pe_str (pa_cons pe_str (pa_cons pe_str pa_nil)))) (by rfl)) (pss_one (ps_ret (pe_dget (hu_of hr) (pe_disp (pps_cons pe_str (pe_op op_and (pv 4) (pv 5)) (pps_cons pe_str (pe_op op_or (pv 4) (pv 5)) (pps_cons pe_str (pe_op op_xor (pv 4) (pv 5)) pps_nil))) (by rfl) (by rfl) (fun z => by cases z) (by decide)) (pv 3) (fun _ _ => rfl)))) pss_nil)
      (pss_one (ps_ret (pe_op op_mod (pe_dget (hu_of hr) (pe_disp (pps_cons pe_str (pe_op op_add (pv 4) (pv 5)) (pps_cons pe_str (pe_op op_sub (pv 4) (pv 5)) pps_nil)) (by rfl) (by rfl) (fun z => by cases z) (by decide)) (pv 3) (fun _ _ => rfl)) (pv 2))))))))), ?_⟩
    have npos := pw_pos n
    have p2 : (2 : Int) ≤ 2 ^ n := by
      have := pw_le hn
      simpa using this
    obtain ⟨a0, a1⟩ := arg_range npos tb d 0
    obtain ⟨b0, b1⟩ := arg_range npos tb d 1
    unfold dval at q
    refine ⟨.ref r, rfl, r, _, 0, .str d.1, rfl, rfl, SqT.of er, dv0 d, ?_⟩
    refine ⟨.str d.1, rfl, by show 3 ≤ sizeLine; decide, fun T hT => ?_⟩
    have sT := same_new (o := .tup [.str "none", .str "one", .str "all"]) hT
    refine ⟨T, _, rfl, .inr (SqT.of upd_same), rfl, rfl, _, rfl, ite2 (fun e => ?_) (fun e => ?_)⟩
    · have hm : d.1 ∈ (["none", "one", "all"] : List Str) := of_decide_eq_true ((inS d.1 ["none", "one", "all"]).symm.trans e)
      intro p hp
      refine ⟨.int (2 ^ n), rfl, 2 ^ n, 1, rfl, rfl, upd_same, [(Sum.inr "none", .int 0), (Sum.inr "one", .int 1), (Sum.inr "all", .int (2 ^ n - 1))], rfl, (by show 3 ≤ 15; decide), .str d.1, rfl, p, ?_⟩
      rw [upd_upd]
      have q1 := q _ (sT.trans (same_new (o := .dK (mergeK [] [(Sum.inr "none", .int 0), (Sum.inr "one", .int 1), (Sum.inr "all", .int (2 ^ n - 1))])) hp))
      simp only [List.mem_cons, List.not_mem_nil, or_false] at hm
      rcases hm with hm | hm | hm <;> rw [hm] at q1 ⊢
      · rw [show dvalue "none" (argAt d told 0) (argAt d told 1) (2 ^ n) = 0 from rfl, Int.zero_emod] at q1
        exact ⟨.int 0, rfl, dget_at (k := Sum.inr "none") upd_same rfl, q1⟩
      · rw [show dvalue "one" (argAt d told 0) (argAt d told 1) (2 ^ n) = 1 from rfl, Int.emod_eq_of_lt (by decide) (by omega)] at q1
        exact ⟨.int 1, rfl, dget_at (k := Sum.inr "one") upd_same rfl, q1⟩
      · rw [show dvalue "all" (argAt d told 0) (argAt d told 1) (2 ^ n) = 2 ^ n - 1 from rfl, Int.emod_eq_of_lt (by omega) (by omega)] at q1
        exact ⟨.int (2 ^ n - 1), rfl, dget_at (k := Sum.inr "all") upd_same rfl, q1⟩
    have hn1 : ¬ d.1 ∈ (["none", "one", "all"] : List Str) := fun z => e ((inS d.1 ["none", "one", "all"]).trans (decide_eq_true z))
    simp only [List.mem_cons, List.not_mem_nil, or_false, not_or] at hn1
    obtain ⟨n1, n2, n3⟩ := hn1
    obtain ⟨i, hi, ai, ei⟩ := arg1 ok n1 n2 n3
    refine ⟨.ref L, rfl, .ref r, rfl, r, _, 1, .int i, rfl, rfl, SqT.of (sT _ _ er), dvN (k := 0) hi, L, _, i, .int (argAt d told 0), rfl, rfl, sT.seq eL, ei, ?_⟩
    refine ⟨.str d.1, rfl, by show 3 ≤ sizeLine; decide, fun U hU => ?_⟩
    have sU := sT.trans (same_new (o := .tup [.str "not", .str "neg", .str "twice"]) hU)
    refine ⟨U, _, rfl, .inr (SqT.of upd_same), rfl, rfl, _, rfl, ite2 (fun e => ?_) (fun e => ?_)⟩
    · have hm : d.1 ∈ (["not", "neg", "twice"] : List Str) := of_decide_eq_true ((inS d.1 ["not", "neg", "twice"]).symm.trans e)
      have qa := fun H' s' => q H' s'
      generalize argAt d told 0 = y at qa a0 a1
      generalize argAt d told 1 = z at qa b0 b1
      intro p hp
      have hmul : CMul 2 y := .inl ⟨by decide, by decide⟩
      refine ⟨.int (2 ^ n), rfl, 2 ^ n, 1, rfl, rfl, .int y, rfl, _, y, rfl, rfl, .int y, rfl, 0, y, rfl, rfl, .int y, rfl, 2, y, rfl, rfl, hmul, upd_same, [(Sum.inr "not", .int (2 ^ n - 1 - y)), (Sum.inr "neg", .int (0 - y)), (Sum.inr "twice", .int (2 * y))], rfl, (by show 3 ≤ 15; decide), .str d.1, rfl, p, ?_⟩
      rw [upd_upd]
      have q1 := qa _ (sU.trans (same_new (o := .dK (mergeK [] [(Sum.inr "not", .int (2 ^ n - 1 - y)), (Sum.inr "neg", .int (0 - y)), (Sum.inr "twice", .int (2 * y))])) hp))
      simp only [List.mem_cons, List.not_mem_nil, or_false] at hm
      rcases hm with hm | hm | hm <;> rw [hm] at q1 ⊢
      · exact ⟨.int (2 ^ n - 1 - y), rfl, dget_at (k := Sum.inr "not") upd_same rfl, .int (2 ^ n), rfl, _, _, rfl, rfl, npos, q1⟩
      · rw [show dvalue "neg" y z (2 ^ n) = 0 - y from (Int.zero_sub y).symm] at q1
        exact ⟨.int (0 - y), rfl, dget_at (k := Sum.inr "neg") upd_same rfl, .int (2 ^ n), rfl, _, _, rfl, rfl, npos, q1⟩
      · rw [show dvalue "twice" y z (2 ^ n) = 2 * y from (Int.two_mul y).symm] at q1
        exact ⟨.int (2 * y), rfl, dget_at (k := Sum.inr "twice") upd_same rfl, .int (2 ^ n), rfl, _, _, rfl, rfl, npos, q1⟩
    have hn2 : ¬ d.1 ∈ (["not", "neg", "twice"] : List Str) := fun z => e ((inS d.1 ["not", "neg", "twice"]).trans (decide_eq_true z))
    simp only [List.mem_cons, List.not_mem_nil, or_false, not_or] at hn2
    obtain ⟨n4, n5, n6⟩ := hn2
    obtain ⟨j, hj, aj, ej⟩ := arg2 ok n1 n2 n3 n4 n5 n6
    refine ⟨.ref L, rfl, .ref r, rfl, r, _, 2, .int j, rfl, rfl, SqT.of (sU _ _ er), dvN (k := 1) hj, L, _, j, .int (argAt d told 1), rfl, rfl, sU.seq eL, ej, ?_⟩
    refine ⟨.str d.1, rfl, by show 3 ≤ sizeLine; decide, fun W hW => ?_⟩
    have sW := sU.trans (same_new (o := .tup [.str "and", .str "or", .str "xor"]) hW)
    have hw := ok.word
    have qa := fun H' s' => q H' s'
    generalize argAt d told 0 = y at qa a0 a1
    generalize argAt d told 1 = z at qa b0 b1
    refine ⟨W, _, rfl, .inr (SqT.of upd_same), rfl, rfl, _, rfl, ite2 (fun e => ?_) (fun e => ?_)⟩
    · have hm : d.1 ∈ (["and", "or", "xor"] : List Str) := of_decide_eq_true ((inS d.1 ["and", "or", "xor"]).symm.trans e)
      intro p hp
      refine ⟨.int y, rfl, .int z, rfl, y, z, rfl, rfl, .int y, rfl, .int z, rfl, y, z, rfl, rfl, .int y, rfl, .int z, rfl, y, z, rfl, rfl, upd_same, [(Sum.inr "and", .int (Builtin.bitAnd y z)), (Sum.inr "or", .int (Builtin.bitOr y z)), (Sum.inr "xor", .int (Builtin.bitXor y z))], rfl, (by show 3 ≤ 15; decide), .str d.1, rfl, p, ?_⟩
      rw [upd_upd]
      have q1 := qa _ (sW.trans (same_new (o := .dK (mergeK [] [(Sum.inr "and", .int (Builtin.bitAnd y z)), (Sum.inr "or", .int (Builtin.bitOr y z)), (Sum.inr "xor", .int (Builtin.bitXor y z))])) hp))
      simp only [List.mem_cons, List.not_mem_nil, or_false] at hm
      rcases hm with hm | hm | hm <;> rw [hm] at q1 ⊢
      · rw [show dvalue "and" y z (2 ^ n) = Builtin.bitAnd y z from rfl, and_lt a0 a1 b0] at q1
        exact ⟨_, rfl, dget_at (k := Sum.inr "and") upd_same rfl, q1⟩
      · rw [show dvalue "or" y z (2 ^ n) = Builtin.bitOr y z from rfl, or_lt a0 a1 b0 b1] at q1
        exact ⟨_, rfl, dget_at (k := Sum.inr "or") upd_same rfl, q1⟩
      · rw [show dvalue "xor" y z (2 ^ n) = Builtin.bitXor y z from rfl, xor_lt a0 a1 b0 b1] at q1
        exact ⟨_, rfl, dget_at (k := Sum.inr "xor") upd_same rfl, q1⟩
    · have hn3 : ¬ d.1 ∈ (["and", "or", "xor"] : List Str) := fun z => e ((inS d.1 ["and", "or", "xor"]).trans (decide_eq_true z))
      simp only [List.mem_cons, List.not_mem_nil, or_false, not_or] at hn3
      obtain ⟨n7, n8, n9⟩ := hn3
      have hm : d.1 = "add" ∨ d.1 = "sub" := by
        rcases fw_cases hw with ⟨_, h⟩ | ⟨_, h⟩ | ⟨_, h⟩
        · rcases h with h | h | h
          · exact absurd h n1
          · exact absurd h n2
          · exact absurd h n3
        · rcases h with h | h | h
          · exact absurd h n4
          · exact absurd h n5
          · exact absurd h n6
        · rcases h with h | h | h | h | h
          · exact absurd h n7
          · exact absurd h n8
          · exact absurd h n9
          · exact .inl h
          · exact .inr h
      intro p hp
      refine ⟨.int y, rfl, .int z, rfl, y, z, rfl, rfl, .int y, rfl, .int z, rfl, y, z, rfl, rfl, upd_same, [(Sum.inr "add", .int (y + z)), (Sum.inr "sub", .int (y - z))], rfl, (by show 2 ≤ 15; decide), .str d.1, rfl, p, ?_⟩
      rw [upd_upd]
      have q1 := qa _ (sW.trans (same_new (o := .dK (mergeK [] [(Sum.inr "add", .int (y + z)), (Sum.inr "sub", .int (y - z))])) hp))
      rcases hm with hm | hm <;> rw [hm] at q1 ⊢
      · exact ⟨.int (y + z), rfl, dget_at (k := Sum.inr "add") upd_same rfl, .int (2 ^ n), rfl, _, _, rfl, rfl, npos, q1⟩
      · exact ⟨.int (y - z), rfl, dget_at (k := Sum.inr "sub") upd_same rfl, .int (2 ^ n), rfl, _, _, rfl, rfl, npos, q1⟩
def spLvs (K : PySem.W.Frag) : Sp := fun vs H Q _ => ∃ (R W : Addr) (m o : Int) (ds : List Deed) (xs : List Int) (n : Nat), vs = [.ref R, .int (n : Int), .ref W] ∧ RowAt H R m ds o ∧ DsOk m ds ∧ ds.length ≤ 100 ∧ SqL K H W (xs.map V.int) ∧ (xs.length : Int) = m ∧ xs.length ≤ 100 ∧ 1 ≤ n ∧ n ≤ 1000 ∧ (∀ x ∈ xs, 0 ≤ x ∧ x < 2 ^ n) ∧
  ∀ H' L, Same H H' → H L = none → H' L = some (.lst ((vals (2 ^ n) ds xs).map V.int)) → Q (.ref L) H'
theorem ok_lvs {f fV : Addr} {fd fdV : FuncData} {k : Nat} (F : Fun K "_law_values" "_law_values" s_law_values f fd) (GV : FnOk P w K mg base CX0 (k + 1) fV fdV ["deed", "told", "full"] (spLw K)) (kV : PySem.W.keepIn K (.ref fV) = true) (bV : Binds K fdV ["deed", "told", "full"] [])
    (gV : mg "_law_value" = some (.ref fV)) (ml : mg "list" = none) : FnOk P w K mg base CX0 (k + 2) f fd ["row", "width", "words"] (spLvs K) := by
  refine F.ok sc_law_values (fun vs H Q E h => ?_) (fun cdv A outer s H vs Q E hr h => ?_)
  · obtain ⟨R, W, m, o, ds, xs, n, rfl, _⟩ := h
    rfl
  · obtain ⟨R, W, m, o, ds, xs, n, rfl, hrow, hok, hds, eW, hm, hxs, hn1, hn, hxr, q⟩ := h
    obtain ⟨D, rs, eR, eD, hd⟩ := id hrow
    refine ⟨_, pss_cons (ps_set (i := 3) sc_law_values.nd rfl (.inl rfl) (pe_callTy call_list_of (by rfl) ml (by decide +kernel) (pa_cons (pv 2) pa_nil)))
      (pss_cons (ps_for PassesOwn.never rfl (pi_tup (pe_ix ix_tup (pv 0) pe_int (fun _ _ => rfl))) (pg_name (i := 4) sc_law_values.nd rfl (.inl rfl))
        (pss_one (ps_expr (pe_bm PySem.F.plainAttrs_list PySem.F.slot_list_append PySem.F.type_list_append mt_append (pv 3) (pa_cons (pe_call GV hr (by rfl) gV kV bV .nil pass0 (pa_cons (pv 4) (pa_cons (pv 3) (pa_cons (pe_op op_shl pe_int (pv 1)) pa_nil)))) pa_nil)))))
      (pss_one (ps_ret (pv 3)))), ?_⟩
    have hpos : (0 : Int) < 2 ^ n := Int.pow_pos (by decide)
    have esz : (1 : Int) * 2 ^ ((n : Int).toNat) = 2 ^ n := by rw [Int.one_mul, Int.toNat_natCast]
    refine ⟨.ref W, rfl, W, _, rfl, .inl eW, fun L hL => ?_⟩
    have sL := same_new (o := .lst (xs.map V.int)) hL
    refine ⟨.ref R, rfl, R, _, 1, .ref D, rfl, rfl, SqT.of (sL _ _ eR), rfl, D, rfl, ⟨_, SqT.of (sL _ _ eD)⟩, for_tup (K := K) (a := D) (xs := rs.map V.ref) (fun i σ H3 => ∃ y, σ = [some (.ref R), some (.int n), some (.ref W), some (.ref L), y] ∧ H3 L = some (.lst ((vals (2 ^ n) (ds.take i) xs).map V.int)) ∧ Same H H3) ⟨none, rfl, upd_same, sL⟩ (fun i σ H3 _ hp => ?_) (fun i x σ H3 hx hp => ?_) (fun σ H3 hp => ?_)⟩
    · obtain ⟨_, _, _, sm⟩ := hp
      exact SqT.of (sm _ _ eD)
    · obtain ⟨y, rfl, e3, sm⟩ := hp
      have hi : i < rs.length := by
        have := (List.getElem?_eq_some_iff.mp hx).1
        rwa [List.length_map] at this
      have hx' : x = .ref rs[i] := by
        rw [List.getElem?_map, List.getElem?_eq_getElem hi] at hx
        exact (Option.some.inj hx).symm
      subst hx'
      obtain ⟨d, hd1, hd2⟩ := awGet hd (List.getElem?_eq_getElem hi)
      have hlen : (vals (2 ^ n) (ds.take i) xs).length = xs.length + i := by
        have h2 : i < ds.length := by
          rw [← awLen hd]
          exact hi
        rw [vals_len, List.length_take, Nat.min_eq_left (Nat.le_of_lt h2)]
      have okd : DeedOk (vals (2 ^ n) (ds.take i) xs).length d := by
        rw [hlen]
        have := hok.each i d hd1
        rw [← hm] at this
        exact this
      refine ⟨.ref L, rfl, .inl ⟨rfl, _, .inl (.inl e3)⟩, .ref rs[i], rfl, .ref L, rfl, .int n, rfl, 1, n, rfl, rfl, ⟨by omega, by omega, by decide⟩, rs[i], L, d, _, n, congrArg (fun z => [V.ref rs[i], V.ref L, V.int z]) esz, sm _ _ hd2, .inl (.inl e3), okd, vals_range hpos _ _ hxr, hn1, fun H4 s4 => ?_⟩
      refine ⟨L, _, _, rfl, rfl, s4 _ _ e3, ?_, some (.ref rs[i]), rfl, ?_, ?_⟩
      · rw [List.length_map, hlen]
        exact small1000 (by rw [awLen hd] at hi; omega)
      · rw [upd_same, vals_next hd1, List.map_append]
        rfl
      · intro b u e
        rw [upd_ne (ne_of_none e hL)]
        exact s4 b u (sm b u e)
    · obtain ⟨y, rfl, e3, sm⟩ := hp
      rw [List.length_map, awLen hd, List.take_length] at e3
      exact ⟨.ref L, rfl, q H3 L sm hL e3⟩
/-! ### words off the tape -/
def spTw : Sp := fun vs H Q _ => ∃ (a : Addr) (m : Int) (n : Nat), vs = [.ref a, .int m, .int (n : Int)] ∧ 0 ≤ m ∧ m ≤ 3 ∧ 1 ≤ n ∧ n ≤ 60 ∧ TP H a ∧
  ∀ H' p (xs : List Int), H p = none → H' p = some (.lst (xs.map V.int)) → (xs.length : Int) = m → (∀ x ∈ xs, 0 ≤ x ∧ x < 2 ^ n) → TP H' a → But a H H' → Q (.ref p) H'
theorem ok_tw {f fD : Addr} {fd fdD : FuncData} {k : Nat} (F : Fun K "_law_words" "_law_words" s_law_words f fd) (GD : FnOk P w K mg base CX0 (k + 1) fD fdD ["tape", "many"] spDigit) (kD : PySem.W.keepIn K (.ref fD) = true)
    (bD : Binds K fdD ["tape", "many"] []) (gD : mg "_law_digit" = some (.ref fD)) (mr : mg "range" = none) : FnOk P w K mg base CX0 (k + 2) f fd ["tape", "many", "width"] spTw := by
  refine F.ok sc_law_words (fun vs H Q E h => ?_) (fun cdv A outer s H vs Q E hr h => ?_)
  · obtain ⟨a, m, n, rfl, _⟩ := h
    rfl
  · obtain ⟨a, m, n, rfl, hm0, hm, hn1, hn, ht, q⟩ := h
    refine ⟨_, pss_cons (ps_set (i := 3) sc_law_words.nd rfl (.inl rfl) (pe_lst pa_nil))
      (pss_cons (ps_for PassesOwn.never rfl (pi_range1 (by rfl) mr (pa_cons (pv 1) pa_nil)) (pg_name (i := 4) sc_law_words.nd rfl (.inl rfl))
        (pss_cons (ps_set (i := 5) sc_law_words.nd rfl (.inl rfl) (pe_op op_sub (pe_op op_shl pe_int (pv 2)) pe_int))
        (pss_one (ps_expr (pe_bm PySem.F.plainAttrs_list PySem.F.slot_list_append PySem.F.type_list_append mt_append (pv 3) (pa_cons (pe_ix ix_list (pe_lst (pa_cons pe_int (pa_cons (pv 5) (pa_cons pe_int (pa_cons (pe_call GD hr (by rfl) gD kD bD .nil pass0 (pa_cons (pv 0) (pa_cons (pe_op op_add (pv 5) pe_int) pa_nil))) (pa_cons (pe_call GD hr (by rfl) gD kD bD .nil pass0 (pa_cons (pv 0) (pa_cons (pe_op op_add (pv 5) pe_int) pa_nil))) pa_nil)))))) (pe_call GD hr (by rfl) gD kD bD .nil pass0 (pa_cons (pv 0) (pa_cons pe_int pa_nil))) (fun _ _ => rfl)) pa_nil))))))
      (pss_one (ps_ret (pv 3)))), ?_⟩
    have p2 : (2 : Int) ≤ 2 ^ n := by
      have := pw_le hn1
      simpa using this
    have p80 : (2 : Int) ^ n ≤ 2 ^ 80 := pw_le (by omega)
    have esz : (1 : Int) * 2 ^ ((n : Int).toNat) = 2 ^ n := by rw [Int.one_mul, Int.toNat_natCast]
    refine ⟨Nat.zero_le _, fun p hp => ?_⟩
    have npa := ht.ne_new hp
    refine ⟨.int m, rfl, m, rfl, by omega, by omega, for_range (lo := 0) (n := m.toNat) (fun i σ H3 => ∃ y4 y5 xs, σ = [some (.ref a), some (.int m), some (.int n), some (.ref p), y4, y5] ∧ H3 p = some (.lst (xs.map V.int)) ∧ xs.length = i ∧ (∀ x ∈ xs, 0 ≤ x ∧ x < 2 ^ n) ∧ TP H3 a ∧ But a H H3)
      ⟨none, none, [], rfl, upd_same, rfl, (fun _ z => nomatch z), ht.upd npa, But.same (same_new hp)⟩ (fun i σ H3 hi hq => ?_) (fun σ H3 hq => ?_)⟩
    · obtain ⟨y4, y5, xs, rfl, ep, hl, hb, t3, b3⟩ := hq
      refine ⟨.int n, rfl, 1, n, rfl, rfl, ⟨by omega, by omega, by decide⟩, _, 1, rfl, rfl, ?_⟩
      refine ⟨.ref p, rfl, .inl ⟨rfl, _, .inl (.inl ep)⟩, .int _, rfl, .ref a, rfl, .int _, rfl, _, 1, rfl, rfl, a, _, rfl, by rw [esz]; omega, by rw [esz]; omega, t3, fun H4 u u0 u1 t4 b4 => ?_⟩
      refine ⟨.ref a, rfl, .int _, rfl, _, 1, rfl, rfl, a, _, rfl, by rw [esz]; omega, by rw [esz]; omega, t4, fun H5 v v0 v1 t5 b5 => ?_⟩
      rw [esz] at u1 v1
      refine ⟨by show 5 ≤ sizeLine; decide, fun M hM => ?_⟩
      have nM := t5.ne_new hM
      have sM := same_new (o := .lst [.int 0, .int (1 * 2 ^ ((n : Int).toNat) - 1), .int 1, .int u, .int v]) hM
      refine ⟨.ref a, rfl, a, 5, rfl, by decide, by decide, t5.upd nM, fun H6 z z0 z1 t6 b6 => ?_⟩
      obtain ⟨x, hx, x0, x1⟩ : ∃ x, atI [V.int 0, .int (1 * 2 ^ ((n : Int).toNat) - 1), .int 1, .int u, .int v] z = some (.int x) ∧ 0 ≤ x ∧ x < 2 ^ n := by
        obtain ⟨j, rfl⟩ := Int.eq_ofNat_of_zero_le z0
        have hj : j = 0 ∨ j = 1 ∨ j = 2 ∨ j = 3 ∨ j = 4 := by omega
        rcases hj with rfl | rfl | rfl | rfl | rfl
        · exact ⟨0, rfl, by omega, by omega⟩
        · exact ⟨_, rfl, by omega, by omega⟩
        · exact ⟨1, rfl, by omega, by omega⟩
        · exact ⟨u, rfl, u0, by omega⟩
        · exact ⟨v, rfl, v0, by omega⟩
      have bA : But a H3 H6 := ((b4.trans b5).trans (But.same sM)).trans b6
      have ep6 := bA _ _ npa ep
      refine ⟨M, _, z, .int x, rfl, rfl, .inl (.inl (b6 _ _ nM upd_same)), hx, p, _, _, rfl, rfl, ep6, ?_, _, _, xs ++ [x], rfl, ?_, ?_, ?_, t6.upd npa, ?_⟩
      · rw [List.length_map]
        exact small1000 (by omega)
      · rw [upd_same, List.map_append]
        rfl
      · rw [List.length_append, hl]
        rfl
      · intro y hy
        rcases List.mem_append.mp hy with hy | hy
        · exact hb y hy
        · rw [List.mem_singleton.mp hy]
          exact ⟨x0, x1⟩
      · intro b o nb e
        rw [upd_ne (ne_of_none e hp)]
        exact bA b o nb (b3 b o nb e)
    · obtain ⟨y4, y5, xs, rfl, ep, hl, hb, t3, b3⟩ := hq
      exact ⟨.ref p, rfl, q _ p xs hp ep (by omega) hb t3 b3⟩
/-! ### told by bits -/
theorem tup_shaped (c : List Int) : SeqAt.shaped (.tuple (c.map PyData.int)) = true := by
  obtain ⟨h1, h2⟩ := lay_ints c
  simp only [SeqAt.shaped, PyData.canLay0, PyData.depth, h1, h2, Bool.true_and]
  decide
theorem lay_tups : ∀ l : List (List Int), PyData.canLayAll0 (l.map fun c => PyData.tuple (c.map PyData.int)) = true ∧ PyData.depthAll (l.map fun c => PyData.tuple (c.map PyData.int)) ≤ 1
  | [] => ⟨by simp only [List.map_nil, PyData.canLayAll0], by simp only [List.map_nil, PyData.depthAll]; decide⟩
  | c :: l => by
    obtain ⟨h1, h2⟩ := lay_tups l
    obtain ⟨g1, g2⟩ := lay_ints c
    refine ⟨by simp only [List.map_cons, PyData.canLayAll0, PyData.canLay0, h1, g1, Bool.and_self], ?_⟩
    simp only [List.map_cons, PyData.depthAll, PyData.depth, g2]
    omega
theorem tups_shaped (l : List (List Int)) : SeqAt.shaped (.list (l.map fun c => PyData.tuple (c.map PyData.int))) = true := by
  obtain ⟨h1, h2⟩ := lay_tups l
  have h3 : PyData.depthAll (l.map fun c => PyData.tuple (c.map PyData.int)) = 0 ∨ PyData.depthAll (l.map fun c => PyData.tuple (c.map PyData.int)) = 1 := by omega
  rcases h3 with h3 | h3
  · simp only [SeqAt.shaped, PyData.canLay0, PyData.depth, h1, h3, Bool.true_and]
    decide
  · simp only [SeqAt.shaped, PyData.canLay0, PyData.depth, h1, h3, Bool.true_and]
    decide
theorem dp_tups {H : Hp} : ∀ {L : List (Addr × List Int)}, TAll H L → DpAll K H (L.map fun q => V.ref q.1) ((snd2 L).map fun c => PyData.tuple (c.map PyData.int))
  | [], _ => .nil
  | q :: L, h => .cons (.tup (SqT.of (h q List.mem_cons_self)) (dp_ints _)) (dp_tups fun z hz => h z (List.mem_cons_of_mem _ hz))
theorem any_tup {l : List (List Int)} {c : List Int} (h : c ∈ l) : ((l.map fun c => PyData.tuple (c.map PyData.int)).any fun z => PyData.eqv z (.tuple (c.map PyData.int))) = true := by
  rw [List.any_eq_true]
  exact ⟨_, List.mem_map.mpr ⟨c, h, rfl⟩, SeqAt.eqv_refl _ (SeqAt.canLay_of_shaped (tup_shaped c))⟩
theorem add_bit (x : Int) (t : Nat) : x % 2 ^ t + bitA t x * (1 * 2 ^ ((t : Int).toNat)) = x % 2 ^ (t + 1) := by
  have h := low_next x (pw_pos t)
  rw [Int.toNat_natCast, Int.one_mul, Int.pow_succ, Int.mul_comm (2 ^ t) 2, h]
  unfold bitA
  rw [Int.mul_comm]
  omega
theorem fl_reps (n : Nat) : (List.replicate n [V.int 0]).flatten = List.replicate n (V.int 0) := by
  induction n with
  | zero => rfl
  | succ n ih =>
    rw [List.replicate_succ, List.flatten_cons, ih]
    rfl
def spRi (K : PySem.W.Frag) : Sp := fun vs H Q _ => ∃ (R W : Addr) (m n : Nat) (o : Int) (ds : List Deed) (xs : List Int), vs = [.ref R, .int (n : Int), .ref W] ∧ RowAt H R m ds o ∧ RowOk m ds o ∧ carN ds ≤ 5 ∧ SqL K H W (xs.map V.int) ∧ xs.length = m ∧ 1 ≤ n ∧ n ≤ 60 ∧ (∀ x ∈ xs, 0 ≤ x ∧ x < 2 ^ n) ∧ ∀ H', Same H H' → Q (.bl true) H'
theorem ok_ri {f fF fC fB fN fV fH : Addr} {fd fdF fdC fdB fdN fdV fdH : FuncData} {k : Nat} (F : Fun K "_law_right" "_law_right" s_law_right f fd)
    (GF : FnOk P w K mg base CX0 (k + 1) fF fdF ["row"] spFc) (kF : PySem.W.keepIn K (.ref fF) = true) (bF : Binds K fdF ["row"] []) (gF : mg "first_carry" = some (.ref fF))
    (GC : FnOk P w K mg base CX0 (k + 5) fC fdC ["row"] spCa) (kC : PySem.W.keepIn K (.ref fC) = true) (bC : Binds K fdC ["row"] []) (gC : mg "carries" = some (.ref fC))
    (GB : FnOk P w K mg base CX0 (k + 2) fB fdB ["row", "carry", "bits"] spBo) (kB : PySem.W.keepIn K (.ref fB) = true) (bB : Binds K fdB ["row", "carry", "bits"] []) (gB : mg "bits_of" = some (.ref fB))
    (GN : FnOk P w K mg base CX0 (k + 4) fN fdN ["row", "carry", "bits"] spNc) (kN : PySem.W.keepIn K (.ref fN) = true) (bN : Binds K fdN ["row", "carry", "bits"] []) (gN : mg "next_carry" = some (.ref fN))
    (GV : FnOk P w K mg base CX0 (k + 2) fV fdV ["row", "width", "words"] (spLvs K)) (kV : PySem.W.keepIn K (.ref fV) = true) (bV : Binds K fdV ["row", "width", "words"] []) (gV : mg "_law_values" = some (.ref fV))
    (GH : FnOk P w K mg base CX0 (k + 3) fH fdH ["row", "width", "words"] (spWorth K)) (kH : PySem.W.keepIn K (.ref fH) = true) (bH : Binds K fdH ["row", "width", "words"] []) (gH : mg "worth" = some (.ref fH))
    (mr : mg "range" = none) (mn : mg "len" = none) (mt : mg "tuple" = none) (mz : mg "zip" = none) : FnOk P w K mg base CX0 (k + 6) f fd ["row", "width", "words"] (spRi K) := by
  refine F.ok sc_law_right (fun vs H Q E h => ?_) (fun cdv A outer s H vs Q E hr h => ?_)
  · obtain ⟨R, W, m, n, o, ds, xs, rfl, _⟩ := h
    rfl
  · obtain ⟨R, W, m, n, o, ds, xs, rfl, hrow, hok, h5, eW, hm, n1, n60, hxr, q⟩ := h
    have r1 := hr.mono (show k + 1 ≤ k + 5 by omega)
    have r2 := hr.mono (show k + 2 ≤ k + 5 by omega)
    have r3 := hr.mono (show k + 3 ≤ k + 5 by omega)
    have r4 := hr.mono (show k + 4 ≤ k + 5 by omega)
    have hu65 : (A.deeper (envOfC "_law_right" (defScope s_law_right) s.heap.objs.size f cdv)).units + 65 < cLine := by
      have := hr.un
      omega
    refine ⟨_, pss_cons (ps_set (i := 3) sc_law_right.nd rfl (.inl rfl) (pe_call GF r1 (by rfl) gF kF bF .nil pass0 (pa_cons (pv 0) pa_nil)))
      (pss_cons (ps_set (i := 4) sc_law_right.nd rfl (.inl rfl) (pe_call GC hr (by rfl) gC kC bC .nil pass0 (pa_cons (pv 0) pa_nil)))
      (pss_cons (ps_set (i := 5) sc_law_right.nd rfl (.inl rfl) (pe_op op_rep (pe_lst (pa_cons pe_int pa_nil)) (pe_op op_add (pe_ix ix_tup (pv 0) pe_int (fun _ _ => rfl)) (pe_callB call_len_seq (by rfl) mn PySem.boot_len (pa_cons (pe_ix ix_tup (pv 0) pe_int (fun _ _ => rfl)) pa_nil)))))
      (pss_cons (ps_for PassesOwn.never rfl (pi_range1 (by rfl) mr (pa_cons (pv 1) pa_nil)) (pg_name (i := 6) sc_law_right.nd rfl (.inr rfl))
        (pss_cons (ps_set (i := 7) sc_law_right.nd rfl (.inl rfl) (pe_callTy call_tuple_of (by rfl) mt (by decide +kernel) (pa_cons
          (pe_lc (own := [("word", 9)]) (g := gName 9) (by rfl) sc_law_right.nd (pi_list (pv 2)) (blkOk_by (own := [("word", 9)]) (N := N_law_right) (sc := defScope s_law_right) (by decide +kernel))
            (fun _ _ _ _ _ => pg_name (i := 9) sc_law_right.nd rfl (Or.inl rfl)) (fun _ _ _ _ _ => pts_nil) (fun _ _ _ _ _ => pe_op op_mod (pe_op op_fdivW (pv 9) (pe_op op_shl pe_int (pv 6))) pe_int)) pa_nil)))
        (pss_cons (ps_if (pt_cmpR (op_notInD hu65) (pv 3) (pv 4) (by rfl)) (pss_one (ps_ret pe_bl)) pss_nil)
        (pss_cons (ps_setLc (i := 5) (own := [("one", 10), ("bit", 11)]) (g := gTup K 2 (gCons (gName 10) (gCons (gName 11) gNil))) (by rfl) sc_law_right.nd rfl rfl (sw_true rfl rfl rfl (by decide +kernel)) (pi_zipM (by rfl) mz (pa_cons (pv 5) (pa_cons (pe_call GB r2 (by rfl) gB kB bB .nil pass0 (pa_cons (pv 0) (pa_cons (pv 3) (pa_cons (pv 7) pa_nil)))) pa_nil))) (blkOk_by (own := [("one", 10), ("bit", 11)]) (N := N_law_right) (sc := defScope s_law_right) (by decide +kernel))
          (fun _ _ _ _ _ => pg_tup rfl (pgs_cons (pg_name (i := 10) sc_law_right.nd rfl (.inl rfl)) (pgs_cons (pg_name (i := 11) sc_law_right.nd rfl (.inl rfl)) pgs_nil))) (fun _ _ _ _ _ => pts_nil) (fun _ _ _ _ _ => pe_op op_add (pv 10) (pe_op op_mul (pv 11) (pe_op op_shl pe_int (pv 6)))))
        (pss_one (ps_set (i := 3) sc_law_right.nd rfl (.inl rfl) (pe_call GN r4 (by rfl) gN kN bN .nil pass0 (pa_cons (pv 0) (pa_cons (pv 3) (pa_cons (pv 7) pa_nil))))))))))
      (pss_cons (ps_set (i := 8) sc_law_right.nd rfl (.inl rfl) (pe_call GV r2 (by rfl) gV kV bV .nil pass0 (pa_cons (pv 0) (pa_cons (pv 1) (pa_cons (pv 2) pa_nil)))))
      (pss_one (ps_ret (pe_and (pe_cmpR (op_eqD hr.units) (pv 5) (pv 8) (nomark _)) (pe_one (pe_cmpR op_eq (pe_call GH r3 (by rfl) gH kH bH .nil pass0 (pa_cons (pv 0) (pa_cons (pv 1) (pa_cons (pv 2) pa_nil)))) (pe_ix ix_list (pv 8) (pe_ix ix_tup (pv 0) pe_int (fun _ _ => rfl)) (fun _ _ => rfl)) (nomark _)))))))))), ?_⟩
    obtain ⟨D, rs, eR, eD, hd⟩ := id hrow
    have hl8 := hok.len
    have m1 : 1 ≤ m := by have := hok.m1; omega
    have m3 : m ≤ 3 := by have := hok.m3; omega
    refine ⟨.ref R, rfl, R, m, o, ds, rfl, hrow, by omega, fun H1 C0 s1 nC0 eC0 => ?_⟩
    refine ⟨.ref R, rfl, R, m, o, ds, rfl, (Same.tups s1).row hrow, hok, m3, hl8, h5, fun H2 T L s2 nT eT tL nd hall srt => ?_⟩
    have s12 := s1.trans s2
    refine ⟨by show 1 ≤ sizeLine; decide, fun Z0 hZ0 => ?_⟩
    have sZ0 := same_new (o := .lst [.int 0]) hZ0
    have sA := s12.trans sZ0
    have drl : ((rs.map V.ref).length : Int) = ds.length := by rw [List.length_map, awLen hd]
    refine ⟨.ref R, rfl, R, _, 0, .int m, rfl, rfl, SqT.of (sA _ _ eR), rfl, .ref R, rfl, R, _, 1, .ref D, rfl, rfl, SqT.of (sA _ _ eR), rfl, D, _, rfl, .inr (SqT.of (sA _ _ eD)), _, _, rfl, rfl, Z0, _, _, rfl, rfl, upd_same, by omega, by omega, ?_, fun Fo hFo => ?_⟩
    · exact Nat.le_of_lt (small1000 (by show 1 * ((m : Int) + ((rs.map V.ref).length : Int)).toNat ≤ 1000; omega))
    obtain ⟨v, hv⟩ : ∃ v, v = vals (2 ^ n) ds xs := ⟨_, rfl⟩
    have vl : v.length = m + ds.length := by rw [hv, vals_len, hm]
    have vr : ∀ x ∈ v, 0 ≤ x ∧ x < 2 ^ n := by
      rw [hv]
      exact vals_range (pw_pos n) ds xs hxr
    have e0 : (List.replicate ((m : Int) + ((rs.map V.ref).length : Int)).toNat [V.int 0]).flatten = (v.map (· % 2 ^ 0)).map V.int := by
      rw [drl, show ((m : Int) + (ds.length : Int)).toNat = v.length by omega, fl_reps, List.map_map]
      refine (List.eq_replicate_iff.mpr ⟨by rw [List.length_map], fun b hb => ?_⟩).symm
      obtain ⟨x, _, rfl⟩ := List.mem_map.mp hb
      show V.int (x % 2 ^ 0) = .int 0
      rw [Int.pow_zero, Int.emod_one]
    have sFo := same_new (o := .lst (List.replicate ((m : Int) + ((rs.map V.ref).length : Int)).toNat [V.int 0]).flatten) hFo
    refine ⟨.int n, rfl, n, rfl, by omega, by omega, for_range (lo := 0) (n := n) (fun t σ H3 => ∃ y6 y7 Ca Fo, σ = [some (.ref R), some (.int n), some (.ref W), some (.ref Ca), some (.ref T), some (.ref Fo), y6, y7, none, none, none, none] ∧ H3 Ca = some (.tup ((crry ds xs t).map V.int)) ∧ H3 Fo = some (.lst ((v.map (· % 2 ^ t)).map V.int)) ∧ H3 T = some (.lst (L.map fun q => V.ref q.1)) ∧ TAll H3 L ∧ Same H H3)
      ⟨none, none, C0, Fo, rfl, sFo _ _ (sZ0 _ _ (s2 _ _ eC0)), (by rw [upd_same, e0]), sFo _ _ (sZ0 _ _ eT), tall_stay (Same.tups (sZ0.trans sFo)) tL, sA.trans sFo⟩ (fun t σ H3 ht hp => ?_) (fun σ H3 hp => ?_)⟩
    · obtain ⟨y6, y7, Ca, Fo, rfl, eCa, eFo, eT3, tL3, s3⟩ := hp
      have hrow3 := (Same.tups s3).row hrow
      have eW3 := s3.seq eW
      have tpos := pw_pos t
      have tsz : (1 : Int) * 2 ^ ((0 + (t : Int)).toNat) = 2 ^ t := by rw [Int.one_mul, Int.zero_add, Int.toNat_natCast]
      -- bits
      refine ⟨.ref W, rfl, W, rfl, ⟨_, eW3⟩, fun M hM => ?_⟩
      refine lc_list (K := K) (a := W) (xs := xs.map V.int) (fun i H4 => H4 M = some (.lst (((xs.take i).map (bitA t)).map V.int)) ∧ Same H3 H4) ⟨upd_same, same_new hM⟩ (fun i H4 _ hp => hp.2.seq eW3) (fun i x H4 hx hp => ?_) (fun H4 hp => ?_)
      · obtain ⟨eM, s4⟩ := hp
        obtain ⟨y, hy, rfl⟩ : ∃ y, xs[i]? = some y ∧ x = .int y := by
          rw [List.getElem?_map] at hx
          cases e : xs[i]? with
          | none => rw [e] at hx; cases hx
          | some y => rw [e] at hx; exact ⟨y, rfl, (Option.some.inj hx).symm⟩
        have dv : CDivW y (1 * 2 ^ ((0 + (t : Int)).toNat)) := by
          rw [tsz]
          refine ⟨tpos, ?_⟩
          have h1 : ((2 : Int) ^ t).natAbs = 2 ^ t := by
            rw [pw_cast]
            exact Int.natAbs_natCast _
          rw [h1, Nat.log2_two_pow]
          omega
        refine ⟨rfl, .int y, rfl, .int (0 + t), rfl, 1, 0 + t, rfl, rfl, ⟨by omega, by omega, by decide⟩, y, _, rfl, rfl, dv, _, 2, rfl, rfl, (by show (0 : Int) < 2; decide), _, eM, ?_, ?_, ?_⟩
        · rw [List.length_map, List.length_map, List.length_take]
          exact small1000 (by omega)
        · rw [upd_same, List.take_add_one, hy, List.map_append, List.map_append, tsz]
          rfl
        · intro b u e
          rw [upd_ne (ne_of_none e hM)]
          exact s4 b u e
      obtain ⟨eM, s4⟩ := hp
      rw [List.length_map, List.take_length] at eM
      refine ⟨M, _, rfl, .inl ⟨.inl (.inl eM), fun Bi hBi => ?_⟩⟩
      have sBi := same_new (o := .tup ((xs.map (bitA t)).map V.int)) hBi
      have s5 := s4.trans sBi
      -- the carry is told
      have cin : crry ds xs t ∈ snd2 L := (hall _).mpr (by rw [← hm]; exact crry_rch ds xs t)
      refine ⟨.ref Ca, rfl, .ref T, rfl, .tuple ((crry ds xs t).map PyData.int), (snd2 L).map fun c => PyData.tuple (c.map PyData.int), .tup (SqT.of (s5 _ _ eCa)) (dp_ints _), .lst (.inl (.inl (s5 _ _ eT3))) (dp_tups (tall_stay (Same.tups s5) tL3)), tup_shaped _, tups_shaped _, _, rfl, ?_⟩
      rw [any_tup cin]
      -- found
      have cl := (rch_shp (crry_rch ds xs t)).len
      have hrow5 := (Same.tups s5).row hrow3
      refine ⟨.ref Fo, rfl, .ref R, rfl, .ref Ca, rfl, .ref Bi, rfl, R, Ca, Bi, m, o, ds, crry ds xs t, xs.map (bitA t), rfl, hrow5, hok.deeds, by omega, s5 _ _ eCa, cl, upd_same, by rw [List.length_map, hm], by rw [List.length_map]; omega, fun H6 Bo s6 nBo eBo => ?_⟩
      rw [crry_bits hok.deeds hm m1 hxr ht, ← hv] at eBo
      have eFo6 := s6 _ _ (s5 _ _ eFo)
      refine ⟨Fo, Bo, _, _, rfl, .inl (.inl eFo6), SqT.of eBo, fun G hG => ?_⟩
      refine lc_it (walk_zipM (K := K) (a := Fo) (b := Bo) (xs := (v.map (· % 2 ^ t)).map V.int) (ys := (v.map (bitA t)).map V.int) (by simp)) (fun i H7 => H7 G = some (.lst (((v.take i).map (· % 2 ^ (t + 1))).map V.int)) ∧ Same H6 H7) ⟨upd_same, same_new hG⟩ (fun i H7 _ hp => ⟨.inl (.inl (hp.2 _ _ eFo6)), SqT.of (hp.2 _ _ eBo)⟩) (fun i x H7 H8 hi hp hy => ?_) (fun H7 hp => ?_)
      · obtain ⟨eG, s7⟩ := hp
        obtain ⟨U, x1, x2, rfl, hU, rfl, g1, g2⟩ := hy
        have hi2 : i < v.length := by simpa using hi
        have hvi := List.getElem?_eq_getElem hi2
        generalize v[i] = y at hvi
        have e1 : x1 = .int (y % 2 ^ t) := by
          have g1' : ((v.map (· % 2 ^ t)).map V.int)[i]? = some x1 := g1
          rw [List.getElem?_map, List.getElem?_map, hvi] at g1'
          exact (Option.some.inj g1').symm
        have e2 : x2 = .int (bitA t y) := by
          have g2' : ((v.map (bitA t)).map V.int)[i]? = some x2 := g2
          rw [List.getElem?_map, List.getElem?_map, hvi] at g2'
          exact (Option.some.inj g2').symm
        subst e1 e2
        have sU := same_new (o := .tup [.int (y % 2 ^ t), .int (bitA t y)]) hU
        have hmul : CMul (bitA t y) (1 * 2 ^ ((0 + (t : Int)).toNat)) := by
          have := bitA_bit t y
          refine .inl ?_
          rcases this with z | z <;> rw [z] <;> exact ⟨by decide, by decide⟩
        refine ⟨U, [.int (y % 2 ^ t), .int (bitA t y)], rfl, .inl (.inl upd_same), rfl, .int (y % 2 ^ t), [.int (bitA t y)], rfl, .int (bitA t y), [], rfl, rfl, rfl, ?_⟩
        refine ⟨.int (y % 2 ^ t), rfl, .int (bitA t y), rfl, .int (0 + t), rfl, 1, 0 + t, rfl, rfl, ⟨by omega, by omega, by decide⟩, _, _, rfl, rfl, hmul, _, _, rfl, rfl, _, sU _ _ eG, ?_, ?_, ?_⟩
        · rw [List.length_map, List.length_map, List.length_take]
          exact small1000 (by omega)
        · rw [upd_same, List.take_add_one, hvi, List.map_append, List.map_append]
          have z := add_bit y t
          rw [show ((0 : Int) + (t : Int)).toNat = ((t : Int)).toNat by rw [Int.zero_add]]
          show some (HO.lst (_ ++ [V.int (y % 2 ^ t + bitA t y * (1 * 2 ^ ((t : Int).toNat)))])) = _
          rw [z]
          rfl
        · intro b u e
          rw [upd_ne (ne_of_none e hG)]
          exact sU b u (s7 b u e)
      obtain ⟨eG, s7⟩ := hp
      have e9 : (v.take ((v.map (· % 2 ^ t)).map V.int).length) = v := by
        rw [List.length_map, List.length_map, List.take_length]
      rw [e9] at eG
      have s57 := s6.trans s7
      refine ⟨.ref R, rfl, .ref Ca, rfl, .ref Bi, rfl, R, Ca, Bi, m, o, ds, crry ds xs t, xs.map (bitA t), rfl, (Same.tups s57).row hrow5, hok.deeds, by omega, s57 _ _ (s5 _ _ eCa), cl, s57 _ _ upd_same, by rw [List.length_map, hm], by rw [List.length_map]; omega, fun H8 Nc s8 nNc eNc => ?_⟩
      have s58 := s57.trans s8
      exact ⟨_, _, Nc, G, rfl, eNc, s8 _ _ eG, s58 _ _ (s5 _ _ eT3), tall_stay (Same.tups (s5.trans s58)) tL3, (s3.trans s5).trans s58⟩
    · obtain ⟨y6, y7, Ca, Fo, rfl, eCa, eFo, eT3, tL3, s3⟩ := hp
      have hrow3 := (Same.tups s3).row hrow
      have eW3 := s3.seq eW
      have ev : v.map (· % 2 ^ n) = v := by
        have z : v.map (· % 2 ^ n) = v.map id := List.map_congr_left fun x hx => Int.emod_eq_of_lt (vr x hx).1 (vr x hx).2
        rw [z, List.map_id]
      rw [ev] at eFo
      refine ⟨.ref R, rfl, .int n, rfl, .ref W, rfl, R, W, m, o, ds, xs, n, rfl, hrow3, hok.deeds, by omega, eW3, by omega, by omega, n1, by omega, hxr, fun H4 Du s4 nDu eDu => ?_⟩
      rw [← hv] at eDu
      refine ⟨.ref Fo, rfl, .ref Du, rfl, .list (v.map PyData.int), .list (v.map PyData.int), .lst (.inl (.inl (s4 _ _ eFo))) (dp_ints _), .lst (.inl (.inl eDu)) (dp_ints _), shaped_ints _, shaped_ints _, _, rfl, ?_⟩
      rw [eqv_ints]
      have o0 := hok.o0
      have o1 := hok.o1
      refine ⟨.ref R, rfl, .int n, rfl, .ref W, rfl, R, W, m, o, ds, xs, n, rfl, (Same.tups s4).row hrow3, hok.deeds, by omega, s4.seq eW3, by omega, by omega, by omega, o0, o1, fun H5 s5 => ?_⟩
      obtain ⟨D2, rs2, eR2, eD2, hd2⟩ := (Same.tups (s4.trans s5)).row hrow3
      refine ⟨.ref Du, rfl, .ref R, rfl, R, _, 2, .int o, rfl, rfl, SqT.of eR2, rfl, Du, _, o, _, rfl, rfl, .inl (.inl (s5 _ _ eDu)), atI_ints o0 (by omega), rfl, ?_⟩
      rw [← hv, decide_eq_true rfl]
      exact q _ ((s3.trans s4).trans s5)
/-! ### the law -/
theorem law_run {fa fTa fDi fRo fWo fRi : Addr} {fd fdTa fdDi fdRo fdWo fdRi : FuncData} {s : Shared} {a : Addr} {ns : List Int} {H : Hp} (F : Fun K "law" "law" s_law fa fd) (bL : Binds K fd ["script"] [])
    (GT : FnOk P w K mg base CX0 1 fTa fdTa ["script", "start"] (spTape K)) (kT : PySem.W.keepIn K (.ref fTa) = true) (bT : Binds K fdTa ["script", "start"] []) (gT : mg "_law_tape" = some (.ref fTa))
    (GD : FnOk P w K mg base CX0 1 fDi fdDi ["tape", "many"] spDigit) (kD : PySem.W.keepIn K (.ref fDi) = true) (bD : Binds K fdDi ["tape", "many"] []) (gD : mg "_law_digit" = some (.ref fDi))
    (GR : FnOk P w K mg base CX0 3 fRo fdRo ["tape", "many", "most", "left"] spTr) (kR : PySem.W.keepIn K (.ref fRo) = true) (bR : Binds K fdRo ["tape", "many", "most", "left"] []) (gR : mg "_law_row" = some (.ref fRo))
    (GW : FnOk P w K mg base CX0 2 fWo fdWo ["tape", "many", "width"] spTw) (kW : PySem.W.keepIn K (.ref fWo) = true) (bW : Binds K fdWo ["tape", "many", "width"] []) (gW : mg "_law_words" = some (.ref fWo))
    (GI : FnOk P w K mg base CX0 6 fRi fdRi ["row", "width", "words"] (spRi K)) (kI : PySem.W.keepIn K (.ref fRi) = true) (bI : Binds K fdRi ["row", "width", "words"] []) (gI : mg "_law_right" = some (.ref fRi))
    (mr : mg "range" = none) (mn : mg "len" = none) (mx : mg "max" = none) (mi : mg "min" = none) (hlen : ns.length ≤ 63) (hbits : ∀ z ∈ ns, Builtin.Int.intBits z ≤ 1048576) (e0 : Env0 P w K mg base callerA [] s H) (hS : SqL K H a (ns.map V.int)) :
    codeAny (model P w) callerA (.call (.ref fa) ⟨[.ref a], []⟩) (CR CX0 [] P w H s (fun v _ => v = .bl true) E0) s := by
  refine fn_at (k := 6) (us := [.ref a]) (vs := [.ref a]) F sc_law ⟨rfl, by decide, by decide⟩ e0 ?_ (.cons rfl .nil) rfl (fun cdv => ?_)
  · have := bL s [.ref a] (e0.mod.kin.keeps fun b o e => (e0.bs b o e).1) rfl
    simpa using this
  have hr : Room 6 (callerA.deeper (envOfC "law" (defScope s_law) s.heap.objs.size fa cdv)) := Room.deeper (k := 6) ⟨rfl, by decide, by decide⟩ _
  have R1 := hr.mono (show 1 ≤ 6 by decide)
  have R2 := hr.mono (show 2 ≤ 6 by decide)
  have R3 := hr.mono (show 3 ≤ 6 by decide)
  refine ⟨_, pss_cons (ps_for PassesOwn.never rfl (pi_range1 (by rfl) mr (pa_cons (pe_callB (call_max2 rfl) (by rfl) mx (by decide +kernel) (pa_cons pe_int (pa_cons (pe_callB (call_min2 rfl) (by rfl) mi (by decide +kernel) (pa_cons pe_int (pa_cons (pe_callB call_len_seq (by rfl) mn PySem.boot_len (pa_cons (pv 0) pa_nil)) pa_nil))) pa_nil))) pa_nil)) (pg_name (i := 1) sc_law.nd rfl (.inl rfl))
      (pss_cons (ps_set (i := 2) sc_law.nd rfl (.inl rfl) (pe_call GT R1 (by rfl) gT kT bT .nil pass0 (pa_cons (pv 0) (pa_cons (pv 1) pa_nil))))
      (pss_cons (ps_set (i := 3) sc_law.nd rfl (.inl rfl) (pe_op op_add pe_int (pe_call GD R1 (by rfl) gD kD bD .nil pass0 (pa_cons (pv 2) (pa_cons pe_int pa_nil)))))
      (pss_cons (ps_set (i := 4) sc_law.nd rfl (.inl rfl) (pe_call GR R3 (by rfl) gR kR bR .nil pass0 (pa_cons (pv 2) (pa_cons (pv 3) (pa_cons pe_int (pa_cons pe_int pa_nil))))))
      (pss_one (ps_for PassesOwn.never rfl (pi_list (pe_lst (pa_cons pe_int (pa_cons (pe_op op_add pe_int (pe_call GD R1 (by rfl) gD kD bD .nil pass0 (pa_cons (pv 2) (pa_cons pe_int pa_nil)))) (pa_cons pe_int pa_nil))))) (pg_name (i := 5) sc_law.nd rfl (.inl rfl))
        (pss_one (ps_if (pt_not (pt_val (pe_call GI hr (by rfl) gI kI bI .nil pass0 (pa_cons (pv 4) (pa_cons (pv 5) (pa_cons (pe_call GW R2 (by rfl) gW kW bW .nil pass0 (pa_cons (pv 2) (pa_cons (pv 3) (pa_cons (pv 5) pa_nil)))) pa_nil)))))) (pss_one (ps_ret pe_bl)) pss_nil))))))))
    (pss_one (ps_ret pe_bl)), ?_⟩
  refine ⟨.ref a, rfl, a, _, rfl, .inl hS, 5, _, rfl, 1, _, rfl, ?_⟩
  obtain ⟨N, hN⟩ : ∃ N : Int, N = if (if ((ns.map V.int).length : Int) < 5 then ((ns.map V.int).length : Int) else 5) > 1 then (if ((ns.map V.int).length : Int) < 5 then ((ns.map V.int).length : Int) else 5) else 1 := ⟨_, rfl⟩
  have hN1 : 0 ≤ N ∧ N ≤ 5 := by
    rw [hN]
    split <;> split <;> omega
  rw [← hN]
  refine ⟨N, rfl, by omega, by omega, for_range (lo := 0) (n := N.toNat) (fun i σ H3 => (∃ y1 y2 y3 y4 y5, σ = [some (.ref a), y1, y2, y3, y4, y5]) ∧ Same H H3) ⟨⟨none, none, none, none, none, rfl⟩, Same.refl H⟩ (fun i σ H3 hi hp => ?_) (fun σ H3 hp => rfl)⟩
  obtain ⟨⟨y1, y2, y3, y4, y5, rfl⟩, s3⟩ := hp
  refine ⟨.ref a, rfl, .int (0 + i), rfl, a, ns, 0 + i, rfl, s3.seq hS, by omega, by omega, fun H4 tp s4 htp t4 => ?_⟩
  have nold : ∀ b o, H b = some o → b ≠ tp := fun b o e => ne_of_none (s3 _ _ e) htp
  refine ⟨.ref tp, rfl, tp, 3, rfl, by decide, by decide, t4, fun H5 mz m0 m1 t5 b5 => ⟨1, mz, rfl, rfl, ?_⟩⟩
  refine ⟨.ref tp, rfl, .int (1 + mz), rfl, tp, 1 + mz, 8, 5, rfl, by omega, by omega, by decide, by decide, t5, fun H6 R ds o hrow hok hl8 hcn t6 b6 => ?_⟩
  have s6 : Same H H6 := fun b v e => b6 b v (nold b v e) (b5 b v (nold b v e) (s4 _ _ (s3 _ _ e)))
  have hc5 := hcn (by decide)
  obtain ⟨m, hm⟩ : ∃ m : Nat, 1 + mz = (m : Int) := ⟨(1 + mz).toNat, by omega⟩
  refine ⟨.ref tp, rfl, tp, 60, rfl, by decide, by decide, t6, fun H7 wz w0 w1 t7 b7 => ⟨1, wz, rfl, rfl, by show 3 ≤ sizeLine; decide, fun M hM => ?_⟩⟩
  have nM := t7.ne_new hM
  have sM := same_new (o := .lst [.int 1, .int (1 + wz), .int 60]) hM
  have s8 : Same H (upd H7 M (.lst [.int 1, .int (1 + wz), .int 60])) := fun b v e => sM _ _ (b7 b v (nold b v e) (s6 _ _ e))
  have hrow8 := (Same.tups sM).row ((b7.tape t6).row hrow)
  refine ⟨M, rfl, ⟨_, .inl (.inl upd_same)⟩, for_list (K := K) (a := M) (xs := [.int 1, .int (1 + wz), .int 60]) (fun j σ H9 => (∃ y5, σ = [some (.ref a), some (.int (0 + i)), some (.ref tp), some (.int (1 + mz)), some (.ref R), y5]) ∧ H9 M = some (.lst [.int 1, .int (1 + wz), .int 60]) ∧ TP H9 tp ∧ RowAt H9 R (1 + mz) ds o ∧ Same H H9) ⟨⟨y5, rfl⟩, upd_same, t7.upd nM, hrow8, s8⟩ (fun j σ H9 _ hp => .inl (.inl hp.2.1)) (fun j x σ H9 hx hp => ?_) (fun σ H9 hp => ?_)⟩
  · obtain ⟨⟨y5', rfl⟩, eM, t9, hrow9, s9⟩ := hp
    obtain ⟨n, rfl, n1, n60⟩ : ∃ n : Nat, x = .int (n : Int) ∧ 1 ≤ n ∧ n ≤ 60 := by
      have hj : j < 3 := (List.getElem?_eq_some_iff.mp hx).1
      have hj2 : j = 0 ∨ j = 1 ∨ j = 2 := by omega
      rcases hj2 with rfl | rfl | rfl
      · exact ⟨1, (Option.some.inj hx).symm, by decide, by decide⟩
      · refine ⟨(1 + wz).toNat, ?_, by omega, by omega⟩
        have z : V.int (1 + wz) = x := Option.some.inj hx
        rw [← z, show (((1 + wz).toNat : Nat) : Int) = 1 + wz by omega]
      · exact ⟨60, (Option.some.inj hx).symm, by decide, by decide⟩
    refine ⟨.ref R, rfl, .int n, rfl, .ref tp, rfl, .int (1 + mz), rfl, .int n, rfl, tp, 1 + mz, n, rfl, by omega, by omega, n1, n60, t9, fun H10 W xs nW eW hxl hxr t10 b10 => ?_⟩
    have hrow10 := (b10.tape t9).row hrow9
    have s10 : Same H H10 := fun b v e => b10 b v (nold b v e) (s9 _ _ e)
    rw [hm] at hrow10 hok
    refine ⟨R, W, m, n, o, ds, xs, rfl, hrow10, hok, by omega, .inl (.inl eW), by omega, n1, n60, hxr, fun H11 s11 => ?_⟩
    refine ⟨true, rfl, ?_⟩
    rw [← hm] at hrow10
    exact ⟨⟨_, rfl⟩, s11 _ _ (b10 _ _ nM eM), t10.same s11, (Same.tups s11).row hrow10, s10.trans s11⟩
  · obtain ⟨⟨y5', rfl⟩, _, _, _, s9⟩ := hp
    exact ⟨⟨_, _, _, _, _, rfl⟩, s9⟩
/-! ### what the top has written -/
theorem all_mk {l : PySem.W.OpenLaw} {w : World} {K : PySem.W.Frag} {h : Heap} {mg : Str → Option Value} {fa : Addr} (X : K.In h) (G : h.Ns mainGlobals mg) (hfa : mg "law" = some (.ref fa))
    {f0 : Addr} {od0 an0 : Option Addr} {sl0 : Array (Option Value)} {oc0 kV0 dc0 pm0 cd0 ct0 : Value}
    {f1 : Addr} {od1 an1 : Option Addr} {sl1 : Array (Option Value)} {oc1 kV1 dc1 pm1 cd1 ct1 : Value}
    {f2 : Addr} {od2 an2 : Option Addr} {sl2 : Array (Option Value)} {oc2 kV2 dc2 pm2 cd2 ct2 : Value}
    {f3 : Addr} {od3 an3 : Option Addr} {sl3 : Array (Option Value)} {oc3 kV3 dc3 pm3 cd3 ct3 : Value}
    {f4 : Addr} {od4 an4 : Option Addr} {sl4 : Array (Option Value)} {oc4 kV4 dc4 pm4 cd4 ct4 : Value}
    {f5 : Addr} {od5 an5 : Option Addr} {sl5 : Array (Option Value)} {oc5 kV5 dc5 pm5 cd5 ct5 : Value}
    {f6 : Addr} {od6 an6 : Option Addr} {sl6 : Array (Option Value)} {oc6 kV6 dc6 pm6 cd6 ct6 : Value}
    {f7 : Addr} {od7 an7 : Option Addr} {sl7 : Array (Option Value)} {oc7 kV7 dc7 pm7 cd7 ct7 : Value}
    {f8 : Addr} {od8 an8 : Option Addr} {sl8 : Array (Option Value)} {oc8 kV8 dc8 pm8 cd8 ct8 : Value}
    {f9 : Addr} {od9 an9 : Option Addr} {sl9 : Array (Option Value)} {oc9 kV9 dc9 pm9 cd9 ct9 : Value}
    {f10 : Addr} {od10 an10 : Option Addr} {sl10 : Array (Option Value)} {oc10 kV10 dc10 pm10 cd10 ct10 : Value}
    {f11 : Addr} {od11 an11 : Option Addr} {sl11 : Array (Option Value)} {oc11 kV11 dc11 pm11 cd11 ct11 : Value}
    {f12 : Addr} {od12 an12 : Option Addr} {sl12 : Array (Option Value)} {oc12 kV12 dc12 pm12 cd12 ct12 : Value}
    {f13 : Addr} {od13 an13 : Option Addr} {sl13 : Array (Option Value)} {oc13 kV13 dc13 pm13 cd13 ct13 : Value}
    {f14 : Addr} {od14 an14 : Option Addr} {sl14 : Array (Option Value)} {oc14 kV14 dc14 pm14 cd14 ct14 : Value}
    {f15 : Addr} {od15 an15 : Option Addr} {sl15 : Array (Option Value)} {oc15 kV15 dc15 pm15 cd15 ct15 : Value}
    {f16 : Addr} {od16 an16 : Option Addr} {sl16 : Array (Option Value)} {oc16 kV16 dc16 pm16 cd16 ct16 : Value}
    {f17 : Addr} {od17 an17 : Option Addr} {sl17 : Array (Option Value)} {oc17 kV17 dc17 pm17 cd17 ct17 : Value}
    {f18 : Addr} {od18 an18 : Option Addr} {sl18 : Array (Option Value)} {oc18 kV18 dc18 pm18 cd18 ct18 : Value}
    {f19 : Addr} {od19 an19 : Option Addr} {sl19 : Array (Option Value)} {oc19 kV19 dc19 pm19 cd19 ct19 : Value}
    {f20 : Addr} {od20 an20 : Option Addr} {sl20 : Array (Option Value)} {oc20 kV20 dc20 pm20 cd20 ct20 : Value}
    {f21 : Addr} {od21 an21 : Option Addr} {sl21 : Array (Option Value)} {oc21 kV21 dc21 pm21 cd21 ct21 : Value}
    {f22 : Addr} {od22 an22 : Option Addr} {sl22 : Array (Option Value)} {oc22 kV22 dc22 pm22 cd22 ct22 : Value}
    (a0 : PySem.W.nsIn K mainGlobals "all_bits" = some (some (.ref f0)))
    (l0 : K.lookup f0 = some ⟨oc0, od0, .func (PySem.W.fnOf "all_bits" "all_bits" (defArgs s_all_bits) (defBody s_all_bits) (defScope s_all_bits) .none kV0 dc0 pm0 an0 cd0 ct0), sl0⟩)
    (c0 : PySem.W.codeIn K cd0 "all_bits" = true) (k0 : PySem.W.keepIn K (.ref f0) = true)
    (a1 : PySem.W.nsIn K mainGlobals "first_carry" = some (some (.ref f1)))
    (l1 : K.lookup f1 = some ⟨oc1, od1, .func (PySem.W.fnOf "first_carry" "first_carry" (defArgs s_first_carry) (defBody s_first_carry) (defScope s_first_carry) .none kV1 dc1 pm1 an1 cd1 ct1), sl1⟩)
    (c1 : PySem.W.codeIn K cd1 "first_carry" = true) (k1 : PySem.W.keepIn K (.ref f1) = true)
    (a2 : PySem.W.nsIn K mainGlobals "deed_bit" = some (some (.ref f2)))
    (l2 : K.lookup f2 = some ⟨oc2, od2, .func (PySem.W.fnOf "deed_bit" "deed_bit" (defArgs s_deed_bit) (defBody s_deed_bit) (defScope s_deed_bit) .none kV2 dc2 pm2 an2 cd2 ct2), sl2⟩)
    (c2 : PySem.W.codeIn K cd2 "deed_bit" = true) (k2 : PySem.W.keepIn K (.ref f2) = true)
    (a3 : PySem.W.nsIn K mainGlobals "bits_of" = some (some (.ref f3)))
    (l3 : K.lookup f3 = some ⟨oc3, od3, .func (PySem.W.fnOf "bits_of" "bits_of" (defArgs s_bits_of) (defBody s_bits_of) (defScope s_bits_of) .none kV3 dc3 pm3 an3 cd3 ct3), sl3⟩)
    (c3 : PySem.W.codeIn K cd3 "bits_of" = true) (k3 : PySem.W.keepIn K (.ref f3) = true)
    (a4 : PySem.W.nsIn K mainGlobals "two_or_more" = some (some (.ref f4)))
    (l4 : K.lookup f4 = some ⟨oc4, od4, .func (PySem.W.fnOf "two_or_more" "two_or_more" (defArgs s_two_or_more) (defBody s_two_or_more) (defScope s_two_or_more) .none kV4 dc4 pm4 an4 cd4 ct4), sl4⟩)
    (c4 : PySem.W.codeIn K cd4 "two_or_more" = true) (k4 : PySem.W.keepIn K (.ref f4) = true)
    (a5 : PySem.W.nsIn K mainGlobals "deed_carry" = some (some (.ref f5)))
    (l5 : K.lookup f5 = some ⟨oc5, od5, .func (PySem.W.fnOf "deed_carry" "deed_carry" (defArgs s_deed_carry) (defBody s_deed_carry) (defScope s_deed_carry) .none kV5 dc5 pm5 an5 cd5 ct5), sl5⟩)
    (c5 : PySem.W.codeIn K cd5 "deed_carry" = true) (k5 : PySem.W.keepIn K (.ref f5) = true)
    (a6 : PySem.W.nsIn K mainGlobals "carry_behind" = some (some (.ref f6)))
    (l6 : K.lookup f6 = some ⟨oc6, od6, .func (PySem.W.fnOf "carry_behind" "carry_behind" (defArgs s_carry_behind) (defBody s_carry_behind) (defScope s_carry_behind) .none kV6 dc6 pm6 an6 cd6 ct6), sl6⟩)
    (c6 : PySem.W.codeIn K cd6 "carry_behind" = true) (k6 : PySem.W.keepIn K (.ref f6) = true)
    (a7 : PySem.W.nsIn K mainGlobals "next_carry" = some (some (.ref f7)))
    (l7 : K.lookup f7 = some ⟨oc7, od7, .func (PySem.W.fnOf "next_carry" "next_carry" (defArgs s_next_carry) (defBody s_next_carry) (defScope s_next_carry) .none kV7 dc7 pm7 an7 cd7 ct7), sl7⟩)
    (c7 : PySem.W.codeIn K cd7 "next_carry" = true) (k7 : PySem.W.keepIn K (.ref f7) = true)
    (a8 : PySem.W.nsIn K mainGlobals "steps" = some (some (.ref f8)))
    (l8 : K.lookup f8 = some ⟨oc8, od8, .func (PySem.W.fnOf "steps" "steps" (defArgs s_steps) (defBody s_steps) (defScope s_steps) .none kV8 dc8 pm8 an8 cd8 ct8), sl8⟩)
    (c8 : PySem.W.codeIn K cd8 "steps" = true) (k8 : PySem.W.keepIn K (.ref f8) = true)
    (a9 : PySem.W.nsIn K mainGlobals "carries" = some (some (.ref f9)))
    (l9 : K.lookup f9 = some ⟨oc9, od9, .func (PySem.W.fnOf "carries" "carries" (defArgs s_carries) (defBody s_carries) (defScope s_carries) .none kV9 dc9 pm9 an9 cd9 ct9), sl9⟩)
    (c9 : PySem.W.codeIn K cd9 "carries" = true) (k9 : PySem.W.keepIn K (.ref f9) = true)
    (a10 : PySem.W.nsIn K mainGlobals "deed_value" = some (some (.ref f10)))
    (l10 : K.lookup f10 = some ⟨oc10, od10, .func (PySem.W.fnOf "deed_value" "deed_value" (defArgs s_deed_value) (defBody s_deed_value) (defScope s_deed_value) .none kV10 dc10 pm10 an10 cd10 ct10), sl10⟩)
    (c10 : PySem.W.codeIn K cd10 "deed_value" = true) (k10 : PySem.W.keepIn K (.ref f10) = true)
    (a11 : PySem.W.nsIn K mainGlobals "values" = some (some (.ref f11)))
    (l11 : K.lookup f11 = some ⟨oc11, od11, .func (PySem.W.fnOf "values" "values" (defArgs s_values) (defBody s_values) (defScope s_values) .none kV11 dc11 pm11 an11 cd11 ct11), sl11⟩)
    (c11 : PySem.W.codeIn K cd11 "values" = true) (k11 : PySem.W.keepIn K (.ref f11) = true)
    (a12 : PySem.W.nsIn K mainGlobals "worth" = some (some (.ref f12)))
    (l12 : K.lookup f12 = some ⟨oc12, od12, .func (PySem.W.fnOf "worth" "worth" (defArgs s_worth) (defBody s_worth) (defScope s_worth) .none kV12 dc12 pm12 an12 cd12 ct12), sl12⟩)
    (c12 : PySem.W.codeIn K cd12 "worth" = true) (k12 : PySem.W.keepIn K (.ref f12) = true)
    (a13 : PySem.W.nsIn K mainGlobals "_law_tape" = some (some (.ref f13)))
    (l13 : K.lookup f13 = some ⟨oc13, od13, .func (PySem.W.fnOf "_law_tape" "_law_tape" (defArgs s_law_tape) (defBody s_law_tape) (defScope s_law_tape) .none kV13 dc13 pm13 an13 cd13 ct13), sl13⟩)
    (c13 : PySem.W.codeIn K cd13 "_law_tape" = true) (k13 : PySem.W.keepIn K (.ref f13) = true)
    (a14 : PySem.W.nsIn K mainGlobals "_law_digit" = some (some (.ref f14)))
    (l14 : K.lookup f14 = some ⟨oc14, od14, .func (PySem.W.fnOf "_law_digit" "_law_digit" (defArgs s_law_digit) (defBody s_law_digit) (defScope s_law_digit) .none kV14 dc14 pm14 an14 cd14 ct14), sl14⟩)
    (c14 : PySem.W.codeIn K cd14 "_law_digit" = true) (k14 : PySem.W.keepIn K (.ref f14) = true)
    (a15 : PySem.W.nsIn K mainGlobals "_law_deed" = some (some (.ref f15)))
    (l15 : K.lookup f15 = some ⟨oc15, od15, .func (PySem.W.fnOf "_law_deed" "_law_deed" (defArgs s_law_deed) (defBody s_law_deed) (defScope s_law_deed) .none kV15 dc15 pm15 an15 cd15 ct15), sl15⟩)
    (c15 : PySem.W.codeIn K cd15 "_law_deed" = true) (k15 : PySem.W.keepIn K (.ref f15) = true)
    (a16 : PySem.W.nsIn K mainGlobals "_law_carrying" = some (some (.ref f16)))
    (l16 : K.lookup f16 = some ⟨oc16, od16, .func (PySem.W.fnOf "_law_carrying" "_law_carrying" (defArgs s_law_carrying) (defBody s_law_carrying) (defScope s_law_carrying) .none kV16 dc16 pm16 an16 cd16 ct16), sl16⟩)
    (c16 : PySem.W.codeIn K cd16 "_law_carrying" = true) (k16 : PySem.W.keepIn K (.ref f16) = true)
    (a17 : PySem.W.nsIn K mainGlobals "_law_row" = some (some (.ref f17)))
    (l17 : K.lookup f17 = some ⟨oc17, od17, .func (PySem.W.fnOf "_law_row" "_law_row" (defArgs s_law_row) (defBody s_law_row) (defScope s_law_row) .none kV17 dc17 pm17 an17 cd17 ct17), sl17⟩)
    (c17 : PySem.W.codeIn K cd17 "_law_row" = true) (k17 : PySem.W.keepIn K (.ref f17) = true)
    (a18 : PySem.W.nsIn K mainGlobals "_law_value" = some (some (.ref f18)))
    (l18 : K.lookup f18 = some ⟨oc18, od18, .func (PySem.W.fnOf "_law_value" "_law_value" (defArgs s_law_value) (defBody s_law_value) (defScope s_law_value) .none kV18 dc18 pm18 an18 cd18 ct18), sl18⟩)
    (c18 : PySem.W.codeIn K cd18 "_law_value" = true) (k18 : PySem.W.keepIn K (.ref f18) = true)
    (a19 : PySem.W.nsIn K mainGlobals "_law_values" = some (some (.ref f19)))
    (l19 : K.lookup f19 = some ⟨oc19, od19, .func (PySem.W.fnOf "_law_values" "_law_values" (defArgs s_law_values) (defBody s_law_values) (defScope s_law_values) .none kV19 dc19 pm19 an19 cd19 ct19), sl19⟩)
    (c19 : PySem.W.codeIn K cd19 "_law_values" = true) (k19 : PySem.W.keepIn K (.ref f19) = true)
    (a20 : PySem.W.nsIn K mainGlobals "_law_words" = some (some (.ref f20)))
    (l20 : K.lookup f20 = some ⟨oc20, od20, .func (PySem.W.fnOf "_law_words" "_law_words" (defArgs s_law_words) (defBody s_law_words) (defScope s_law_words) .none kV20 dc20 pm20 an20 cd20 ct20), sl20⟩)
    (c20 : PySem.W.codeIn K cd20 "_law_words" = true) (k20 : PySem.W.keepIn K (.ref f20) = true)
    (a21 : PySem.W.nsIn K mainGlobals "_law_right" = some (some (.ref f21)))
    (l21 : K.lookup f21 = some ⟨oc21, od21, .func (PySem.W.fnOf "_law_right" "_law_right" (defArgs s_law_right) (defBody s_law_right) (defScope s_law_right) .none kV21 dc21 pm21 an21 cd21 ct21), sl21⟩)
    (c21 : PySem.W.codeIn K cd21 "_law_right" = true) (k21 : PySem.W.keepIn K (.ref f21) = true)
    (a22 : PySem.W.nsIn K mainGlobals "law" = some (some (.ref f22)))
    (l22 : K.lookup f22 = some ⟨oc22, od22, .func (PySem.W.fnOf "law" "law" (defArgs s_law) (defBody s_law) (defScope s_law) .none kV22 dc22 pm22 an22 cd22 ct22), sl22⟩)
    (c22 : PySem.W.codeIn K cd22 "law" = true) (k22 : PySem.W.keepIn K (.ref f22) = true)
    (z_abs : PySem.W.nsIn K mainGlobals "abs" = some none)
    (z_len : PySem.W.nsIn K mainGlobals "len" = some none)
    (z_list : PySem.W.nsIn K mainGlobals "list" = some none)
    (z_max : PySem.W.nsIn K mainGlobals "max" = some none)
    (z_min : PySem.W.nsIn K mainGlobals "min" = some none)
    (z_range : PySem.W.nsIn K mainGlobals "range" = some none)
    (z_set : PySem.W.nsIn K mainGlobals "set" = some none)
    (z_sorted : PySem.W.nsIn K mainGlobals "sorted" = some none)
    (z_tuple : PySem.W.nsIn K mainGlobals "tuple" = some none)
    (z_zip : PySem.W.nsIn K mainGlobals "zip" = some none)
    : ∀ (s : Shared) (a : Addr) (ns : List Int) (base : Heap) (H : Hp), ns.length ≤ 63 → (∀ z ∈ ns, Builtin.Int.intBits z ≤ 1048576) → Env0 l.prog w K mg base callerA [] s H → SqL K H a (ns.map V.int) →
      codeAny (model l.prog w) callerA (.call (.ref fa) ⟨[.ref a], []⟩) (CR CX0 [] l.prog w H s (fun v _ => v = .bl true) E0) s := by
  have F_all_bits := fun_mk (st := s_all_bits) l0 c0 k0
  have b_all_bits := F_all_bits.binds (ps := ["many"]) fun _ _ _ _ _ _ us hl => match us, hl with | [_], _ => rfl
  have g_all_bits := PySem.W.mg_of X G a0
  have F_first_carry := fun_mk (st := s_first_carry) l1 c1 k1
  have b_first_carry := F_first_carry.binds (ps := ["row"]) fun _ _ _ _ _ _ us hl => match us, hl with | [_], _ => rfl
  have g_first_carry := PySem.W.mg_of X G a1
  have F_deed_bit := fun_mk (st := s_deed_bit) l2 c2 k2
  have b_deed_bit := F_deed_bit.binds (ps := ["deed", "held", "told"]) fun _ _ _ _ _ _ us hl => match us, hl with | [_, _, _], _ => rfl
  have g_deed_bit := PySem.W.mg_of X G a2
  have F_bits_of := fun_mk (st := s_bits_of) l3 c3 k3
  have b_bits_of := F_bits_of.binds (ps := ["row", "carry", "bits"]) fun _ _ _ _ _ _ us hl => match us, hl with | [_, _, _], _ => rfl
  have g_bits_of := PySem.W.mg_of X G a3
  have F_two_or_more := fun_mk (st := s_two_or_more) l4 c4 k4
  have b_two_or_more := F_two_or_more.binds (ps := ["one", "other", "third"]) fun _ _ _ _ _ _ us hl => match us, hl with | [_, _, _], _ => rfl
  have g_two_or_more := PySem.W.mg_of X G a4
  have F_deed_carry := fun_mk (st := s_deed_carry) l5 c5 k5
  have b_deed_carry := F_deed_carry.binds (ps := ["deed", "held", "told"]) fun _ _ _ _ _ _ us hl => match us, hl with | [_, _, _], _ => rfl
  have g_deed_carry := PySem.W.mg_of X G a5
  have F_carry_behind := fun_mk (st := s_carry_behind) l6 c6 k6
  have b_carry_behind := F_carry_behind.binds (ps := ["row", "carry", "told"]) fun _ _ _ _ _ _ us hl => match us, hl with | [_, _, _], _ => rfl
  have g_carry_behind := PySem.W.mg_of X G a6
  have F_next_carry := fun_mk (st := s_next_carry) l7 c7 k7
  have b_next_carry := F_next_carry.binds (ps := ["row", "carry", "bits"]) fun _ _ _ _ _ _ us hl => match us, hl with | [_, _, _], _ => rfl
  have g_next_carry := PySem.W.mg_of X G a7
  have F_steps := fun_mk (st := s_steps) l8 c8 k8
  have b_steps := F_steps.binds (ps := ["row", "carry"]) fun _ _ _ _ _ _ us hl => match us, hl with | [_, _], _ => rfl
  have g_steps := PySem.W.mg_of X G a8
  have F_carries := fun_mk (st := s_carries) l9 c9 k9
  have b_carries := F_carries.binds (ps := ["row"]) fun _ _ _ _ _ _ us hl => match us, hl with | [_], _ => rfl
  have g_carries := PySem.W.mg_of X G a9
  have F_deed_value := fun_mk (st := s_deed_value) l10 c10 k10
  have b_deed_value := F_deed_value.binds (ps := ["deed", "told", "size"]) fun _ _ _ _ _ _ us hl => match us, hl with | [_, _, _], _ => rfl
  have g_deed_value := PySem.W.mg_of X G a10
  have F_values := fun_mk (st := s_values) l11 c11 k11
  have b_values := F_values.binds (ps := ["row", "width", "words"]) fun _ _ _ _ _ _ us hl => match us, hl with | [_, _, _], _ => rfl
  have g_values := PySem.W.mg_of X G a11
  have F_worth := fun_mk (st := s_worth) l12 c12 k12
  have b_worth := F_worth.binds (ps := ["row", "width", "words"]) fun _ _ _ _ _ _ us hl => match us, hl with | [_, _, _], _ => rfl
  have g_worth := PySem.W.mg_of X G a12
  have F_law_tape := fun_mk (st := s_law_tape) l13 c13 k13
  have b_law_tape := F_law_tape.binds (ps := ["script", "start"]) fun _ _ _ _ _ _ us hl => match us, hl with | [_, _], _ => rfl
  have g_law_tape := PySem.W.mg_of X G a13
  have F_law_digit := fun_mk (st := s_law_digit) l14 c14 k14
  have b_law_digit := F_law_digit.binds (ps := ["tape", "many"]) fun _ _ _ _ _ _ us hl => match us, hl with | [_, _], _ => rfl
  have g_law_digit := PySem.W.mg_of X G a14
  have F_law_deed := fun_mk (st := s_law_deed) l15 c15 k15
  have b_law_deed := F_law_deed.binds (ps := ["tape", "ahead", "left"]) fun _ _ _ _ _ _ us hl => match us, hl with | [_, _, _], _ => rfl
  have g_law_deed := PySem.W.mg_of X G a15
  have F_law_carrying := fun_mk (st := s_law_carrying) l16 c16 k16
  have b_law_carrying := F_law_carrying.binds (ps := ["deeds"]) fun _ _ _ _ _ _ us hl => match us, hl with | [_], _ => rfl
  have g_law_carrying := PySem.W.mg_of X G a16
  have F_law_row := fun_mk (st := s_law_row) l17 c17 k17
  have b_law_row := F_law_row.binds (ps := ["tape", "many", "most", "left"]) fun _ _ _ _ _ _ us hl => match us, hl with | [_, _, _, _], _ => rfl
  have g_law_row := PySem.W.mg_of X G a17
  have F_law_value := fun_mk (st := s_law_value) l18 c18 k18
  have b_law_value := F_law_value.binds (ps := ["deed", "told", "full"]) fun _ _ _ _ _ _ us hl => match us, hl with | [_, _, _], _ => rfl
  have g_law_value := PySem.W.mg_of X G a18
  have F_law_values := fun_mk (st := s_law_values) l19 c19 k19
  have b_law_values := F_law_values.binds (ps := ["row", "width", "words"]) fun _ _ _ _ _ _ us hl => match us, hl with | [_, _, _], _ => rfl
  have g_law_values := PySem.W.mg_of X G a19
  have F_law_words := fun_mk (st := s_law_words) l20 c20 k20
  have b_law_words := F_law_words.binds (ps := ["tape", "many", "width"]) fun _ _ _ _ _ _ us hl => match us, hl with | [_, _, _], _ => rfl
  have g_law_words := PySem.W.mg_of X G a20
  have F_law_right := fun_mk (st := s_law_right) l21 c21 k21
  have b_law_right := F_law_right.binds (ps := ["row", "width", "words"]) fun _ _ _ _ _ _ us hl => match us, hl with | [_, _, _], _ => rfl
  have g_law_right := PySem.W.mg_of X G a21
  have F_law := fun_mk (st := s_law) l22 c22 k22
  have b_law := F_law.binds (ps := ["script"]) fun _ _ _ _ _ _ us hl => match us, hl with | [_], _ => rfl
  obtain rfl : fa = f22 := by
    have e := hfa.symm.trans (PySem.W.mg_of X G a22)
    cases e
    rfl
  have m_abs := PySem.W.mg_none_of X G z_abs
  have m_len := PySem.W.mg_none_of X G z_len
  have m_list := PySem.W.mg_none_of X G z_list
  have m_max := PySem.W.mg_none_of X G z_max
  have m_min := PySem.W.mg_none_of X G z_min
  have m_range := PySem.W.mg_none_of X G z_range
  have m_set := PySem.W.mg_none_of X G z_set
  have m_sorted := PySem.W.mg_none_of X G z_sorted
  have m_tuple := PySem.W.mg_none_of X G z_tuple
  have m_zip := PySem.W.mg_none_of X G z_zip
  intro s a ns base H hlen hbits e0 hS
  have GT := ok_tape (P := l.prog) (w := w) (mg := mg) (base := base) (k := 0) F_law_tape m_abs m_len
  have GD := ok_digit (P := l.prog) (w := w) (mg := mg) (base := base) (k := 0) F_law_digit
  have GE := ok_td (P := l.prog) (w := w) (mg := mg) (base := base) (k := 0) F_law_deed GD F_law_digit.kp b_law_digit g_law_digit
  have GCr := ok_cr (P := l.prog) (w := w) (mg := mg) (base := base) (k := 0) F_law_carrying m_len
  have GR := ok_tr (P := l.prog) (w := w) (mg := mg) (base := base) (k := 0) F_law_row GD F_law_digit.kp GE F_law_deed.kp GCr F_law_carrying.kp b_law_digit b_law_deed b_law_carrying g_law_digit g_law_deed g_law_carrying m_tuple m_range m_len
  have GF := ok_fc (P := l.prog) (w := w) (mg := mg) (base := base) (k := 0) F_first_carry m_tuple
  have GDb := ok_db (P := l.prog) (w := w) (mg := mg) (base := base) (k := 0) F_deed_bit
  have GB := ok_bo (P := l.prog) (w := w) (mg := mg) (base := base) (k := 0) F_bits_of GDb F_deed_bit.kp b_deed_bit g_deed_bit m_list m_tuple m_zip
  have GTm := ok_tm (P := l.prog) (w := w) (mg := mg) (base := base) (k := 0) F_two_or_more
  have GDc := ok_dc (P := l.prog) (w := w) (mg := mg) (base := base) (k := 0) F_deed_carry GTm F_two_or_more.kp b_two_or_more g_two_or_more
  have GCb := ok_cb (P := l.prog) (w := w) (mg := mg) (base := base) (k := 0) F_carry_behind GDc F_deed_carry.kp b_deed_carry g_deed_carry m_tuple m_zip
  have GN := ok_nc (P := l.prog) (w := w) (mg := mg) (base := base) (k := 0) F_next_carry GB F_bits_of.kp b_bits_of g_bits_of GCb F_carry_behind.kp b_carry_behind g_carry_behind
  have GAl := ok_all (P := l.prog) (w := w) (mg := mg) (base := base) (k := 0) F_all_bits m_range
  have GSt := ok_st (P := l.prog) (w := w) (mg := mg) (base := base) (k := 0) F_steps GAl F_all_bits.kp b_all_bits g_all_bits GB F_bits_of.kp b_bits_of g_bits_of GCb F_carry_behind.kp b_carry_behind g_carry_behind
  have GC := ok_ca (P := l.prog) (w := w) (mg := mg) (base := base) (k := 0) F_carries GF F_first_carry.kp b_first_carry g_first_carry GSt F_steps.kp b_steps g_steps m_set m_sorted
  have GX := ok_dv (P := l.prog) (w := w) (mg := mg) (base := base) (k := 0) F_deed_value
  have GVa := ok_vals (P := l.prog) (w := w) (mg := mg) (base := base) (k := 0) F_values GX F_deed_value.kp b_deed_value g_deed_value m_list
  have GH := ok_worth (P := l.prog) (w := w) (mg := mg) (base := base) (k := 0) F_worth GVa F_values.kp b_values g_values
  have GLw := ok_lw (P := l.prog) (w := w) (mg := mg) (base := base) (k := 0) F_law_value
  have GV := ok_lvs (P := l.prog) (w := w) (mg := mg) (base := base) (k := 0) F_law_values GLw F_law_value.kp b_law_value g_law_value m_list
  have GW := ok_tw (P := l.prog) (w := w) (mg := mg) (base := base) (k := 0) F_law_words GD F_law_digit.kp b_law_digit g_law_digit m_range
  have GI := ok_ri (P := l.prog) (w := w) (mg := mg) (base := base) (k := 0) F_law_right GF F_first_carry.kp b_first_carry g_first_carry GC F_carries.kp b_carries g_carries GB F_bits_of.kp b_bits_of g_bits_of GN F_next_carry.kp b_next_carry g_next_carry GV F_law_values.kp b_law_values g_law_values GH F_worth.kp b_worth g_worth m_range m_len m_tuple m_zip
  exact law_run F_law b_law GT F_law_tape.kp b_law_tape g_law_tape GD F_law_digit.kp b_law_digit g_law_digit GR F_law_row.kp b_law_row g_law_row GW F_law_words.kp b_law_words g_law_words GI F_law_right.kp b_law_right g_law_right m_range m_len m_max m_min hlen hbits e0 hS
end
end KK
open PySem PySem.W PyProof.Rows
set_option maxHeartbeats 0 in
theorem PySem.Challenge.cw_anywide_k11_whole_bits_tell_values_holds : PySem.Challenge.rw_anywide_k11_whole_bits_tell_values.Holds := by
  w_on; o_law; k_head; (case hw => w_witness2)
  k_fill
  refine AW.walkG (l := PySem.Challenge.rw_anywide_k11_whole_bits_tell_values) (n := 63) rfl (by decide) rfl (fun w h Y => PySem.W.kIn_of Y) ?F
  case F =>
    intro w mg fa h KX G hmg
    refine' KK.all_mk KX G hmg ?a0 ?l0 ?c0 ?k0 ?a1 ?l1 ?c1 ?k1 ?a2 ?l2 ?c2 ?k2 ?a3 ?l3 ?c3 ?k3 ?a4 ?l4 ?c4 ?k4 ?a5 ?l5 ?c5 ?k5 ?a6 ?l6 ?c6 ?k6 ?a7 ?l7 ?c7 ?k7 ?a8 ?l8 ?c8 ?k8 ?a9 ?l9 ?c9 ?k9 ?a10 ?l10 ?c10 ?k10 ?a11 ?l11 ?c11 ?k11 ?a12 ?l12 ?c12 ?k12 ?a13 ?l13 ?c13 ?k13 ?a14 ?l14 ?c14 ?k14 ?a15 ?l15 ?c15 ?k15 ?a16 ?l16 ?c16 ?k16 ?a17 ?l17 ?c17 ?k17 ?a18 ?l18 ?c18 ?k18 ?a19 ?l19 ?c19 ?k19 ?a20 ?l20 ?c20 ?k20 ?a21 ?l21 ?c21 ?k21 ?a22 ?l22 ?c22 ?k22 ?z_abs ?z_len ?z_list ?z_max ?z_min ?z_range ?z_set ?z_sorted ?z_tuple ?z_zip
    (case a0 => k_is)
    (case l0 => k_is)
    (case c0 => k_is)
    (case k0 => k_is)
    (case a1 => k_is)
    (case l1 => k_is)
    (case c1 => k_is)
    (case k1 => k_is)
    (case a2 => k_is)
    (case l2 => k_is)
    (case c2 => k_is)
    (case k2 => k_is)
    (case a3 => k_is)
    (case l3 => k_is)
    (case c3 => k_is)
    (case k3 => k_is)
    (case a4 => k_is)
    (case l4 => k_is)
    (case c4 => k_is)
    (case k4 => k_is)
    (case a5 => k_is)
    (case l5 => k_is)
    (case c5 => k_is)
    (case k5 => k_is)
    (case a6 => k_is)
    (case l6 => k_is)
    (case c6 => k_is)
    (case k6 => k_is)
    (case a7 => k_is)
    (case l7 => k_is)
    (case c7 => k_is)
    (case k7 => k_is)
    (case a8 => k_is)
    (case l8 => k_is)
    (case c8 => k_is)
    (case k8 => k_is)
    (case a9 => k_is)
    (case l9 => k_is)
    (case c9 => k_is)
    (case k9 => k_is)
    (case a10 => k_is)
    (case l10 => k_is)
    (case c10 => k_is)
    (case k10 => k_is)
    (case a11 => k_is)
    (case l11 => k_is)
    (case c11 => k_is)
    (case k11 => k_is)
    (case a12 => k_is)
    (case l12 => k_is)
    (case c12 => k_is)
    (case k12 => k_is)
    (case a13 => k_is)
    (case l13 => k_is)
    (case c13 => k_is)
    (case k13 => k_is)
    (case a14 => k_is)
    (case l14 => k_is)
    (case c14 => k_is)
    (case k14 => k_is)
    (case a15 => k_is)
    (case l15 => k_is)
    (case c15 => k_is)
    (case k15 => k_is)
    (case a16 => k_is)
    (case l16 => k_is)
    (case c16 => k_is)
    (case k16 => k_is)
    (case a17 => k_is)
    (case l17 => k_is)
    (case c17 => k_is)
    (case k17 => k_is)
    (case a18 => k_is)
    (case l18 => k_is)
    (case c18 => k_is)
    (case k18 => k_is)
    (case a19 => k_is)
    (case l19 => k_is)
    (case c19 => k_is)
    (case k19 => k_is)
    (case a20 => k_is)
    (case l20 => k_is)
    (case c20 => k_is)
    (case k20 => k_is)
    (case a21 => k_is)
    (case l21 => k_is)
    (case c21 => k_is)
    (case k21 => k_is)
    (case a22 => k_is)
    (case l22 => k_is)
    (case c22 => k_is)
    (case k22 => k_is)
    (case z_abs => k_is)
    (case z_len => k_is)
    (case z_list => k_is)
    (case z_max => k_is)
    (case z_min => k_is)
    (case z_range => k_is)
    (case z_set => k_is)
    (case z_sorted => k_is)
    (case z_tuple => k_is)
    (case z_zip => k_is)
