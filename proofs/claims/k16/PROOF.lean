import PyProof.Rows.All
import Wide.All
import OpenK.AllK
import Wide.FinOn
import PyProof.EqAt
import PyProof.EqKinds
import PyProof.TupleCall
import PyProof.ReprRoads
import PyProof.InstNe
import HandS.ForMost
import HandS.ForExc
import HandS.EndTab
import HandS.HeadHook4
import HandS.HeadWalk
import HandS.Head0
import HandS.Head1
import HandS.Head2
import HandS.ExcIs
import HandS.HotCalls
import HandS.IsInst
import HandS.Zip
import HandS.Walk
import HandS.TupAny
import HandS.Conv
import HandS.Deep
import HandS.OwnEq
import HandS.SetFor
import HandS.Defaults
import HandS.RaiseMore
import HandS.CallSlots
import KE.GoesMore
import HandS.FStr
import HandS.Style
import HandS.Strs
import PySem.Challenge.RW_bestsbook_k16_whole_ages_and_classes
set_option Elab.async false
set_option linter.all false
set_option maxRecDepth 100000
set_option maxHeartbeats 2000000
namespace Bb
open PySem PySem.Spec PyProof.Rows L2

/-! repr of data that holds no dict -/
mutual
theorem dp_nodict {K : PySem.W.Frag} {H : Hp} : ∀ (d : PyData) (v : V), Dp K H v d → d.hasDict = false
  | .none, _, _ => rfl
  | .bool _, _, _ => rfl
  | .int _, _, _ => rfl
  | .str _, _, _ => rfl
  | .list ds, _, h => by
    cases h with
    | lst _ ha => exact dpall_nodict ds _ ha
  | .tuple ds, _, h => by
    cases h with
    | tup _ ha => exact dpall_nodict ds _ ha
  | .dict _, _, h => by cases h
theorem dpall_nodict {K : PySem.W.Frag} {H : Hp} : ∀ (ds : List PyData) (vs : List V), DpAll K H vs ds → PyData.hasDictAll ds = false
  | [], _, _ => rfl
  | d :: ds, _, h => by
    cases h with
    | cons h1 h2 =>
      show (PyData.hasDict d || PyData.hasDictAll ds) = false
      rw [dp_nodict d _ h1, dpall_nodict ds _ h2]
      rfl
end
def rRepr (K : PySem.W.Frag) : List V → Hp → VK → Prop := fun xs H Q => ∃ (x : V) (d : PyData), xs = [x] ∧ Dp K H x d ∧ d.showable = true ∧ d.depth ≤ 60 ∧ d.shown.length ≤ sizeLine ∧ Q (.str d.shown) H
theorem call_repr {X : Cx} (hg : X.A.guards = some []) (hu : X.A.units + 64 < cLine) : CallR X (.builtin "repr") (rRepr X.K) := by
  intro pins s σ H xs us Q I r h
  obtain ⟨x, d, rfl, hd, hs, hde, hz, q⟩ := h
  obtain ⟨u, rfl, ru⟩ := vals1 r
  have nd := dp_nodict d x hd
  obtain ⟨as, rd⟩ := Dp.reads I d x u hd ru
  cases hd with
  | non =>
    cases ru
    exact PySem.P.repr_of_none ⟨.str _, H, I.tok _, ⟨_, rfl⟩, q⟩
  | bl b =>
    cases ru
    exact PySem.P.repr_of_bool ⟨.str _, H, I.tok _, ⟨_, rfl⟩, q⟩
  | int i =>
    obtain ⟨t, rfl⟩ := ru
    exact PySem.P.repr_of_int (of_decide_eq_true hs) ⟨.str _, H, I.tok _, ⟨_, rfl⟩, q⟩
  | str z =>
    obtain ⟨t, rfl⟩ := ru
    exact PySem.P.repr_of_str ⟨.str _, H, I.tok _, ⟨_, rfl⟩, q⟩ hz
  | lst h1 h2 =>
    cases ru
    exact repr_of_reads' rd hs (fun z => by rw [nd] at z; cases z) hg (by omega) (fun _ _ e => e) (fun h' u' tk k => ⟨.str _, H, I.kept k, ⟨_, rfl⟩, q⟩) hz
  | tup h1 h2 =>
    cases ru
    exact repr_of_reads' rd hs (fun z => by rw [nd] at z; cases z) hg (by omega) (fun _ _ e => e) (fun h' u' tk k => ⟨.str _, H, I.kept k, ⟨_, rfl⟩, q⟩) hz
end Bb
set_option Elab.async false
set_option linter.all false
set_option maxRecDepth 100000
set_option maxHeartbeats 2000000
namespace Bb
open PySem PySem.Spec PyProof.Rows L2

/-! a def that is run where no repr is under way -/
structure FnG (P : Program) (w : World) (K : PySem.W.Frag) (mg : Str → Option Value) (base : Heap) (CX : CXT) (k : Nat) (f : Addr) (fd : FuncData) (ps : List Str) (sp : Sp) : Prop where
  args : ∀ vs H Q E, sp vs H Q E → vs.length = ps.length
  go : ∀ (A : Around) (outer : List Env) (s : Shared) (H : Hp) (ar : Args) (us : List Value) (vs : List V) (Q : VK) (E : XK), A.guards = some [] → Room k A → Env0 P w K mg base A outer s H → BindsTo s fd ar (ps.zip us) → Vals vs us → sp vs H Q E →
    codeAny (model P w) A (.call (.ref f) ar) (CR CX outer P w H s Q E) s

section
variable {P : Program} {w : World} {K : PySem.W.Frag} {mg : Str → Option Value} {base : Heap} {x qual : Str} {params : Arguments} {body : List Stmt} {scope : Scope} {dvs : List V} {kws : List (Str × V)} {f : Addr} {fd : FuncData}
theorem fnG {CX : CXT} {N ps : List Str} {k : Nat} {sp : Sp} (F : FunD K x qual params body scope dvs kws f fd) (S : FnScope N ps scope) (len : ∀ vs H Q E, sp vs H Q E → vs.length = ps.length)
    (bd : ∀ (cdv : Value) (A : Around) (outer : List Env) (s : Shared) (H : Hp) (vs : List V) (Q : VK) (E : XK), A.guards = some [] → Room k (A.deeper (envOfC qual scope s.heap.objs.size f cdv)) →
      (∀ c, fd.code = .ref c → cdv = .ref c) → sp vs H Q E →
      ∃ t, PSs (cxOf CX P w K mg base N qual scope f cdv A outer s H E) body t ∧ t { nx := fun _ H' => Q .non H', rt := Q } (start N vs) H) : FnG P w K mg base CX (k + 1) f fd ps sp := by
  obtain ⟨oc, od, dV, kV, doc, pm, an, cdv, ct, osl, rfl, lk, hcd, _, _⟩ := F.ex
  refine ⟨len, fun A outer s H ar us vs Q E gd room env bnd vals h => ?_⟩
  exact LamX.run_ofS (N := N) lk hcd S room env bnd vals (len _ _ _ _ h) fun room' => bd cdv A outer s H vs Q E gd room' (fun c e => e) h
end

section
variable {X : Cx} {CX : CXT} {k : Nat} {f : Addr} {fd : FuncData} {ps : List Str} {sp : Sp} {E : XK} {x : Str} {p pos : Pos} {e : Expr} {es : List Expr} {t : TA}
/-- such a def called by its name, all parameters given -/
theorem pe_callG (F : FnG X.prog X.w X.K X.mg X.base CX k f fd ps sp) (gd : X.A.guards = some []) (hr : Room k X.A) (hg : Gl X x) (hm : X.mg x = some (.ref f)) (hk : PySem.W.keepIn X.K (.ref f) = true) (hb : Binds X.K fd ps []) (hx : Passes CX X E)
    (ha : PA X (e :: es) t) (hdb : (x == ("__debug__" : Str)) = false := by decide) (he : starEach (e :: es) X.env = (false, eval e X.env) :: starEach es X.env := by rfl) (hpl : (backTo pos (starEach es X.env)).any (·.1) = false := by rfl) :
    PE X (.Call (.Name x p) (e :: es) [] pos) (tCall sp [] E t) := by
  constructor
  intro pins s σ H Q I h
  refine wpAny_Call_Name_kw (ld_glob I hg hm ?_ hdb)
  refine PySem.W.callWith_K (h₀ := X.base) I.ok.mod.kin hk ?_ he hpl
  refine thn (ha.run pos pins s σ H _ I h) ?_
  rintro us s1 ⟨vs, H1, I1, r, q⟩
  refine ⟨I1.kIn, ?_⟩
  have q' : sp vs H1 Q E := by
    have z : sp (vs ++ []) H1 Q E := q
    rw [List.append_nil] at z
    exact z
  have hl : us.length = ps.length := by
    rw [← r.length]
    exact F.args _ _ _ _ q'
  have bnd := hb s1 us I1.kIn (by rw [List.append_nil]; exact hl)
  rw [List.append_nil] at bnd
  refine wpAny_call (codeAny_mono (F.go X.A X.stack s1 H1 ⟨us, []⟩ us vs Q E gd hr I1.env0 bnd r q') ?_)
  rintro (er | fl) s' hq
  · exact hx pins σ H1 s1 er s' I1 hq
  · cases fl with
    | ret u => exact I1.after hq
    | next => exact hq.elim
    | brk => exact hq.elim
    | cont => exact hq.elim
end

/-! the end of a law row: the script is read, the tables are written, no repr is under way -/
section
variable {P : Program} {w : World} {K : PySem.W.Frag} {mg mb : Str → Option Value} {a : Addr} {cs : List (Addr × Addr)} {s₁ : Shared} {vs : List Value} {ns : List Int}
abbrev scO (vs : List Value) : Obj := { cls := .type "list", data := .seq vs.toArray }
abbrev emptyO : Obj := { cls := .none, data := .fields #[] }
/-- what is tracked at the start -/
def h0 (K : PySem.W.Frag) (T : List Addr) (a : Addr) (vs : List Value) (ns : List Int) : Hp := fun b =>
  if b ∈ T then some (.tbl #[]) else if b = a ∧ (K.lookup a).isNone = true then some (.frz (scO vs) (.lst (ns.map V.int))) else none
theorem h0_cases (K : PySem.W.Frag) (T : List Addr) (a : Addr) (vs : List Value) (ns : List Int) (b : Addr) :
    (h0 K T a vs ns b = none) ∨ (b ∈ T ∧ h0 K T a vs ns b = some (.tbl #[])) ∨ (b = a ∧ K.lookup a = none ∧ h0 K T a vs ns b = some (.frz (scO vs) (.lst (ns.map V.int)))) := by
  unfold h0
  by_cases h1 : b ∈ T
  · rw [if_pos h1]
    exact .inr (.inl ⟨h1, rfl⟩)
  · rw [if_neg h1]
    by_cases h2 : b = a ∧ (K.lookup a).isNone = true
    · rw [if_pos h2]
      exact .inr (.inr ⟨h2.1, Option.isNone_iff_eq_none.mp h2.2, rfl⟩)
    · rw [if_neg h2]
      exact .inl rfl
theorem law_callG {CX : CXT} {k : Nat} {fa : Addr} {fd : FuncData} {x : Str} {sp : Sp}
    (KX : K.In s₁.heap) (hns : s₁.heap.Ns mainGlobals mg) (hb : s₁.heap.Ns builtinsNs mb) (hbb : ∀ x : Str, x ≠ "__name__" → mb x = bootBuiltins x) (hlim : s₁.heap.NoLimit) (hg : s₁.gens = #[])
    (hT : ∀ p ∈ cs, s₁.heap.get? p.2 = some emptyO) (nT : ∀ p ∈ cs, K.lookup p.2 = none) (C : ∀ p ∈ cs, PySem.W.CodeHd s₁.heap p.1 p.2)
    (hbm : ∃ (bm : Addr) (ob : Obj), mg "__builtins__" = some (.ref bm) ∧ bm ≠ builtinsNs ∧ s₁.heap.get? bm = some ob ∧ ob.cls = .type "module" ∧ ob.dict = some builtinsNs ∧ ob.data = .plain)
    (ha : s₁.heap.get? a = some (scO vs)) (hi : IntsAre vs ns) (hl : ns.length ≤ sizeLine) (hr : Room k callerA)
    (F : ∀ base : Heap, K.In base → base.Ns mainGlobals mg → (∀ p ∈ cs, LamX.TabB base mg p.1 p.2) → FnG P w K mg base CX k fa fd [x] sp) (hbind : ∀ (s : Shared) (u : Value), BindsTo s fd ⟨[u], []⟩ [(x, u)])
    (hsp : ∀ H : Hp, (∀ p ∈ cs, H p.2 = some (.tbl #[])) → SqL K H a (ns.map V.int) → sp [.ref a] H (fun v _ => v = .bl true) fun _ _ _ => False)
    (hCX : ∀ H e s', CX [] H s₁ (fun _ _ _ => False) e s' → False) :
    codeAny (model P w) callerA (.call (.ref fa) ⟨[.ref a], []⟩) (fun r s' => r = .ok (.ret (.bool true)) ∧ OldK s₁.heap s'.heap ∧ s'.os = s₁.os ∧ AllBare s'.gens) s₁ := by
  have tbl : ∀ b ∈ cs.map (·.2), s₁.heap.get? b = some emptyO := by
    intro b hm
    obtain ⟨p, hp, rfl⟩ := List.mem_map.mp hm
    exact hT p hp
  have aT : a ∉ cs.map (·.2) := by
    intro hm
    have z := (tbl a hm).symm.trans ha
    injection z with z
    injection z with z1 z2 z3 z4
    cases z1
  let H : Hp := h0 K (cs.map (·.2)) a vs ns
  have hc : ∀ b, H b = none ∨ (b ∈ cs.map (·.2) ∧ H b = some (.tbl #[])) ∨ (b = a ∧ K.lookup a = none ∧ H b = some (.frz (scO vs) (.lst (ns.map V.int)))) := fun b => h0_cases K _ a vs ns b
  have hH : ∀ p ∈ cs, H p.2 = some (.tbl #[]) := fun p hp => by
    show h0 K _ a vs ns p.2 = _
    unfold h0
    rw [if_pos (List.mem_map.mpr ⟨p, hp, rfl⟩)]
  have lenV : vs.length = ns.length := hi.length
  have rv := vals_ints hi
  have sq : SqL K H a (ns.map V.int) := by
    cases hk : K.lookup a with
    | some o =>
      have e := (KX a o hk).symm.trans ha
      injection e with e
      subst e
      exact .inr ⟨_, vs.toArray, _, hk, rfl, rfl, rfl, by rw [List.size_toArray, lenV]; exact hl, by simpa using rv⟩
    | none =>
      refine .inl (.inr ⟨scO vs, ?_⟩)
      show h0 K _ a vs ns a = _
      unfold h0
      rw [if_neg aT, if_pos ⟨rfl, by rw [hk]; rfl⟩]
  have hok : HOk P w H s₁.heap := by
    intro b u e
    rcases hc b with z | ⟨m, z⟩ | ⟨rfl, _, z⟩
    · rw [z] at e
      cases e
    · rw [z] at e
      cases e
      exact tbl b m
    · rw [z] at e
      cases e
      exact ⟨ha, by rw [List.length_map]; exact hl, vs, _, rv, ha⟩
  -- what is no list and no empty table is not tracked
  have other : ∀ {b : Addr} {o : Obj}, s₁.heap.get? b = some o → o.data ≠ Data.seq vs.toArray 0 → o.data ≠ Data.fields #[] → H b = none := by
    intro b o e n1 n2
    rcases hc b with z | ⟨m, _⟩ | ⟨rfl, _, _⟩
    · exact z
    · have q := (tbl b m).symm.trans e
      injection q with q
      subst q
      exact absurd rfl n2
    · have q := ha.symm.trans e
      injection q with q
      subst q
      exact absurd rfl n1
  have down : ∀ {b : Addr} {o : Obj}, s₁.heap.get? b = some o → o.data ≠ Data.seq vs.toArray 0 → o.data ≠ Data.fields #[] → (hidT s₁.heap H).get? b = some o := fun e n1 n2 => hidT_get e (other e n1 n2)
  have nsD : ∀ {b : Addr} {m : Str → Option Value}, s₁.heap.Ns b m → (hidT s₁.heap H).Ns b m := by
    rintro b m ⟨o, es, ep, e, d, r⟩
    refine ⟨o, es, ep, down e ?_ ?_, d, r⟩
    · rw [d]
      intro q
      cases q
    · rw [d]
      intro q
      cases q
  have kin : K.In (hidT s₁.heap H) := by
    intro b o e
    refine hidT_get (KX b o e) ?_
    rcases hc b with z | ⟨m, _⟩ | ⟨rfl, n, _⟩
    · exact z
    · obtain ⟨p, hp, rfl⟩ := List.mem_map.mp m
      rw [nT p hp] at e
      cases e
    · rw [n] at e
      cases e
  have md : L2.Mod K mg (hidT s₁.heap H) := ⟨kin, nsD hns, ⟨mb, nsD hb, hbb⟩, by
    obtain ⟨mc, e1, e2⟩ := hlim
    exact ⟨mc, nsD e1, e2⟩⟩
  have tabs : ∀ p ∈ cs, LamX.TabB (hidT s₁.heap H) mg p.1 p.2 := by
    intro p hp
    constructor
    · obtain ⟨o, us, file, tf, flags, tg, inF, text, tt, g1, g2, g3, g4, g5⟩ := C p hp
      refine ⟨o, us, file, tf, flags, tg, inF, text, tt, down g1 ?_ ?_, g2, g3, g4, g5⟩
      · rw [g3]
        intro q
        cases q
      · rw [g3]
        intro q
        injection q with q
        rw [q] at g4
        simp at g4
    · obtain ⟨bm, ob, b1, b2, b3, b4, b5, b6⟩ := hbm
      refine ⟨bm, ob, b1, b2, ?_, ?_, down b3 ?_ ?_, b4, b5, b6⟩
      · intro q
        obtain ⟨o, es, ep, e, d, _⟩ := hns
        rw [q, e] at b3
        injection b3 with b3
        rw [← b3, d] at b6
        cases b6
      · intro q
        rw [q, hT p hp] at b3
        injection b3 with b3
        rw [← b3] at b6
        cases b6
      · rw [b6]
        intro q
        cases q
      · rw [b6]
        intro q
        cases q
    · intro z
      obtain ⟨o, es, ep, e, d, _⟩ := hns
      rw [z, hT p hp] at e
      injection e with e
      rw [← e] at d
      cases d
  have env : Env0 P w K mg (hidT s₁.heap H) callerA [] s₁ H :=
    { frames := rfl, mod := md, bs := fun b o e => of_hidT e, bsz := Nat.le_of_eq (hidT_size _ _), funs := True.intro, frf := (fun b z => by cases z), hok := hok, bare := .of_eq hg }
  refine codeAny_mono ((F _ kin (nsD hns) tabs).go callerA [] s₁ H ⟨[.ref a], []⟩ [.ref a] [.ref a] _ _ rfl hr env (hbind s₁ (.ref a)) (.cons rfl .nil) (hsp H hH sq)) ?_
  rintro (er | fl) s' h
  · exact (hCX H er s' h).elim
  · cases fl with
    | next => exact h.elim
    | brk => exact h.elim
    | cont => exact h.elim
    | ret u =>
      obtain ⟨v, H', os, bare, un, hok', r', q⟩ := h
      have q' : v = .bl true := q
      subst q'
      obtain rfl : u = Value.bool true := r'
      have same : ∀ b o, b ∉ cs.map (·.2) → s₁.heap.get? b = some o → s'.heap.get? b = some o := by
        intro b o nb e
        rcases hc b with z | ⟨m, _⟩ | ⟨rfl, _, z⟩
        · exact un.keep b o e z (by simp [frs]) (by simp)
        · exact absurd m nb
        · have z2 := un.frzs _ _ _ z
          obtain ⟨e2, _⟩ := hok' _ _ z2
          rw [ha] at e
          rw [← e]
          exact e2
      have grown : ∀ p ∈ cs, ∃ more : Array Value, s'.heap.get? p.2 = some { cls := .none, data := .fields more } := by
        intro p hp
        obtain ⟨more, z⟩ := un.tbls p.2 #[] (hH p hp)
        exact ⟨_, hok' p.2 _ z⟩
      refine ⟨rfl, ⟨fun b o e => ?_, fun b o e => ?_⟩, os, bare⟩
      · by_cases m : b ∈ cs.map (·.2)
        · obtain ⟨p, hp, rfl⟩ := List.mem_map.mp m
          obtain ⟨more, hm⟩ := grown p hp
          have e' := (hT p hp).symm.trans e
          injection e' with e'
          subst e'
          refine .inr (.inl ⟨((C p hp).tab (hT p hp)).isCodeTable, rfl, #[], more, rfl, ?_⟩)
          rw [Array.empty_append]
          exact hm
        · exact .inl (same b o m e)
      · by_cases m : b ∈ cs.map (·.2)
        · obtain ⟨p, hp, rfl⟩ := List.mem_map.mp m
          obtain ⟨more, hm⟩ := grown p hp
          exact ⟨_, hm⟩
        · exact ⟨o, same b o m e⟩
/-- what a law's facts at the head's heap h come to -/
def LawG (l : PySem.W.OpenLaw) (w : World) (K : PySem.W.Frag) (CX : CXT) (k n : Nat) (x : Str) (mg : Str → Option Value) (fa : Addr) (h : Heap) : Prop :=
  ∃ (fd : FuncData) (cs : List (Addr × Addr)) (sp : Sp), (∀ p ∈ cs, h.get? p.2 = some emptyO) ∧ (∀ p ∈ cs, K.lookup p.2 = none) ∧ (∀ p ∈ cs, PySem.W.CodeHd h p.1 p.2) ∧ (∀ (s : Shared) (u : Value), BindsTo s fd ⟨[u], []⟩ [(x, u)]) ∧
    (∀ (H : Hp) (a : Addr) (ns : List Int), ns.length ≤ n → (∀ z ∈ ns, Builtin.Int.intBits z ≤ 1048576) → (∀ p ∈ cs, H p.2 = some (.tbl #[])) → SqL K H a (ns.map V.int) → sp [.ref a] H (fun v _ => v = .bl true) fun _ _ _ => False) ∧
    ∀ base : Heap, K.In base → base.Ns mainGlobals mg → (∀ p ∈ cs, LamX.TabB base mg p.1 p.2) → FnG l.prog w K mg base CX k fa fd [x] sp
theorem walkG {l : PySem.W.OpenLaw} {n k : Nat} {q : Program} {loose : List Str} {XP : (Str → Option Value) → Heap → Prop} {YP : World → Heap → Prop} {d : DefRec} {CX : World → CXT} {x : Str}
    (hn : l.most = some n) (hn2 : n ≤ sizeLine) (hdf : d.params.defaults = []) (hr : Room k callerA)
    (F : ∀ (w : World) (mg : Str → Option Value) (fa : Addr) (h : Heap), YP w h → h.Ns mainGlobals mg → mg d.name = some (.ref fa) → ∃ K : PySem.W.Frag, K.In h ∧ LawG l w K (CX w) k n x mg fa h)
    (hCX : ∀ (w : World) (H : Hp) (s : Shared) (e : Value) (s' : Shared), CX w [] H s (fun _ _ _ => False) e s' → False) :
    PySem.W.WalkO q loose XP YP l.row.toRowW d [] (fun f vs => PySem.call f vs) := by
  refine Att.attach_callB hn hdf ?_
  intro w s₀ s₁ mg mb fa o pm cd doc a vs ns G Y ho hd hcd hmg hobj hints hlen hbits hg
  obtain ⟨K, KX, fd, cs, sp, c1, c2, c3, c4, c5, c6⟩ := F w mg fa _ Y G.T.g hmg
  exact law_callG KX G.T.g G.T.b G.T.builtins G.T.nolimit hg c1 c2 c3 G.T.bmain hobj hints (Nat.le_trans hlen hn2) hr c6 c4 (fun H hH hS => c5 H a ns hlen hbits hH hS) fun H e s' => hCX w H s₁ e s'
end
end Bb
set_option Elab.async false
set_option linter.all false
set_option maxRecDepth 100000
set_option maxHeartbeats 2000000
namespace Bb
open PySem PySem.Spec PyProof.Rows L2

/-! several clauses, each with a name: try: .. except x as n: .. except y as m: .. -/
abbrev Cl : Type := Value × Nat × (Addr → Value → Option Addr → TS)
/-- what the clauses wish of an exception, from the first on -/
def wAll (K : PySem.W.Frag) (Wout : WX) (D : Ends) : List Cl → WX
  | [] => Wout
  | q :: r => wAs K q.1 q.2.1 q.2.2 (wAll K Wout D r) D
inductive Cls2 (X : Cx) : List ExceptHandler → List Cl → Prop
  | nil : Cls2 X [] []
  | cons {x n : Str} {c : Value} {i : Nat} {ts : Addr → Value → Option Addr → TS} {b : Stmt} {su : List Stmt} {np pos' : Pos} {hds : List ExceptHandler} {l : List Cl} (hi : X.N[i]? = some n) (hl : X.env.kindOf n = some .local) (hc : Names X x c)
      (hsu : ∀ (a : Addr) (oe : Obj) (cls : Value) (d : Option Addr) (pn : List (Addr × Obj)), Zc cls d oe → (∃ vs, oe.data = .fields vs) → PSs (X.suite a ((a, oe) :: pn)) (b :: su) (ts a cls d)) (r : Cls2 X hds l) :
      Cls2 X (.ExceptHandler (some (.Name x np)) (some n) (b :: su) pos' :: hds) ((c, i, ts) :: l)
section
variable {X : Cx} {body : List Stmt} {h₁ : ExceptHandler} {hds : List ExceptHandler} {l : List Cl} {pos : Pos} {tb : WX → TS} {Wout : WX}
theorem ps_try_all (hs : X.stack = X.env :: X.outer) (hf : X.env.frame = some X.env.locals) (hN : X.N.Nodup) (tk : Takes X Wout)
    (hb : ∀ (W : WX) (pn : List (Addr × Obj)) (xe : Value → Shared → Prop), Takes (X.tr pn xe) W → PassesOwn (model X.prog X.w) X.A X.env xe → PSs (X.tr pn xe) body (tb W))
    (hh : Cls2 X (h₁ :: hds) l) : PS X (.Try body (h₁ :: hds) [] [] pos) (fun D σ H => tb (wAll X.K Wout D l) D σ H) := by
  constructor
  intro pins s σ H D I h
  have ok := I.ok
  have fr : X.A.frames = some (X.env :: X.outer) := by
    rw [ok.frames, hs]
  refine wpAny_Try_except ?_
  let land : Value → Shared → Prop := fun e s₁ => wpAny (model X.prog X.w) X.A (noteFrame e X.env)
    (fun _ s₂ => wpAny (model X.prog X.w) X.A (setFlight e none) (fun _ s₃ => wpAny (model X.prog X.w) X.A (handleBy e X.env (h₁ :: hds)) (SP X pins D) X.xe s₃) X.xe s₂) X.xe s₁
  have took : Takes (X.tr (X.pn ++ pins) land) (wAll X.K Wout D l) := by
    rintro u s' ⟨a, B, sI, pins', σ', H', cls, d, rfl, J', nb, up, sky, na, os, ag, wish⟩
    have J : Inv X pins σ' H' sI := J'.ofTry ok
    have over : Sky B (X.env :: X.outer) a (Zc cls d) X.env.locals s'.heap := by
      rw [← hs]
      exact sky
    show wpAny (model X.prog X.w) X.A (noteFrame (.ref a) X.env) _ _ _
    refine Sky.land Zc.steady fr hf over ?_
    intro h3 fl up3
    have J3 : Inv X pins σ' H' { s' with heap := h3 } := J.landed nb fl.1 (up.trans up3) os ag
    obtain ⟨oe, vs, ge, ze, de⟩ := fl.there
    have off : a ∉ frs (X.env :: X.outer) := by
      intro hm
      obtain ⟨_, o', e', hnf⟩ := fl.2.2.1.mem hm
      rw [ge] at e'
      cases e'
      exact hnf _ de
    have offL : a ≠ X.env.locals := by
      intro z
      refine off (List.mem_filterMap.mpr ⟨X.env, List.mem_cons_self, ?_⟩)
      rw [hf, z]
    have offF : a ∉ X.fs := by
      intro hm
      obtain ⟨e, he, q⟩ := List.mem_filterMap.mp hm
      exact off (List.mem_filterMap.mpr ⟨e, List.mem_cons_of_mem _ he, q⟩)
    have inS := J3.suite ge de na offL offF
    have looksT : PySem.W.Looks (model X.prog X.w) h3 (typeOf (.ref a)) cls := by
      intro A Q E s k q
      refine wpAny_typeOf_ref (k _ _ ge) ?_
      rw [ze.1]
      exact q
    -- the clauses, one behind the other
    have go : ∀ {hs' : List ExceptHandler} {l' : List Cl}, Cls2 X hs' l' → wAll X.K Wout D l' cls d σ' H' →
        wpAny (model X.prog X.w) X.A (handleBy (.ref a) X.env hs') (SP X pins D) X.xe { s' with heap := h3 } := by
      intro hs' l' ck
      induction ck with
      | nil =>
        intro w
        refine wpAny_handleBy_nil ?_
        obtain ⟨_, _, _, oe1, vs1, T, oT, ts1, g1, z1, d1, t1, _⟩ := id fl
        unfold PySem.passOn
        refine wpAny_bind (wpAny_field g1 d1 t1 ?_)
        rw [if_neg (by simp)]
        have last : wpAny (model X.prog X.w) X.A (setFlight (.ref a) X.env.frame) (fun _ s4 => wpAny (model X.prog X.w) X.A (throw (.ref a) : Sem Flow) (SP X pins D) X.xe s4) X.xe { s' with heap := h3 } := by
          rw [hf]
          refine HandSPX.setFlight_upZ fl ?_
          intro h4 held up4
          refine wpAny_throw (tk _ _ ⟨a, B, sI, pins, σ', H', cls, d, rfl, J, nb, (up.trans up3).trans up4, .inr (.inr ?_), na, os, ag, w⟩)
          rw [hs]
          exact held
        first
          | exact wpAny_bind (wpAny_pure (wpAny_bind last))
          | exact wpAny_bind last
      | @cons x n c i ts b su np pos' hds2 l2 hi hl hc hsu r ih =>
        intro w
        have w' : wAs X.K c i ts (wAll X.K Wout D l2) D cls d σ' H' := w
        obtain ⟨t, ht, yes, no⟩ := w'
        refine wpAny_handleBy_cons (codeAny_handlers_test ?_) (by intro q; cases q)
        have asked := PySem.W.exm_one (M := model X.prog X.w) J3.kIn looksT ht
        have name : ∀ {Q : Value → Shared → Prop} {E : Value → Shared → Prop}, Q c { s' with heap := h3 } → wpAny (model X.prog X.w) (X.A.mark (some (.ref a))) (eval (.Name x np) X.env) Q E { s' with heap := h3 } := by
          intro Q E q
          rcases hc with ⟨g, db, m | ⟨m, v, nn⟩⟩
          · exact ld_glob (X := X.suite a ((a, oe) :: (X.pn ++ pins))) inS g m q db
          · exact ld_blt (X := X.suite a ((a, oe) :: (X.pn ++ pins))) inS g m v q nn db
        refine name (asked.here ?_)
        cases t with
        | false => exact ih (no rfl)
        | true =>
          refine codeAny_handlers_suite_as ?_
          refine HandSPX.lands_againZ fl ?_
          intro h4 fl4 up4
          have J4 : Inv X pins σ' H' { s' with heap := h4 } := J.landed nb fl4.1 ((up.trans up3).trans up4) os ag
          obtain ⟨oe4, vs4, g4, z4, d4⟩ := fl4.there
          refine store_ok (X := X.suite a ((a, oe4) :: (X.pn ++ pins))) (v := .ref a) (J4.suite g4 d4 na offL offF) hN hi (.inl hl) rfl ?_ (.inr hl)
          intro s5 S5
          refine wpAny_mono ((hsu a oe4 cls d (X.pn ++ pins) z4 ⟨_, d4⟩).run [] s5 _ H' _ S5 (yes rfl a na)) ?_ (fun _ _ z => z.elim)
          have gone : ∀ {s6 : Shared} {σ6 : L2.St} {H6 : Hp} {Q : Shared → Prop}, Inv (X.suite a ((a, oe4) :: (X.pn ++ pins))) [] σ6 H6 s6 → (∀ s7, Inv X pins (σ6.set i none) H6 s7 → Q s7) →
              wpAny (model X.prog X.w) X.A (do bindName X.env n .none; unbindBehindTheSuite X.env n pos') (fun _ s7 => Q s7) X.xe s6 := fun S6 q => gone_ok (S6.unsuite ok) hN hi hl q
          intro f s6 sp
          cases f with
          | next =>
            obtain ⟨σ6, H6, S6, q6⟩ := sp
            exact gone S6 (fun s7 J7 => ⟨_, _, J7, q6⟩)
          | brk =>
            obtain ⟨σ6, H6, S6, q6⟩ := sp
            exact gone S6 (fun s7 J7 => ⟨_, _, J7, q6⟩)
          | cont =>
            obtain ⟨σ6, H6, S6, q6⟩ := sp
            exact gone S6 (fun s7 J7 => ⟨_, _, J7, q6⟩)
          | ret u =>
            obtain ⟨v6, σ6, H6, S6, r6, q6⟩ := sp
            exact gone S6 (fun s7 J7 => ⟨_, _, _, J7, r6, q6⟩)
    exact go hh wish
  refine wpAny_mono ((hb _ (X.pn ++ pins) land took PassesOwn.looking).run [] s σ H D (I.toTry _) h) ?_ (fun e s1 he => he)
  intro f s1 sp
  cases f with
  | next =>
    obtain ⟨σ1, H1, J1, q⟩ := sp
    exact wpAny_execs_nil ⟨σ1, H1, J1.ofTry ok, q⟩
  | brk =>
    obtain ⟨σ1, H1, J1, q⟩ := sp
    exact ⟨σ1, H1, J1.ofTry ok, q⟩
  | cont =>
    obtain ⟨σ1, H1, J1, q⟩ := sp
    exact ⟨σ1, H1, J1.ofTry ok, q⟩
  | ret u =>
    obtain ⟨v1, σ1, H1, J1, r, q⟩ := sp
    exact ⟨v1, σ1, H1, J1.ofTry ok, r, q⟩
end

/-! a def that is handed the exception of an except clause, in the clause's suite -/
section
variable {P : Program} {w : World} {K : PySem.W.Frag} {mg : Str → Option Value} {base : Heap}
/-- called with the exception at a, whose object is oe, it hands back z and leaves all as it was -/
structure FnE (P : Program) (w : World) (K : PySem.W.Frag) (mg : Str → Option Value) (base : Heap) (k : Nat) (f : Addr) (fd : FuncData) (ps : List Str) (D : Addr) (z : V) : Prop where
  one : ps.length = 1
  go : ∀ (A : Around) (outer : List Env) (s : Shared) (H : Hp) (ar : Args) (a : Addr) (oe : Obj) (Q : VK), L2H.RoomH k A → L2H.PinOk outer H s (a, oe) → Zc (.ref D) none oe → (∃ vs, oe.data = .fields vs) → Env0 P w K mg base A outer s H →
    BindsTo s fd ar (ps.zip [.ref a]) → (∀ H', (∀ b o, H b = some o → H' b = some o) → Q z H') → codeAny (model P w) A (.call (.ref f) ar) (CR (fun _ _ _ _ _ _ => False) outer P w H s Q (fun _ _ _ => False)) s
theorem fnE {x qual : Str} {params : Arguments} {body : List Stmt} {scope : Scope} {dvs : List V} {kws : List (Str × V)} {f : Addr} {fd : FuncData} {N : List Str} {p1 : Str} {k : Nat} {D : Addr} {z : V} (F : FunD K x qual params body scope dvs kws f fd) (S : FnScope N [p1] scope)
    (bd : ∀ (cdv : Value) (A : Around) (outer : List Env) (s : Shared) (H : Hp) (a : Addr) (oe : Obj) (Q : VK), L2H.RoomH k (A.deeper (envOfC qual scope s.heap.objs.size f cdv)) → Zc (.ref D) none oe → (∃ vs, oe.data = .fields vs) → (∀ H', (∀ b o, H b = some o → H' b = some o) → Q z H') →
      ∃ t, PSs (L2H.cxH (fun _ _ _ _ _ _ => False) P w K mg base N qual scope f cdv A outer s H (fun _ _ _ => False) (a, oe)) body t ∧ t { nx := fun _ H' => Q .non H', rt := Q } (start N [.ref a]) H) : FnE P w K mg base (k + 1) f fd [p1] D z := by
  obtain ⟨oc, od, dV, kV, doc, pm, an, cdv, ct, osl, rfl, lk, hcd, _, _⟩ := F.ex
  refine ⟨rfl, ?_⟩
  intro A outer s H ar a oe Q room pin hz hd env bnd back
  have kin : K.In s.heap := env.mod.kin.keeps fun b o e => (env.bs b o e).1
  have lim : s.heap.NoLimit := env.mod.nolimit.keeps fun b o e => (env.bs b o e).1
  have kinds : ∀ y ∈ [p1].zip [Value.ref a], scope.names.lookup y.1 = some .local ∨ (scope.names.lookup y.1 = some .cell ∧ ((cellsFrom (s.heap.objs.size + 1) scope.names []).lookup y.1).isSome = true) := by
    rintro ⟨n, v⟩ hy
    rcases S.par n (List.of_mem_zip hy).1 with q | q
    · exact .inl q
    · exact .inr ⟨q, PySem.W.cellsFrom_some _ _ _ (.inl q)⟩
  refine codeAny_call_function room.depth (kin _ _ lk) rfl S.co S.gen rfl (PySem.W.codeRec_of kin hcd) (bnd _ _ _ _ ?_)
  refine wpAny_newFunctionEnv_cells S.kind kinds ?_
  rintro env1 rfl s1 x1
  refine ⟨lim.keeps x1.toInCall.keep, codeAny_func ?_⟩
  obtain ⟨t, ht, hq⟩ := bd cdv A outer s H a oe Q (room.deeper _) hz hd back
  have start1 := L2H.inv_startH (CX := fun _ _ _ _ _ _ => False) (E := fun _ _ _ => False) S pin env (vs := [.ref a]) rfl (.cons rfl .nil) x1
  refine wpAny_mono (ht.run [] s1 (start N [.ref a]) H _ start1 hq) ?_ (fun e s' hx => hx)
  intro fl s' sp
  cases fl with
  | next =>
    obtain ⟨σ', H', J, q⟩ := sp
    exact ⟨V.non, H', J.os, J.bare, J.base, J.hok, rfl, q⟩
  | brk =>
    obtain ⟨_, _, _, q⟩ := sp
    exact q.elim
  | cont =>
    obtain ⟨_, _, _, q⟩ := sp
    exact q.elim
  | ret u =>
    obtain ⟨v, σ', H', J, rv, q⟩ := sp
    exact ⟨v, H', J.os, J.bare, J.base, J.hok, rv, q⟩
end
/-- kind(e) in the suite: e stands in slot i -/
theorem pe_callE {X : Cx} {a : Addr} {oe : Obj} {pn : List (Addr × Obj)} {k : Nat} {f D : Addr} {fd : FuncData} {ps : List Str} {z : V} {x : Str} {p pos : Pos} {e : Expr} (F : FnE X.prog X.w X.K X.mg X.base k f fd ps D z) (hr : L2H.RoomH k X.A) (hg : Gl X x) (hm : X.mg x = some (.ref f)) (hk : PySem.W.keepIn X.K (.ref f) = true)
    (hb : Binds X.K fd ps []) (hz : Zc (.ref D) none oe) (hd : ∃ vs, oe.data = .fields vs) {t : TA} (he : PA (X.suite a ((a, oe) :: pn)) [e] t)
    (hdb : (x == ("__debug__" : Str)) = false := by decide) (hst : starEach [e] X.env = (false, eval e X.env) :: starEach [] X.env := by rfl) (hpl : (backTo pos (starEach [] X.env)).any (·.1) = false := by rfl) :
    PE (X.suite a ((a, oe) :: pn)) (.Call (.Name x p) [e] [] pos) (fun σ H Q => t σ H fun vs H1 => vs = [.ref a] ∧ ∀ H', (∀ b o, H1 b = some o → H' b = some o) → Q z H') := by
  constructor
  intro pins s σ H Q I h
  refine wpAny_Call_Name_kw (ld_glob I hg hm ?_ hdb)
  refine PySem.W.callWith_K (h₀ := X.base) I.ok.mod.kin hk ?_ hst hpl
  refine thn (he.run pos pins s σ H _ I h) ?_
  rintro us s1 ⟨vs, H1, I1, r, rfl, q⟩
  refine ⟨I1.kIn, ?_⟩
  obtain ⟨u, rfl, ru⟩ := vals1 r
  cases ru
  have one : [Value.ref a].length = ps.length := F.one.symm
  have bnd := hb s1 [.ref a] I1.kIn (by rw [List.append_nil]; exact one)
  rw [List.append_nil] at bnd
  have pin1 := I1.pin (a, oe) (List.mem_append_left _ List.mem_cons_self)
  have pinned : L2H.PinOk X.stack H1 s1 (a, oe) := ⟨pin1.1, pin1.2.1, fun hm => (List.mem_cons.mp (I1.stkSub a hm)).elim pin1.2.2.1 pin1.2.2.2.1, pin1.2.2.2.2⟩
  refine wpAny_call (codeAny_mono (F.go _ X.stack s1 H1 ⟨[.ref a], []⟩ a oe Q ⟨hr.dp, hr.un⟩ pinned hz hd I1.env0 bnd q) ?_)
  rintro (er | fl) s' hq
  · exact hq.elim
  · cases fl with
    | ret u => exact I1.after hq
    | next => exact hq.elim
    | brk => exact hq.elim
    | cont => exact hq.elim
end Bb
set_option Elab.async false
set_option linter.all false
set_option maxRecDepth 100000
set_option maxHeartbeats 2000000
namespace Bb
open PySem PySem.Spec PyProof.Rows L2

/-! isinstance of the exception that the caller's suite holds -/
theorem call_isP {X : Cx} {a D : Addr} {oe : Obj} (hp : (a, oe) ∈ X.pn) (C : ExcC X.K D) (hz : Zc (.ref D) none oe) (hf : ∃ vs, oe.data = .fields vs) : CallR X (.builtin "isinstance") (rIsE X.K D a) := by
  intro pins s σ H xs us Q I r h
  obtain ⟨c, cv, b, rfl, hcv, e, q⟩ := h
  obtain ⟨u1, u2, rfl, r1, r2⟩ := vals2 r
  cases r1
  have ec := hcv _ r2
  subst ec
  have there := (I.pin (a, oe) (List.mem_append_left _ hp)).1
  obtain ⟨vs, hv⟩ := hf
  have J : PySem.W.InstAt s.heap a oe D none := by
    obtain ⟨oc, od, oda, osl⟩ := oe
    obtain ⟨h1, h2⟩ := hz
    dsimp only at h1 h2 hv
    subst h1 h2 hv
    exact ⟨there, rfl, rfl, trivial⟩
  refine PySem.W.kia_one (PySem.W.handS_kitx_exc C.hg C.hk C.hs C.hd C.ha C.hn C.ht C.hm) I.kIn J e (fun z => nomatch z) ?_
  intro tk
  exact ⟨.bl b, H, I.kept (t' := tk) (fun _ _ z => z), rfl, q⟩

/-! list.count of flat items -/
def rCntF (K : PySem.W.Frag) : V → List V → Hp → VK → Prop := fun x xs H Q => ∃ (p : Addr) (ys : List V) (y : V), x = .ref p ∧ xs = [y] ∧ SqL K H p ys ∧ flatV y = true ∧ ys.all flatV = true ∧ Q (.int ((ys.countP fun z => eqV z y : Nat) : Int)) H
theorem count_eqU {x : V} : ∀ {xs : List V} {us : List Value}, Vals xs us → xs.all flatV = true → us.countP (eqU x) = xs.countP fun y => eqV y x
  | _, _, .nil, _ => rfl
  | y :: xs, u :: us, .cons r t, f => by
    rw [List.all_cons, Bool.and_eq_true] at f
    rw [List.countP_cons, List.countP_cons, eqU_of r f.1, count_eqU t f.2]
theorem mt_countF {X : Cx} : MtR X "list.count" (rCntF X.K) := by
  intro pins s σ H x xs v us Q I rx rxs h
  obtain ⟨p, ys, y, rfl, rfl, hs, fy, fys, q⟩ := h
  cases rx
  obtain ⟨u, rfl, ru⟩ := vals1 rxs
  obtain ⟨its, rv, ⟨⟨cls, dd, data, sl⟩, n, ho, hc, hdn, hd⟩, hlen⟩ := I.list hs
  dsimp only at hc hd
  subst hc hd
  refine call_meets PySem.F.slot_list_count ⟨_, ho, rfl⟩ PySem.F.entry_list_count (PySem.F.args_list_count_2 _ _) (SeqAt.list_countAt p its.toArray n dd sl u (eqU y)) ⟨ho, ?_, ?_⟩
  · intro z hz
    exact mem_eqAt ru fy rv fys z (by simpa using hz)
  · refine ⟨.int ((ys.countP fun z => eqV z y : Nat) : Int), H, I.tok _, ⟨s.toks, ?_⟩, q⟩
    have e := count_eqU (x := y) rv fys
    show Value.int ((its.toArray.toList.countP (eqU y) : Nat) : Int) s.toks = _
    rw [show its.toArray.toList = its from rfl, e]

/-! len of an own instance; != by an own == -/
section
variable {X : Cx}
theorem call_lenOwn {CX : CXT} {C f : Addr} {fd : FuncData} {ps : List Str} {sp : Sp} {k : Nat} {E : XK} (F : FnOk X.prog X.w X.K X.mg X.base CX k f fd ps sp) (hr : Room (k + 1) X.A) (hs : PySem.W.findIn X.K (.ref C) "__len__" = some (some (.ref f))) (hf : PySem.W.isFn X.K (.ref f) = true)
    (hb : Binds X.K fd ps []) (hx : Passes CX X E) :
    CallR X (.builtin "len") (fun xs H Q => ∃ a dx fs, xs = [.ref a] ∧ H a = some (.ins C dx fs) ∧ sp [.ref a] H (fun v H' => ∃ n : Int, v = .int n ∧ (0 ≤ n ∧ n < 2 ^ 63) ∧ Q (.int n) H') E) := by
  intro pins s σ H xs us Q I r h
  obtain ⟨a, dx, fs, rfl, ha, hsp⟩ := h
  obtain ⟨u, rfl, ru⟩ := vals1 r
  cases ru
  obtain ⟨mA, J, _⟩ := ins_get I.hok ha
  obtain ⟨od, J, _⟩ := J.look
  obtain ⟨m, hF⟩ := I.fr
  refine PySem.W.len_K hF I.ok.mod.kin J hs hf ?_
  have hl := F.len _ _ _ _ hsp
  have bnd := hb s [.ref a] I.kIn (by simpa using hl)
  rw [List.append_nil] at bnd
  refine wpAny_call (codeAny_mono (F.run X.A.in1 X.stack s H ⟨[.ref a], []⟩ [.ref a] [.ref a] _ E hr.in1 I.env0.in1 bnd (.cons rfl .nil) hsp) ?_)
  rintro (er | fl) s' hq
  · exact hx pins σ H s er s' I hq
  · cases fl with
    | ret w' =>
      obtain ⟨z, H', I', rz, n, rfl, hn, q⟩ := I.after hq
      obtain ⟨t, rfl⟩ := rz
      exact ⟨hn, .int n, H', I'.tok _, ⟨_, rfl⟩, q⟩
    | next => exact hq.elim
    | brk => exact hq.elim
    | cont => exact hq.elim
end
namespace Ne
open PySem.W PySem.Calls
section
variable {prog : Program} {w : World} {A : Around} {E : Value → Shared → Prop} {s : Shared} {K : Frag} {x y C f : Addr} {ox oy : Obj} {od od' : Option Obj}
theorem wrap_ty : typeOf (.builtin "object.__ne__") = pure (.type "wrapper_descriptor") := by
  first
    | rfl
    | kernel_rfl
theorem obj_ne {Q : Value → Shared → Prop} (X : K.In s.heap) (I : InstAt s.heap x ox C od) (J : InstAt s.heap y oy C od') (hu : A.units + 1 < cLine) (he : findIn K (.ref C) "__eq__" = some (some (.ref f))) (hf : isFn K (.ref f) = true)
    (hn : findIn K (.ref C) "__ne__" = some (some (.builtin "object.__ne__"))) (hsub : subIn K (.ref C) (.type "object") = some true)
    (h : wpAny (model prog w) A.in1 (call (.ref f) [.ref x, .ref y]) (fun v s' => ∃ b, v = .bool b ∧ Q (.bool (!b)) s') E s) : wpAny (model prog w) A (compareOp .NotEq (.ref x) (.ref y)) Q E s := by
  obtain ⟨hp, g, d, tk, os⟩ := s
  have isO : Looks (model prog w) hp (isInstance (.ref x) (.type "object")) true := I.type.andThen (looks_subIn X hsub)
  -- object.__ne__(x, y)
  have slot : wpAny (model prog w) A (call (.builtin "object.__ne__") [.ref x, .ref y]) (fun v s' => ∃ b, v = .bool b ∧ Q (.bool b) s') E ⟨hp, g, d, tk, os⟩ := by
    refine wpAny_call (codeAny_call_builtin (by decide +kernel) F.cmpEntry_ne ?_)
    refine @check_slot (model prog w) _ _ ⟨hp, g, d, tk, os⟩ "object.__ne__" "object" "__ne__" (.ref x) [.ref y] [] _ F.cmpKind_ne F.cmpSplit_ne isO (F.cmpArgs_ne _ _) ?_
    unfold Builtin.«object.__ne__»
    have eqc : ∀ {R : Option Value → Shared → Prop} {E' : Value → Shared → Prop}, wpAny (model prog w) A.in1 (call (.ref f) [.ref x, .ref y]) (fun v => R (some v)) E' ⟨hp, g, d, tk, os⟩ →
        wpAny (model prog w) A.in1 (callSpecialIfBound? (.ref x) (Str.ofString "__eq__") [.ref y]) R E' ⟨hp, g, d, tk, os⟩ := fun z => ifBound_K X I he hf z
    have rest : ∀ (v : Value) (s' : Shared), (∃ b, v = .bool b ∧ Q (.bool (!b)) s') → wpAny (model prog w) A.in1 (match some v with | some Value.notImplemented => ret .notImplemented | none => ret .notImplemented | some r => do ret (.bool (!(← truthy r))))
        (fun fin s' => match fin with
          | .done f => wants (fun v s' => ∃ b, v = Value.bool b ∧ Q (Value.bool b) s') E (.ok f) s'
          | .again c' => c'.quiet = true ∧ codeAny (model prog w) A c' (wants (fun v s' => ∃ b, v = Value.bool b ∧ Q (Value.bool b) s') E) s') (fun e s' => wants (fun v s' => ∃ b, v = Value.bool b ∧ Q (Value.bool b) s') E (.error e) s') s' := by
      rintro v s' ⟨b, rfl, hq⟩
      refine wpAny_bind (wpAny_truthy_bool (wpAny_pure ?_))
      exact ⟨!b, rfl, hq⟩
    repeat (first
      | with_reducible refine wpAny_cRoomFor hu ?_
      | exact wpAny_bind (m := callSpecialIfBound? (.ref x) (Str.ofString "__eq__") [.ref y]) (eqc (wpAny_mono h (fun v s' hv => rest v s' hv) fun _ _ e => e))
      | wp_step)
  have bs : bindSpecial (.builtin "object.__ne__") (.ref x) = pure (.builtin "object.__ne__", [.ref x]) := by
    unfold bindSpecial
    rw [wrap_ty]
    rfl
  have two : wpAny (model prog w) A (callSpecialIfBound? (.ref x) (Str.ofString "__ne__") [.ref y]) (fun r s' => ∃ b, r = some (Value.bool b) ∧ Q (Value.bool b) s') E ⟨hp, g, d, tk, os⟩ := by
    simp only [callSpecialIfBound?, bindSpecialIfBound?]
    refine wpAny_holding (wpAny_bind (wpAny_bind (wpAny_bind (I.type.here ((looks_findIn X hn).here ?_)))))
    refine wpAny_bind (wpAny_askSetting (wpAny_ite ?_))
    have fin : wpAny (model prog w) A (call (.builtin "object.__ne__") ([.ref x] ++ [.ref y]) >>= fun v => pure (some v)) (fun r s' => ∃ b, r = some (Value.bool b) ∧ Q (Value.bool b) s') E ⟨hp, g, d, tk, os⟩ := by
      refine wpAny_bind (wpAny_mono slot ?_ fun _ _ e => e)
      rintro v s' ⟨b, rfl, hq⟩
      exact wpAny_pure ⟨b, rfl, hq⟩
    split
    · rw [bs]
      exact wpAny_bind (wpAny_pure (wpAny_pure (by exact fin)))
    · rw [bs]
      exact wpAny_tryCatch (wpAny_bind (wpAny_pure (wpAny_pure (by exact fin))))
  have one : wpAny (model prog w) A (tryCompare (.ref x) (Str.ofString "__ne__") (.ref y)) (fun r s' => ∃ v, r = some v ∧ Q v s') E ⟨hp, g, d, tk, os⟩ := by
    unfold tryCompare
    refine wpAny_bind (wpAny_mono two ?_ fun _ _ e => e)
    rintro r s' ⟨b, rfl, hq⟩
    exact wpAny_pure ⟨_, rfl, hq⟩
  show wpAny (model prog w) A (richCompare .NotEq (.ref x) (.ref y)) Q E _
  unfold richCompare
  simp only [oneThing_ref]
  refine wpAny_holding (wpAny_bind (wpAny_cRoomFor (Nat.lt_of_succ_lt hu) ?_))
  refine wpAny_bind (I.type.here (wpAny_bind (J.type.here ?_)))
  rw [show (Value.ref C != Value.ref C) = false from by simp]
  simp only [Bool.false_eq_true, if_false]
  refine wpAny_bind (wpAny_pure ?_)
  simp only [Bool.false_eq_true, if_false]
  refine wpAny_bind (wpAny_mono one ?_ fun _ _ e => e)
  rintro r s' ⟨v, rfl, hq⟩
  exact wpAny_pure hq
end
end Ne
end Bb
set_option Elab.async false
set_option linter.all false
set_option maxRecDepth 100000
set_option maxHeartbeats 2000000
namespace Bb
open PySem PySem.Spec PyProof.Rows L2
open Builtin

/-! ==, != by an own ==: what it answers is told -/
section
variable {X : Cx} {CX : CXT} {C f : Addr} {fd : FuncData} {ps : List Str} {sp : Sp} {k : Nat} {E : XK}
theorem op_neOwn (F : FnOk X.prog X.w X.K X.mg X.base CX k f fd ps sp) (hr : Room (k + 1) X.A) (he : PySem.W.findIn X.K (.ref C) "__eq__" = some (some (.ref f))) (hf : PySem.W.isFn X.K (.ref f) = true)
    (hn : PySem.W.findIn X.K (.ref C) "__ne__" = some (some (.builtin "object.__ne__"))) (hsub : PySem.W.subIn X.K (.ref C) (.type "object") = some true) (hb : Binds X.K fd ps []) (hx : Passes CX X E) :
    OpR X (compareOp .NotEq) (fun x y H Q => ∃ a b dx dy fs gs, x = .ref a ∧ y = .ref b ∧ H a = some (.ins C dx fs) ∧ H b = some (.ins C dy gs) ∧ sp [.ref a, .ref b] H (fun v H' => ∃ t, v = .bl t ∧ Q (.bl (!t)) H') E) := by
  intro pins s σ H x y v u Q I rx ry h
  obtain ⟨a, b, dx, dy, fs, gs, rfl, rfl, ha, hb', hsp⟩ := h
  cases rx
  cases ry
  obtain ⟨mA, J, _⟩ := ins_get I.hok ha
  obtain ⟨od, J, _⟩ := J.look
  obtain ⟨mB, J', _⟩ := ins_get I.hok hb'
  obtain ⟨od', J', _⟩ := J'.look
  have un := hr.units
  refine Ne.obj_ne I.kIn J J' (by omega) he hf hn hsub ?_
  have hl := F.len _ _ _ _ hsp
  have bnd := hb s [.ref a, .ref b] I.kIn (by simpa using hl)
  rw [List.append_nil] at bnd
  refine wpAny_call (codeAny_mono (F.run X.A.in1 X.stack s H ⟨[.ref a, .ref b], []⟩ [.ref a, .ref b] [.ref a, .ref b] _ E hr.in1 I.env0.in1 bnd (.cons rfl (.cons rfl .nil)) hsp) ?_)
  rintro (er | fl) s' hq
  · exact hx pins σ H s er s' I hq
  · cases fl with
    | ret w' =>
      obtain ⟨z, H', I', rz, t, rfl, q⟩ := I.after hq
      cases rz
      exact ⟨t, rfl, .bl (!t), H', I', rfl, q⟩
    | next => exact hq.elim
    | brk => exact hq.elim
    | cont => exact hq.elim
theorem op_eqOwn (F : FnOk X.prog X.w X.K X.mg X.base CX k f fd ps sp) (hr : Room k X.A) (he : PySem.W.findIn X.K (.ref C) "__eq__" = some (some (.ref f))) (hf : PySem.W.isFn X.K (.ref f) = true)
    (hb : Binds X.K fd ps []) (hx : Passes CX X E) :
    OpR X (compareOp .Eq) (fun x y H Q => ∃ a b dx dy fs gs, x = .ref a ∧ y = .ref b ∧ H a = some (.ins C dx fs) ∧ H b = some (.ins C dy gs) ∧ sp [.ref a, .ref b] H (fun v H' => ∃ t, v = .bl t ∧ Q (.bl t) H') E) := by
  intro pins s σ H x y v u Q I rx ry h
  obtain ⟨a, b, dx, dy, fs, gs, rfl, rfl, ha, hb', hsp⟩ := h
  cases rx
  cases ry
  obtain ⟨mA, J, _⟩ := ins_get I.hok ha
  obtain ⟨od, J, _⟩ := J.look
  obtain ⟨mB, J', _⟩ := ins_get I.hok hb'
  obtain ⟨od', J', _⟩ := J'.look
  obtain ⟨m, hF⟩ := I.fr
  show wpAny (model X.prog X.w) X.A (richCompare .Eq (.ref a) (.ref b)) _ _ _
  refine PySem.W.cmp_K (op := .Eq) (tb := .ref C) hr.units0 hF I.ok.mod.kin J J'.type (by simp [PySem.W.notFirst]) he hf ?_
  have hl := F.len _ _ _ _ hsp
  have bnd := hb s [.ref a, .ref b] I.kIn (by simpa using hl)
  rw [List.append_nil] at bnd
  refine wpAny_call (codeAny_mono (F.run X.A X.stack s H ⟨[.ref a, .ref b], []⟩ [.ref a, .ref b] [.ref a, .ref b] _ E hr I.env0 bnd (.cons rfl (.cons rfl .nil)) hsp) ?_)
  rintro (er | fl) s' hq
  · exact hx pins σ H s er s' I hq
  · cases fl with
    | ret w' =>
      obtain ⟨z, H', I', rz, t, rfl, q⟩ := I.after hq
      cases rz
      exact ⟨.bl t, H', I', rfl, q⟩
    | next => exact hq.elim
    | brk => exact hq.elim
    | cont => exact hq.elim
end

/-! enumerate over a tuple -/
def IteT (K : PySem.W.Frag) (a : Addr) : It :=
  ⟨fun i H => ∃ (xs : List V) (x : V), SqT K H a xs ∧ xs[i]? = some x, fun i H v H' => ∃ T x, v = .ref T ∧ H T = none ∧ H' = upd H T (.tup [.int (i : Nat), x]) ∧ ∀ xs, SqT K H a xs → xs[i]? = some x, fun i H => ∃ xs : List V, SqT K H a xs ∧ xs.length ≤ i⟩
theorem tup_ne_iter {h : Heap} {a it : Addr} {items : Array Value} {i : Nat} (t : h.IsTuple a items) (x : h.IsTupleIter it a i) : a ≠ it := by
  rintro rfl
  obtain ⟨o, e, c, _⟩ := t
  obtain ⟨o', e', c', _⟩ := x
  rw [e] at e'
  injection e' with e'
  subst e'
  rw [c] at c'
  exact absurd c' (by decide)
theorem tup_ne_enum {h : Heap} {a e it : Addr} {items : Array Value} {i : Int} {old : Value} (t : h.IsTuple a items) (x : IsEnum h e it i old) : e ≠ a := by
  rintro rfl
  obtain ⟨o, g, c, _⟩ := t
  have g' : h.get? e = _ := x
  rw [g] at g'
  injection g' with g'
  subst g'
  have c' : Value.type "enumerate" = Value.type "tuple" := c
  exact absurd c' (by decide)
theorem turn_enumT {P : Program} {w : World} {K : PySem.W.Frag} {elts : List Expr} {kk : Nat} {tpos : Pos} (a e it : Addr) :
    Turn P w K (.Tuple elts kk tpos) (IteT K a) [e, it] e (fun i h => (∃ old, IsEnum h e it ((i : Nat) : Int) old) ∧ h.IsTupleIter it a i ∧ e ≠ it) where
  mem := by simp
  obj := by
    rintro i h ⟨⟨old, he⟩, ⟨o, ho, hc, hd⟩, _⟩ b hb
    have two : b = e ∨ b = it := by simpa using hb
    rcases two with rfl | rfl
    · exact ⟨_, he, fun v q => nomatch q⟩
    · refine ⟨o, ho, fun v q => ?_⟩
      rw [hd] at q
      cases q
  keep := by
    rintro i h h' ⟨⟨old, he⟩, hi, ne⟩ k
    exact ⟨⟨old, k e (by simp) _ he⟩, hi.at (fun o q => k it (by simp) o q), ne⟩
  item := by
    intro X hP hw hK hc i pins s σ H E I hf st hg
    subst hP hw hK
    obtain ⟨⟨old, he⟩, hit, ne⟩ := st
    obtain ⟨xs, x, hq, hx⟩ := hg
    obtain ⟨its, rv, p, hz⟩ := I.tuple hq
    have pt : s.heap.IsTuple a its.toArray := p
    obtain ⟨u, hu, ru⟩ := rv.get hx
    have szE : e < s.heap.objs.size := Heap.lt_size he
    have szI : it < s.heap.objs.size := by
      obtain ⟨_, q, _⟩ := hit
      exact Heap.lt_size q
    have lt : i < its.toArray.size := by
      have z := (List.getElem?_eq_some_iff.mp hu).1
      simpa using z
    have D : Draws X.prog X.w X.A.in1 it [it, a] its.toArray.size (fun i v => its.toArray[i]? = some v) (fun i h => h.IsTupleIter it a i ∧ h.IsTuple a its.toArray) := Draws.tuple (show X.A.in1.handled = none from I.ok.hd hc) it a (tup_ne_iter pt hit) its.toArray
    refine wpAny_pyNext_enum_itemD D he ⟨hit, pt⟩ lt ne (by simp [ne, tup_ne_enum pt he]) ?_
    intro x' h' tk hx' ho st' hT hsz hk
    have ex : x' = u := by
      have z : its.toArray[i]? = some u := by simpa using hu
      rw [z] at hx'
      exact (Option.some.inj hx').symm
    subst ex
    refine ⟨_, rfl, wpAny_letOwnedTupleGo_enum (s := { s with heap := h', toks := tk + 1 }) ho ?_⟩
    intro h'' he' sb
    have hT2 : h''.get? s.heap.objs.size = some { cls := .type "tuple", data := .seq #[.int i tk, x'] } := (sb.2 _ (Nat.ne_of_gt szE)).trans hT
    have fresh : ObjOk X.prog X.w (upd H s.heap.objs.size (.tup [.int (i : Nat), x])) h'' s.heap.objs.size (.tup [.int (i : Nat), x]) :=
      ⟨(by show 2 ≤ sizeLine; decide), [.int i tk, x'], .cons ⟨_, rfl⟩ (.cons ru .nil), ⟨_, hT2, rfl, _, rfl⟩⟩
    have I1 : Inv X pins σ (upd H s.heap.objs.size (.tup [.int (i : Nat), x])) { s with heap := h'', toks := tk + 1 } := by
      refine I.turnedNew (ch := [e, it]) ?_ hf (Nat.le_refl _) fresh
      intro b ob hb q
      have n1 : b ≠ e := fun z => hb (by simp [z])
      have n2 : b ≠ it := fun z => hb (by simp [z])
      exact (sb.2 b n1).trans (hk b ob n1 n2 q)
    refine ⟨.ref s.heap.objs.size, _, I1, rfl, ⟨_, x, rfl, I.hok.fresh (Nat.le_refl _), rfl, ?_⟩, ⟨⟨x', ?_⟩, st'.1.at (fun o q => (sb.2 it (Ne.symm ne)).trans q), ne⟩, ?_⟩
    · intro ys hy
      rw [I.tuple_inj hy hq]
      exact hx
    · have e1 : ((i + 1 : Nat) : Int) = (i : Int) + 1 := by omega
      rw [e1]
      exact he'
    · intro b hb
      have two : b = e ∨ b = it := by simpa using hb
      have low : b < s.heap.objs.size := by
        rcases two with rfl | rfl
        · exact szE
        · exact szI
      rw [upd_ne (Nat.ne_of_lt low)]
      exact (hf b hb).1
  done := by
    intro X hP hw hK hc i pins s σ H E I hf st hg
    subst hP hw hK
    obtain ⟨⟨old, he⟩, hit, ne⟩ := st
    obtain ⟨xs, hq, hx⟩ := hg
    obtain ⟨its, rv, p, hz⟩ := I.tuple hq
    have pt : s.heap.IsTuple a its.toArray := p
    obtain ⟨f0, f1, f2, f3, f4, f5⟩ := hf it (by simp)
    have hl := rv.length
    have end_ : ∀ {Q : Option Value → Shared → Prop}, (∀ h', Heap.ExtBut it s.heap h' → Q none { s with heap := h' }) → wpAny (model X.prog X.w) X.A (pyNext (.ref e)) Q E s := by
      intro Q hQ
      unfold pyNext
      refine wpAny_bind (wpAny_attempt (wpAny_callSpecial?_slot (name := Str.ofString "__next__") ⟨_, he, rfl⟩ F.slot_enumerate_next (wpAny_call_entry F.slot_enumerate_next ⟨_, he, rfl⟩ F.entry_enumerate_next ?_ (F.args_enumerate_next_1 _))))
      show wpAny _ _ (field (.ref e) 2 >>= _) _ _ _
      refine wpAny_bind (wpAny_field he rfl (x := .ref it) rfl ?_)
      refine wpAny_bind (wpAny_nextOf_tuple_end (I.ok.hd hc) hit pt (by simp; omega) ?_)
      rintro h' x eb ⟨o, ho, hc'⟩
      refine wpAny_bind (wpAny_isInstance (T := "StopIteration") (b := true) ⟨o, ho, hc'⟩ isSubtype_stop ?_)
      exact wpAny_pure (hQ h' eb)
    exact end_ (fun h' eb => ⟨rfl, I.turned (t' := s.toks) (fun b o hb q => eb b o hb q) f0 f1 f3 f4 f5⟩)
  self := by
    rintro A i s Q E ⟨⟨_, he⟩, _⟩ h
    exact wpAny_pyIter_enum he h
theorem walk_enumT {K : PySem.W.Frag} {a : Addr} {xs : List V} : Walk (IteT K a) xs.length (fun H => SqT K H a xs) (YPair (fun i => some (.int (i : Nat))) (fun i => xs[i]?)) := by
  refine ⟨fun i _ hi q => ⟨xs, xs[i], q, by simp [hi]⟩, fun _ q => ⟨xs, q, Nat.le_refl _⟩, ?_⟩
  rintro i H v H' _ q ⟨T, x, h1, h2, h3, h4⟩
  exact ⟨T, .int (i : Nat), x, h1, h2, h3, rfl, h4 xs q⟩
theorem walk_zipT {K : PySem.W.Frag} {a b : Addr} {xs ys : List V} {n : Nat} (hn : n = min xs.length ys.length) : Walk (RZ.ItzT K a b) n (fun H => SqT K H a xs ∧ SqT K H b ys) (YPair (fun i => xs[i]?) (fun i => ys[i]?)) := by
  subst hn
  refine ⟨?_, fun _ q => ⟨xs, ys, q.1, q.2, by omega⟩, ?_⟩
  · intro i _ hi q
    have h1 : i < xs.length := by omega
    have h2 : i < ys.length := by omega
    exact ⟨xs, ys, xs[i], ys[i], q.1, q.2, by simp [h1], by simp [h2]⟩
  · rintro i H v H' _ q ⟨T, x, z, h1, h2, h3, h4, h5⟩
    exact ⟨T, x, z, h1, h2, h3, h4 xs q.1, h5 ys q.2⟩

/-! enumerate(t) is made -/
theorem meets_enumT (l : Addr) (items : Array Value) (n : Nat) (dct : Option Addr) (sl : Array (Option Value)) :
    Meets (Builtin.«enumerate.__new__» ⟨[.type "enumerate", .ref l], []⟩) (fun _ R s => s.heap.get? l = some { cls := .type "tuple", dict := dct, data := .seq items n, slots := sl } ∧
      R (.ok (.ret (.ref (s.heap.push { cls := .type "tuple_iterator", data := .fields #[.ref l, .int 0 0] }).objs.size)))
        { s with heap := (s.heap.push { cls := .type "tuple_iterator", data := .fields #[.ref l, .int 0 0] }).push { cls := .type "enumerate", data := .fields #[.none, .bool false, .ref s.heap.objs.size, rawInt 0, .none, .none] } }) :=
  .of_wp fun prog w A R s h => by
    obtain ⟨hp, g, d, tk, os⟩ := s
    obtain ⟨hl, h⟩ := h
    have hsub := sub_enumerate
    have tup : Heap.IsTuple (Shared.heap ⟨hp, g, d, tk, os⟩) l items := ⟨_, hl, rfl, n, rfl⟩
    wp_walk using AutoSeq1.wpAny_loadPart' hl
    refine wpAny_stack_any fun st => wpAny_pure ?_
    split
    · rename_i c _ _ _ _ _
      cases (c == Value.type "enumerate")
      · wp_walk using AutoSeq1.wpAny_loadPart' hl, wpAny_pyIter_tuple tup
        exact ⟨_, rfl, h⟩
      · wp_walk using AutoSeq1.wpAny_loadPart' hl, wpAny_pyIter_tuple tup
        exact ⟨_, rfl, h⟩
    · wp_walk using AutoSeq1.wpAny_loadPart' hl, wpAny_pyIter_tuple tup
      exact ⟨_, rfl, h⟩
theorem call_enumT {prog : Program} {w : World} {A : Around} {E : Value → Shared → Prop} {s : Shared} {l : Addr} {items : Array Value} {Q : Value → Shared → Prop} (hL : s.heap.IsTuple l items)
    (h : ∀ h', IsEnum h' (s.heap.objs.size + 1) s.heap.objs.size 0 .none → h'.IsTupleIter s.heap.objs.size l 0 → (∀ b o, s.heap.get? b = some o → h'.get? b = some o) → Q (.ref (s.heap.objs.size + 1)) { s with heap := h' }) :
    wpAny (model prog w) A (call (.type "enumerate") [.ref l]) Q E s := by
  obtain ⟨⟨c, dct, dt, sl⟩, hl, hc, n, hd⟩ := hL
  dsimp only at hc hd
  subst hc hd
  refine callType_new F.called_enumerate (by decide) (F.typeCall_enumerate_1 _) (F.newCall_enumerate_1 _) (fun obj => F.args_object_init_2 obj _) F.entry_enumerate_new (meets_enumT l items n dct sl) ⟨hl, ?_⟩
  have hz : (s.heap.push { cls := .type "tuple_iterator", data := .fields #[.ref l, .int 0 0] }).objs.size = s.heap.objs.size + 1 := Heap.size_push ..
  show _ ∧ _
  rw [hz]
  have he : IsEnum ((s.heap.push { cls := .type "tuple_iterator", data := .fields #[.ref l, .int 0 0] }).push { cls := .type "enumerate", data := .fields #[.none, .bool false, .ref s.heap.objs.size, rawInt 0, .none, .none] }) (s.heap.objs.size + 1) s.heap.objs.size 0 .none := by
    have q := Heap.get?_push_size (s.heap.push { cls := .type "tuple_iterator", data := .fields #[.ref l, .int 0 0] }) (o := { cls := .type "enumerate", data := .fields #[.none, .bool false, .ref s.heap.objs.size, rawInt 0, .none, .none] }) rfl
    rw [hz] at q
    exact q
  exact ⟨⟨_, he, rfl⟩, h _ he ⟨_, Heap.get?_push_of_some _ (Heap.get?_push_size _ rfl), rfl, rfl⟩ (fun b o x => Heap.get?_push_of_some _ (Heap.get?_push_of_some _ x))⟩
def iEnumT (K : PySem.W.Frag) (ta : TA) : TI := fun σ H R => ta σ H fun vs H1 => ∃ a xs, vs = [.ref a] ∧ SqT K H1 a xs ∧ R (IteT K a) H1
theorem pi_enumT {X : Cx} {e : Expr} {ta : TA} {p pos tpos : Pos} {elts : List Expr} {kk : Nat} (hg : Gl X "enumerate") (hm : X.mg "enumerate" = none) (ha : PA X [e] ta) (hs : starEach [e] X.env = [(false, eval e X.env)] := by rfl) :
    PI X (.Tuple elts kk tpos) (.Call (.Name "enumerate" p) [e] [] pos) (iEnumT X.K ta) := by
  constructor
  intro pins s σ H R I h
  refine Call_ (ld_blt I hg hm boot_enumerate (PyProof.Rows.callWith_type1 (thn (ha.run pos pins s σ H _ I h) ?_) hs rfl))
  rintro us s1 ⟨vs, H1, I1, r1, a, xs, rfl, hq, q⟩
  obtain ⟨u, rfl, ru⟩ := vals1 r1
  cases ru
  obtain ⟨its, rv, p', hz⟩ := I1.tuple hq
  refine call_enumT (show s1.heap.IsTuple a its.toArray from p') ?_
  intro h' he hit hk
  refine wpAny_pyIter_enum he ?_
  have I2 : Inv X pins σ H1 { s1 with heap := h' } := I1.kept (t' := s1.toks) hk
  refine ⟨s1.heap.objs.size + 1, [s1.heap.objs.size + 1, s1.heap.objs.size], _, _, H1, rfl, I2, turn_enumT a (s1.heap.objs.size + 1) s1.heap.objs.size, ⟨⟨.none, he⟩, hit, Nat.succ_ne_self _⟩, ?_, q⟩
  intro b hb
  have two : b = s1.heap.objs.size + 1 ∨ b = s1.heap.objs.size := by simpa using hb
  have hle : s1.heap.objs.size ≤ b := by
    rcases two with rfl | rfl
    · exact Nat.le_succ _
    · exact Nat.le_refl _
  exact I1.fpOk hle (I1.hok.fresh hle)
end Bb
set_option Elab.async false
set_option linter.all false
set_option maxRecDepth 100000
set_option maxHeartbeats 2000000
namespace Bb
open PySem PySem.Spec PyProof.Rows L2
/-! lists of ints as data -/
theorem dp_ints {K : PySem.W.Frag} {H : Hp} : ∀ ns : List Int, DpAll K H (ns.map V.int) (ns.map PyData.int)
  | [] => .nil
  | n :: ns => .cons (.int n) (dp_ints ns)
theorem eqv_ints : ∀ ns ms : List Int, PyData.eqvAll (ns.map PyData.int) (ms.map PyData.int) = decide (ns = ms)
  | [], [] => rfl
  | [], m :: ms => by simp [PyData.eqvAll]
  | n :: ns, [] => by simp [PyData.eqvAll]
  | n :: ns, m :: ms => by
    have ih := eqv_ints ns ms
    simp only [List.map_cons, PyData.eqvAll, PyData.eqv, ih]
    by_cases h : n = m
    · subst h
      simp
    · simp [h]
theorem lay_ints : ∀ ns : List Int, PyData.canLayAll0 (ns.map PyData.int) = true
  | [] => rfl
  | n :: ns => by
    have ih := lay_ints ns
    simp [PyData.canLayAll0, PyData.canLay0, ih]
theorem depth_ints : ∀ ns : List Int, PyData.depthAll (ns.map PyData.int) = 0
  | [] => rfl
  | n :: ns => by
    have ih := depth_ints ns
    simp [PyData.depthAll, PyData.depth, ih]
theorem shaped_list (ns : List Int) : SeqAt.shaped (.list (ns.map PyData.int)) = true := by
  unfold SeqAt.shaped
  simp [PyData.canLay0, lay_ints, PyData.depth, depth_ints]
theorem shaped_tup (ns : List Int) : SeqAt.shaped (.tuple (ns.map PyData.int)) = true := by
  unfold SeqAt.shaped
  simp [PyData.canLay0, lay_ints, PyData.depth, depth_ints]
theorem show_ints : ∀ ns : List Int, (∀ n ∈ ns, n.natAbs < 10 ^ 18) → PyData.showableAll (ns.map PyData.int) = true
  | [], _ => rfl
  | n :: ns, h => by
    have ih := show_ints ns fun x hx => h x (List.mem_cons_of_mem _ hx)
    have h1 := h n List.mem_cons_self
    have h2 : n.natAbs.log2 < 1920 := by
      by_cases z : n.natAbs = 0
      · rw [z]
        decide
      · exact (Nat.log2_lt z).mpr (Nat.lt_of_lt_of_le h1 (by decide +kernel))
    simp [PyData.showableAll, PyData.showable, ih, h2]
theorem textFrom_le : ∀ (ts : List Str) (k : Nat) (acc : Str), (textFrom k acc ts).length ≤ acc.length + piled ts
  | [], k, acc => Nat.le_add_right _ _
  | t :: r, k, acc => by
    have ih := textFrom_le r (k + 1) (acc ++ (if k > 0 then ", " else "" : String) ++ t)
    show (textFrom (k + 1) (acc ++ (if k > 0 then ", " else "" : String) ++ t) r).length ≤ _
    rw [strLen_append, strLen_append] at ih
    rw [piled_cons]
    have e : (((if k > 0 then ", " else "" : String) : Str)).length ≤ 2 := by
      split <;> decide +kernel
    omega
theorem listText_le (ts : List Str) : (listText ts).length ≤ piled ts + 2 := by
  unfold listText
  rw [strLen_append]
  have h := textFrom_le ts 0 "["
  have e1 : (("[" : String) : Str).length = 1 := by decide +kernel
  have e2 : (("]" : String) : Str).length = 1 := by decide +kernel
  rw [e1] at h
  rw [e2]
  omega
theorem int_shown {i : Int} (h : i.natAbs < 10 ^ 18) : (PyData.int i).shown.length ≤ 19 := by
  have e := int_text_length_le10 (k := 18) (by decide) h
  show (Str.ofString (toString i)).length ≤ 19
  rw [PySem.ofString_length]
  exact e
theorem piled_ints : ∀ ns : List Int, (∀ n ∈ ns, n.natAbs < 10 ^ 18) → piled (PyData.shownAll (ns.map PyData.int)) ≤ 21 * ns.length
  | [], _ => Nat.le_refl _
  | n :: ns, h => by
    have ih := piled_ints ns fun x hx => h x (List.mem_cons_of_mem _ hx)
    have h1 := int_shown (h n List.mem_cons_self)
    rw [List.map_cons]
    show piled ((PyData.int n).shown :: PyData.shownAll (ns.map PyData.int)) ≤ _
    rw [piled_cons, List.length_cons]
    omega
/-- what repr asks of a list of ints -/
theorem repr_ints {K : PySem.W.Frag} {H : Hp} {a : Addr} {ns : List Int} {Q : VK} (h : SqL K H a (ns.map V.int)) (hr : ∀ n ∈ ns, n.natAbs < 10 ^ 18) (hl : ns.length ≤ 1000) (q : Q (.str (PyData.list (ns.map PyData.int)).shown) H) : rRepr K [.ref a] H Q := by
  refine ⟨_, .list (ns.map PyData.int), rfl, .lst h (dp_ints ns), show_ints ns hr, ?_, ?_, q⟩
  · show PyData.depthAll (ns.map PyData.int) + 1 ≤ 60
    rw [depth_ints]
    decide
  · have h1 := listText_le (PyData.shownAll (ns.map PyData.int))
    have h2 := piled_ints ns hr
    show (listText (PyData.shownAll (ns.map PyData.int))).length ≤ sizeLine
    rw [sizeLine_eq]
    omega
theorem repr_txt {K : PySem.W.Frag} {H : Hp} {z : Str} {Q : VK} (hz : (reprText z).length ≤ sizeLine) (q : Q (.str (PyData.str z).shown) H) : rRepr K [.str z] H Q :=
  ⟨_, .str z, rfl, .str z, rfl, Nat.zero_le _, hz, q⟩
/-! t + u, t[lo:hi] of tuples: some tuple, new or not -/
def rCatB (K : PySem.W.Frag) : R2 := fun x y H Q => ∃ a b xs ys, x = .ref a ∧ y = .ref b ∧ SqT K H a xs ∧ SqT K H b ys ∧ xs.length + ys.length ≤ sizeLine ∧ ∀ p H', Same H H' → SqT K H' p (xs ++ ys) → Q (.ref p) H'
theorem op_catB {X : Cx} : OpR X (binaryOp .Add) (rCatB X.K) := by
  intro pins s σ H x y v u Q I rx ry h
  obtain ⟨a, b, xs, ys, rfl, rfl, ha, hb, hz, q⟩ := h
  refine op_catA pins s σ H _ _ v u Q I rx ry ⟨a, b, xs, ys, rfl, rfl, ha, hb, hz, ?_, ?_, ?_⟩
  · rintro rfl
    exact q b H (Same.refl H) hb
  · rintro _ rfl
    exact q a H (Same.refl H) (by rw [List.append_nil]; exact ha)
  · intro _ _ p hp
    refine q p _ (fun c o e => ?_) (SqT.of upd_same)
    rw [upd_ne (ne_of_none e hp)]
    exact e
end Bb
set_option Elab.async false
set_option linter.all false
set_option maxRecDepth 100000
set_option maxHeartbeats 2000000
namespace Bb
open PySem PySem.Spec PyProof.Rows L2
/-! things of any kind as data, dicts with int keys too; Z: the addresses that may change -/
mutual
inductive Da (Z : Addr → Prop) (H : Hp) : V → PyData → Prop
  | non : Da Z H .non .none
  | bl (b : Bool) : Da Z H (.bl b) (.bool b)
  | int (i : Int) : Da Z H (.int i) (.int i)
  | str (x : Str) : Da Z H (.str x) (.str x)
  | lst {a : Addr} {xs : List V} {ds : List PyData} : H a = some (.lst xs) → ¬ Z a → DaAll Z H xs ds → Da Z H (.ref a) (.list ds)
  | tup {a : Addr} {xs : List V} {ds : List PyData} : H a = some (.tup xs) → ¬ Z a → DaAll Z H xs ds → Da Z H (.ref a) (.tuple ds)
  | d0 {a : Addr} : H a = some (.dK []) → ¬ Z a → Da Z H (.ref a) (.dict [])
  | d1 {a : Addr} {i j : Int} : H a = some (.dK [(Sum.inl i, .int j)]) → ¬ Z a → Da Z H (.ref a) (.dict [(.int i, .int j)])
inductive DaAll (Z : Addr → Prop) (H : Hp) : List V → List PyData → Prop
  | nil : DaAll Z H [] []
  | cons {v : V} {vs : List V} {d : PyData} {ds : List PyData} : Da Z H v d → DaAll Z H vs ds → DaAll Z H (v :: vs) (d :: ds)
end
/-- all stays but what Z names -/
def Keeps (Z : Addr → Prop) (H H' : Hp) : Prop := ∀ b o, H b = some o → (∀ xs, o ≠ .tbl xs) → ¬ Z b → H' b = some o
theorem Keeps.refl {Z : Addr → Prop} {H : Hp} : Keeps Z H H := fun _ _ e _ _ => e
theorem Keeps.trans {Z : Addr → Prop} {H H1 H2 : Hp} (a : Keeps Z H H1) (b : Keeps Z H1 H2) : Keeps Z H H2 := fun c o e t n => b c o (a c o e t n) t n
theorem Keeps.of {Z : Addr → Prop} {H H' : Hp} (s : Same H H') : Keeps Z H H' := fun b o e _ _ => s b o e
theorem Keeps.ext {Z : Addr → Prop} {H H' : Hp} (x : LamX.ExtN H H') : Keeps Z H H' := fun b o e n _ => x b o e n
section
variable {Z Z' : Addr → Prop} {H H' : Hp}
mutual
theorem Da.keep (k : Keeps Z H H') : ∀ (d : PyData) (v : V), Da Z H v d → Da Z H' v d
  | .none, _, h => by
    cases h
    exact .non
  | .bool b, _, h => by
    cases h
    exact .bl b
  | .int i, _, h => by
    cases h
    exact .int i
  | .str x, _, h => by
    cases h
    exact .str x
  | .list ds, _, h => by
    cases h with
    | lst e n a => exact .lst (k _ _ e (fun _ z => by cases z) n) n (DaAll.keep k ds _ a)
  | .tuple ds, _, h => by
    cases h with
    | tup e n a => exact .tup (k _ _ e (fun _ z => by cases z) n) n (DaAll.keep k ds _ a)
  | .dict _, _, h => by
    cases h with
    | d0 e n => exact .d0 (k _ _ e (fun _ z => by cases z) n) n
    | d1 e n => exact .d1 (k _ _ e (fun _ z => by cases z) n) n
theorem DaAll.keep (k : Keeps Z H H') : ∀ (ds : List PyData) (vs : List V), DaAll Z H vs ds → DaAll Z H' vs ds
  | [], _, h => by
    cases h
    exact .nil
  | d :: ds, _, h => by
    cases h with
    | cons a b => exact .cons (Da.keep k d _ a) (DaAll.keep k ds _ b)
end
mutual
/-- other addresses that may change: none of the data's -/
theorem Da.zed (n : ∀ b o, H b = some o → ¬ Z b → ¬ Z' b) : ∀ (d : PyData) (v : V), Da Z H v d → Da Z' H v d
  | .none, _, h => by
    cases h
    exact .non
  | .bool b, _, h => by
    cases h
    exact .bl b
  | .int i, _, h => by
    cases h
    exact .int i
  | .str x, _, h => by
    cases h
    exact .str x
  | .list ds, _, h => by
    cases h with
    | lst e z a => exact .lst e (n _ _ e z) (DaAll.zed n ds _ a)
  | .tuple ds, _, h => by
    cases h with
    | tup e z a => exact .tup e (n _ _ e z) (DaAll.zed n ds _ a)
  | .dict _, _, h => by
    cases h with
    | d0 e z => exact .d0 e (n _ _ e z)
    | d1 e z => exact .d1 e (n _ _ e z)
theorem DaAll.zed (n : ∀ b o, H b = some o → ¬ Z b → ¬ Z' b) : ∀ (ds : List PyData) (vs : List V), DaAll Z H vs ds → DaAll Z' H vs ds
  | [], _, h => by
    cases h
    exact .nil
  | d :: ds, _, h => by
    cases h with
    | cons a b => exact .cons (Da.zed n d _ a) (DaAll.zed n ds _ b)
end
theorem DaAll.len : ∀ {ds : List PyData} {vs : List V}, DaAll Z H vs ds → vs.length = ds.length
  | [], _, h => by
    cases h
    rfl
  | d :: ds, _, h => by
    cases h with
    | cons a b =>
      rw [List.length_cons, List.length_cons, b.len]
theorem DaAll.get : ∀ {ds : List PyData} {vs : List V}, DaAll Z H vs ds → ∀ {i : Nat} {v : V}, vs[i]? = some v → ∃ d, ds[i]? = some d ∧ Da Z H v d
  | [], _, h, i, v, e => by
    cases h
    simp at e
  | d :: ds, _, h, i, v, e => by
    cases h with
    | cons a b =>
      cases i with
      | zero =>
        have e' := Option.some.inj e
        subst e'
        exact ⟨d, rfl, a⟩
      | succ i =>
        obtain ⟨d', h1, h2⟩ := b.get (i := i) (v := v) (by simpa using e)
        exact ⟨d', by simpa using h1, h2⟩
theorem DaAll.app : ∀ {ds es : List PyData} {vs us : List V}, DaAll Z H vs ds → DaAll Z H us es → DaAll Z H (vs ++ us) (ds ++ es)
  | [], _, _, _, h, g => by
    cases h
    exact g
  | d :: ds, _, _, _, h, g => by
    cases h with
    | cons a b => exact .cons a (b.app g)
theorem DaAll.take : ∀ {ds : List PyData} {vs : List V}, DaAll Z H vs ds → ∀ n : Nat, DaAll Z H (vs.take n) (ds.take n)
  | [], _, h, n => by
    cases h
    simp
    exact .nil
  | d :: ds, _, h, n => by
    cases h with
    | cons a b =>
      cases n with
      | zero => exact .nil
      | succ n => exact .cons a (b.take n)
theorem DaAll.drop : ∀ {ds : List PyData} {vs : List V}, DaAll Z H vs ds → ∀ n : Nat, DaAll Z H (vs.drop n) (ds.drop n)
  | [], _, h, n => by
    cases h
    simp
    exact .nil
  | d :: ds, _, h, n => by
    cases h with
    | cons a b =>
      cases n with
      | zero => exact .cons a b
      | succ n => exact b.drop n
theorem DaAll.ints : ∀ ns : List Int, DaAll Z H (ns.map V.int) (ns.map PyData.int)
  | [] => .nil
  | n :: ns => .cons (.int n) (DaAll.ints ns)
end
/-! no list within -/
mutual
def noList : PyData → Bool
  | .list _ => false
  | .tuple ds => noLists ds
  | _ => true
def noLists : List PyData → Bool
  | [] => true
  | d :: ds => noList d && noLists ds
end
section
variable {Z : Addr → Prop} {X : Cx} {pins : List (Addr × Obj)} {σ : L2.St} {H : Hp} {s : Shared}
theorem dict_reads {a : Addr} {kvs : List (Int × Int)} (I : Inv X pins σ H s) (h : H a = some (.dK (kvs.map fun p => (Sum.inl p.1, V.int p.2)))) : ∃ as, Reads s.heap (.ref a) (.dict (kvs.map fun p => (PyData.int p.1, PyData.int p.2))) (a :: as) ∧ as = [] ∧ (a == sysModules) = false := by
  obtain ⟨_, hs, vs, kv, o, es, ep, ho, ex, hd, _, pr, _⟩ := dk_of I.hok h
  have key : ∀ (kvs : List (Int × Int)) (vs : List (Key × Value)) (es : List DictEntry), KV (kvs.map fun p => ((Sum.inl p.1 : Key), V.int p.2)) vs → Pairs (mixKind X.prog X.w) es vs →
      ReadsAll s.heap (es.map (·.key)) ((kvs.map fun p => (PyData.int p.1, PyData.int p.2)).map (·.1)) [] ∧ ReadsAll s.heap (es.map (·.val)) ((kvs.map fun p => (PyData.int p.1, PyData.int p.2)).map (·.2)) [] := by
    intro kvs
    induction kvs with
    | nil =>
      intro vs es h1 h2
      cases h1
      cases h2
      exact ⟨.nil, .nil⟩
    | cons p kvs ih =>
      intro vs es h1 h2
      cases h1 with
      | cons e r =>
        cases h2 with
        | cons k v t =>
          obtain ⟨i1, i2⟩ := ih _ _ r t
          obtain ⟨e1, tk, e2⟩ := e
          dsimp only at e1 e2
          rw [← e1] at k
          have k' : keyIs (Sum.inl p.1) _ = true := k
          rcases keyIs_shape k' with ⟨i, t', q1, q2⟩ | ⟨x, t', q1, q2⟩
          · injection q1 with q1
            subst q1
            refine ⟨?_, ?_⟩
            · rw [List.map_cons, q2]
              exact ReadsAll.cons (as := []) (Reads.int _ _) i1
            · rw [List.map_cons, v, e2]
              exact ReadsAll.cons (as := []) (Reads.int _ _) i2
          · cases q1
  obtain ⟨r1, r2⟩ := key kvs vs es.toList kv pr
  exact ⟨[], Reads.dict ho ex.1 hd r1 r2, rfl, hs⟩
mutual
theorem Da.reads (I : Inv X pins σ H s) : ∀ (d : PyData) (v : V) (u : Value), Da Z H v d → RelV v u → ∃ as, Reads s.heap u d as ∧ (noList d = true → ∀ b ∈ as, (b == sysModules) = false)
  | .none, _, _, h, r => by
    cases h
    cases r
    exact ⟨_, Reads.none, fun _ b hb => by cases hb⟩
  | .bool b, _, _, h, r => by
    cases h
    cases r
    exact ⟨_, Reads.bool b, fun _ b hb => by cases hb⟩
  | .int i, _, _, h, r => by
    cases h
    obtain ⟨t, rfl⟩ := r
    exact ⟨_, Reads.int i t, fun _ b hb => by cases hb⟩
  | .str x, _, _, h, r => by
    cases h
    obtain ⟨t, rfl⟩ := r
    exact ⟨_, Reads.str x t, fun _ b hb => by cases hb⟩
  | .list ds, _, _, h, r => by
    cases h with
    | lst hs _ ha =>
      cases r
      obtain ⟨its, rv, ⟨o, n, ho, hc, _, hd⟩, _⟩ := I.list (SqL.of hs)
      obtain ⟨as, hr, _⟩ := DaAll.reads I ds _ its ha rv
      exact ⟨_, Reads.list ho hc hd hr, fun z => by
        unfold noList at z
        cases z⟩
  | .tuple ds, _, _, h, r => by
    cases h with
    | tup hs _ ha =>
      cases r
      obtain ⟨its, rv, ⟨o, ho, hc, n, hd⟩, _⟩ := I.tuple (SqT.of hs)
      obtain ⟨as, hr, q⟩ := DaAll.reads I ds _ its ha rv
      exact ⟨_, Reads.tuple ho hc hd hr, fun z => q (by unfold noList at z; exact z)⟩
  | .dict _, _, _, h, r => by
    cases h with
    | d0 e _ =>
      cases r
      obtain ⟨as, h1, h2, h3⟩ := dict_reads (kvs := []) I e
      subst h2
      exact ⟨_, h1, fun _ b hb => by
        rw [List.mem_singleton.mp hb]
        exact h3⟩
    | @d1 _ i j e _ =>
      cases r
      obtain ⟨as, h1, h2, h3⟩ := dict_reads (kvs := [(i, j)]) I e
      subst h2
      exact ⟨_, h1, fun _ b hb => by
        rw [List.mem_singleton.mp hb]
        exact h3⟩
theorem DaAll.reads (I : Inv X pins σ H s) : ∀ (ds : List PyData) (vs : List V) (us : List Value), DaAll Z H vs ds → Vals vs us → ∃ as, ReadsAll s.heap us ds as ∧ (noLists ds = true → ∀ b ∈ as, (b == sysModules) = false)
  | [], _, _, h, r => by
    cases h
    cases r
    exact ⟨_, ReadsAll.nil, fun _ b hb => by cases hb⟩
  | d :: ds, _, _, h, r => by
    cases h with
    | cons h1 h2 =>
      cases r with
      | cons r1 r2 =>
        obtain ⟨as, q1, n1⟩ := Da.reads I d _ _ h1 r1
        obtain ⟨bs, q2, n2⟩ := DaAll.reads I ds _ _ h2 r2
        refine ⟨_, ReadsAll.cons q1 q2, fun z b hb => ?_⟩
        unfold noLists at z
        rw [Bool.and_eq_true] at z
        rcases List.mem_append.mp hb with m | m
        · exact n1 z.1 b m
        · exact n2 z.2 b m
end
end
mutual
theorem Da.dp {K : PySem.W.Frag} {Z : Addr → Prop} {H : Hp} : ∀ (d : PyData) (v : V), Da Z H v d → d.hasDict = false → Dp K H v d
  | .none, _, h, _ => by
    cases h
    exact .non
  | .bool b, _, h, _ => by
    cases h
    exact .bl b
  | .int i, _, h, _ => by
    cases h
    exact .int i
  | .str x, _, h, _ => by
    cases h
    exact .str x
  | .list ds, _, h, n => by
    cases h with
    | lst e _ a =>
      unfold PyData.hasDict at n
      exact .lst (SqL.of e) (DaAll.dp ds _ a n)
  | .tuple ds, _, h, n => by
    cases h with
    | tup e _ a =>
      unfold PyData.hasDict at n
      exact .tup (SqT.of e) (DaAll.dp ds _ a n)
  | .dict _, _, _, n => by
    unfold PyData.hasDict at n
    cases n
theorem DaAll.dp {K : PySem.W.Frag} {Z : Addr → Prop} {H : Hp} : ∀ (ds : List PyData) (vs : List V), DaAll Z H vs ds → PyData.hasDictAll ds = false → DpAll K H vs ds
  | [], _, h, _ => by
    cases h
    exact .nil
  | d :: ds, _, h, n => by
    cases h with
    | cons a b =>
      unfold PyData.hasDictAll at n
      rw [Bool.or_eq_false_iff] at n
      exact .cons (Da.dp d _ a n.1) (DaAll.dp ds _ b n.2)
end
/-! repr of any such thing, where no repr is under way -/
def rReprA : List V → Hp → VK → Prop := fun xs H Q => ∃ (Z : Addr → Prop) (x : V) (d : PyData), xs = [x] ∧ Da Z H x d ∧ (d.hasDict = true → noList d = true) ∧ d.showable = true ∧ d.depth ≤ 60 ∧ d.shown.length ≤ sizeLine ∧ Q (.str d.shown) H
theorem call_reprA {X : Cx} (hg : X.A.guards = some []) (hu : X.A.units + 64 < cLine) : CallR X (.builtin "repr") rReprA := by
  intro pins s σ H xs us Q I r h
  obtain ⟨Z, x, d, rfl, hd, hn, hs, hde, hz, q⟩ := h
  obtain ⟨u, rfl, ru⟩ := vals1 r
  obtain ⟨as, rd, no⟩ := Da.reads I d x u hd ru
  have hsm : d.hasDict = true → sysModules ∉ as := fun z m => by
    have q := no (hn z) _ m
    simp at q
  cases hd with
  | non =>
    cases ru
    exact PySem.P.repr_of_none ⟨.str _, H, I.tok _, ⟨_, rfl⟩, q⟩
  | bl b =>
    cases ru
    exact PySem.P.repr_of_bool ⟨.str _, H, I.tok _, ⟨_, rfl⟩, q⟩
  | int i =>
    obtain ⟨t, rfl⟩ := ru
    exact PySem.P.repr_of_int (of_decide_eq_true hs) ⟨.str _, H, I.tok _, ⟨_, rfl⟩, q⟩
  | str z =>
    obtain ⟨t, rfl⟩ := ru
    exact PySem.P.repr_of_str ⟨.str _, H, I.tok _, ⟨_, rfl⟩, q⟩ hz
  | lst h1 _ h2 =>
    cases ru
    exact repr_of_reads' rd hs hsm hg (by omega) (fun _ _ e => e) (fun h' u' tk k => ⟨.str _, H, I.kept k, ⟨_, rfl⟩, q⟩) hz
  | tup h1 _ h2 =>
    cases ru
    exact repr_of_reads' rd hs hsm hg (by omega) (fun _ _ e => e) (fun h' u' tk k => ⟨.str _, H, I.kept k, ⟨_, rfl⟩, q⟩) hz
  | d0 h1 _ =>
    cases ru
    exact repr_of_reads' rd hs hsm hg (by omega) (fun _ _ e => e) (fun h' u' tk k => ⟨.str _, H, I.kept k, ⟨_, rfl⟩, q⟩) hz
  | d1 h1 _ =>
    cases ru
    exact repr_of_reads' rd hs hsm hg (by omega) (fun _ _ e => e) (fun h' u' tk k => ⟨.str _, H, I.kept k, ⟨_, rfl⟩, q⟩) hz
end Bb
set_option Elab.async false
set_option linter.all false
set_option maxRecDepth 100000
set_option maxHeartbeats 2000000
namespace Bb
open PySem PySem.Spec PyProof.Rows L2
open Builtin
/-! {x!r} of any such thing -/
section
variable {X : Cx}
def tFmtA (te : TE) : TE := fun σ H Q => te σ H fun x H1 => ∃ (Z : Addr → Prop) (d : PyData), Da Z H1 x d ∧ (d.hasDict = true → noList d = true) ∧ d.showable = true ∧ d.depth ≤ 60 ∧ d.shown.length ≤ sizeLine ∧ Q (.str d.shown) H1
theorem pe_fmtA {e : Expr} {te : TE} {pos : Pos} (hg : X.A.guards = some []) (hu : X.A.units + 64 < cLine) (he : PE X e te) : PE X (.FormattedValue e 114 none pos) (tFmtA te) := by
  refine ⟨fun pins s σ H Q I h => ?_⟩
  refine wpAny_FormattedValue_repr (thn (he.run pins s σ H _ I h) fun v s1 hv => ?_)
  obtain ⟨x, H1, I1, r1, Z, d, hd, hn, hs, hde, hz, q⟩ := hv
  obtain ⟨as, rd, no⟩ := Da.reads I1 d x v hd r1
  have hsm : d.hasDict = true → sysModules ∉ as := fun z m => by
    have q := no (hn z) _ m
    simp at q
  have fin : ∀ {s2 : Shared} {u : Tok}, Inv X pins σ H1 s2 → Inv X pins σ H1 { s2 with toks := s2.toks + 1 } → wpAny (model X.prog X.w) X.A (formatField (.str d.shown u) Str.empty) (EP X pins σ Q) X.xe s2 := fun {s2 u} I2 I3 =>
    wpAny_formatField_str ⟨.str d.shown, H1, I2, ⟨_, rfl⟩, q⟩ ⟨.str d.shown, H1, I3, ⟨_, rfl⟩, q⟩ hz
  cases hd with
  | non =>
    cases r1
    exact pyReprObj_none (fin (I1.tok _) (I1.tok _))
  | bl b =>
    cases r1
    exact pyReprObj_bool (fin (I1.tok _) (I1.tok _))
  | int i =>
    obtain ⟨t, rfl⟩ := r1
    exact pyReprObj_int (of_decide_eq_true hs) (fin (I1.tok _) (I1.tok _))
  | str z =>
    obtain ⟨t, rfl⟩ := r1
    exact pyReprObj_str (fin (I1.tok _) (I1.tok _)) hz
  | lst h1 _ h2 =>
    cases r1
    exact pyReprObj_of_reads rd hs hsm hg (by omega) (fun _ _ e => e) (fun h' u tk k => fin (I1.kept k) ((I1.kept (t' := tk) k).tok _)) hz
  | tup h1 _ h2 =>
    cases r1
    exact pyReprObj_of_reads rd hs hsm hg (by omega) (fun _ _ e => e) (fun h' u tk k => fin (I1.kept k) ((I1.kept (t' := tk) k).tok _)) hz
  | d0 h1 _ =>
    cases r1
    exact pyReprObj_of_reads rd hs hsm hg (by omega) (fun _ _ e => e) (fun h' u tk k => fin (I1.kept k) ((I1.kept (t' := tk) k).tok _)) hz
  | d1 h1 _ =>
    cases r1
    exact pyReprObj_of_reads rd hs hsm hg (by omega) (fun _ _ e => e) (fun h' u tk k => fin (I1.kept k) ((I1.kept (t' := tk) k).tok _)) hz
/-! a context in which no repr is under way, one level within -/
theorem in1_guards {A : Around} (h : A.guards = some []) : A.in1.guards = some [] := h
/-! repr of an own instance, by its own __repr__ -/
theorem call_reprOwn {CX : CXT} {C f : Addr} {fd : FuncData} {ps : List Str} {sp : Sp} {k : Nat} {E : XK} (F : FnG X.prog X.w X.K X.mg X.base CX k f fd ps sp) (gd : X.A.guards = some []) (hr : Room (k + 1) X.A) (hs : PySem.W.findIn X.K (.ref C) "__repr__" = some (some (.ref f))) (hf : PySem.W.isFn X.K (.ref f) = true)
    (hb : Binds X.K fd ps []) (hx : Passes CX X E) :
    CallR X (.builtin "repr") (fun xs H Q => ∃ a dx fs, xs = [.ref a] ∧ H a = some (.ins C dx fs) ∧ sp [.ref a] H (fun v H' => ∃ z : Str, v = .str z ∧ Q (.str z) H') E) := by
  intro pins s σ H xs us Q I r h
  obtain ⟨a, dx, fs, rfl, ha, hsp⟩ := h
  obtain ⟨u, rfl, ru⟩ := vals1 r
  cases ru
  obtain ⟨mA, J, _⟩ := ins_get I.hok ha
  obtain ⟨od, J, _⟩ := J.look
  have un := hr.units
  refine Calls.call_function_entry PySem.F.kind_repr PySem.F.plain_repr PySem.F.entry_repr (PySem.F.args_repr1 _) ?_
  unfold Builtin.«repr»
  refine wpAny_bind (m := oneArg "repr" _) (wpAny_pure ?_)
  refine wpAny_bind (m := cRoomFor _ _) (wpAny_cRoomFor (by show X.A.units + 1 < cLine; omega) ?_)
  refine wpAny_bind (wpAny_bind (J.type.here ((PySem.W.looks_findIn I.kIn hs).here ?_)))
  refine wpAny_bind (m := callSpecialIfBound? (.ref a) (Str.ofString "__repr__")) (PySem.W.ifBound_K (args := []) I.kIn J hs hf ?_)
  have hl := F.args _ _ _ _ hsp
  have bnd := hb s [.ref a] I.kIn (by simpa using hl)
  rw [List.append_nil] at bnd
  refine wpAny_call (codeAny_mono (F.go X.A.in1 X.stack s H ⟨[.ref a], []⟩ [.ref a] [.ref a] _ E (in1_guards gd) hr.in1 I.env0.in1 bnd (.cons rfl .nil) hsp) ?_)
  rintro (er | fl) s' hq
  · exact hx pins σ H s er s' I hq
  · cases fl with
    | ret w' =>
      obtain ⟨z, H', I', rz, n, rfl, q⟩ := I.after hq
      obtain ⟨t, rfl⟩ := rz
      refine wpAny_bind (wpAny_isInstance (T := "str") (b := true) rfl isSubtype_str_str ?_)
      exact wpAny_pure ⟨_, rfl, .str n, H', I', ⟨_, rfl⟩, q⟩
    | next => exact hq.elim
    | brk => exact hq.elim
    | cont => exact hq.elim
end
end Bb
set_option Elab.async false
set_option linter.all false
set_option maxRecDepth 100000
set_option maxHeartbeats 2000000
namespace Bb
open PySem PySem.Spec PyProof.Rows L2
open Builtin
/-! ==, != of an own instance and any such thing -/
def tyNames : List String := ["NoneType", "bool", "int", "str", "list", "tuple", "dict"]
theorem da_looks {M : Model} {X : Cx} {pins : List (Addr × Obj)} {σ : L2.St} {H : Hp} {s : Shared} {Z : Addr → Prop} {x : V} {d : PyData} {u : Value} (I : Inv X pins σ H s) (h : Da Z H x d) (r : RelV x u) : ∃ n, PySem.W.Looks M s.heap (typeOf u) (.type n) ∧ n ∈ tyNames := by
  have ref : ∀ {a : Addr} {o : Obj} {n : String}, s.heap.get? a = some o → o.cls = .type n → PySem.W.Looks M s.heap (typeOf (.ref a)) (.type n) := fun {a o n} e c A Q E s' k q => wpAny_typeOf (v := .ref a) ⟨o, k _ _ e, c⟩ q
  cases h with
  | non =>
    cases r
    exact ⟨_, PySem.W.Looks.of_pure rfl, by decide⟩
  | bl b =>
    cases r
    exact ⟨_, PySem.W.Looks.of_pure rfl, by decide⟩
  | int i =>
    obtain ⟨t, rfl⟩ := r
    exact ⟨_, PySem.W.Looks.of_pure rfl, by decide⟩
  | str z =>
    obtain ⟨t, rfl⟩ := r
    exact ⟨_, PySem.W.Looks.of_pure rfl, by decide⟩
  | lst e _ _ =>
    cases r
    obtain ⟨its, rv, ⟨o, n, ho, hc, _, hd⟩, _⟩ := I.list (SqL.of e)
    exact ⟨_, ref ho hc, by decide⟩
  | tup e _ _ =>
    cases r
    obtain ⟨its, rv, ⟨o, ho, hc, n, hd⟩, _⟩ := I.tuple (SqT.of e)
    exact ⟨_, ref ho hc, by decide⟩
  | d0 e _ =>
    cases r
    obtain ⟨_, hs, vs, kv, o, es, ep, ho, ex, _⟩ := dk_of I.hok e
    exact ⟨_, ref ho ex.1, by decide⟩
  | d1 e _ =>
    cases r
    obtain ⟨_, hs, vs, kv, o, es, ep, ho, ex, _⟩ := dk_of I.hok e
    exact ⟨_, ref ho ex.1, by decide⟩
/-- a value of a built-in type: data, or a list of anything -/
def Bt (H : Hp) (v : V) : Prop := (∃ (Z : Addr → Prop) (d : PyData), Da Z H v d) ∨ ∃ (a : Addr) (xs : List V), v = .ref a ∧ H a = some (.lst xs)
theorem bt_looks {M : Model} {X : Cx} {pins : List (Addr × Obj)} {σ : L2.St} {H : Hp} {s : Shared} {x : V} {u : Value} (I : Inv X pins σ H s) (h : Bt H x) (r : RelV x u) : ∃ n, PySem.W.Looks M s.heap (typeOf u) (.type n) ∧ n ∈ tyNames := by
  rcases h with ⟨Z, d, h⟩ | ⟨a, xs, rfl, e⟩
  · exact da_looks I h r
  · cases r
    obtain ⟨its, rv, ⟨o, n, ho, hc, _, hd⟩, _⟩ := I.list (SqL.of e)
    exact ⟨_, fun A Q E s' k q => wpAny_typeOf (v := .ref a) ⟨o, k _ _ ho, hc⟩ q, by decide⟩
theorem not_sub {K : PySem.W.Frag} {C : Addr} {n : String} (h : n ∈ tyNames) : PySem.W.subIn K (.type n) (.ref C) = some false := by
  simp only [tyNames, List.mem_cons, List.not_mem_nil, or_false] at h
  rcases h with rfl | rfl | rfl | rfl | rfl | rfl | rfl <;> rfl
theorem not_first {K : PySem.W.Frag} {C : Addr} {n : String} (h : n ∈ tyNames) : PySem.W.notFirst K C (.type n) = true := by
  unfold PySem.W.notFirst
  rw [not_sub h]
  simp
section
variable {X : Cx} {CX : CXT} {C f : Addr} {fd : FuncData} {ps : List Str} {sp : Sp} {k : Nat} {E : XK}
theorem op_eqOwnX (F : FnOk X.prog X.w X.K X.mg X.base CX k f fd ps sp) (hr : Room k X.A) (he : PySem.W.findIn X.K (.ref C) "__eq__" = some (some (.ref f))) (hf : PySem.W.isFn X.K (.ref f) = true)
    (hb : Binds X.K fd ps []) (hx : Passes CX X E) :
    OpR X (compareOp .Eq) (fun x y H Q => ∃ (a dx : Addr) (fs : List (Str × V)), x = .ref a ∧ H a = some (.ins C dx fs) ∧ Bt H y ∧ sp [.ref a, y] H (fun v H' => ∃ t, v = .bl t ∧ Q (.bl t) H') E) := by
  intro pins s σ H x y v u Q I rx ry h
  obtain ⟨a, dx, fs, rfl, ha, hd, hsp⟩ := h
  cases rx
  obtain ⟨mA, J, _⟩ := ins_get I.hok ha
  obtain ⟨od, J, _⟩ := J.look
  obtain ⟨n, lk, hn⟩ := bt_looks (M := model X.prog X.w) I hd ry
  obtain ⟨m, hF⟩ := I.fr
  show wpAny (model X.prog X.w) X.A (richCompare .Eq (.ref a) u) _ _ _
  refine PySem.W.cmp_K (op := .Eq) (tb := .type n) hr.units0 hF I.ok.mod.kin J lk (not_first hn) he hf ?_
  have hl := F.len _ _ _ _ hsp
  have bnd := hb s [.ref a, u] I.kIn (by simpa using hl)
  rw [List.append_nil] at bnd
  refine wpAny_call (codeAny_mono (F.run X.A X.stack s H ⟨[.ref a, u], []⟩ [.ref a, u] [.ref a, y] _ E hr I.env0 bnd (.cons rfl (.cons ry .nil)) hsp) ?_)
  rintro (er | fl) s' hq
  · exact hx pins σ H s er s' I hq
  · cases fl with
    | ret w' =>
      obtain ⟨z, H', I', rz, t, rfl, q⟩ := I.after hq
      cases rz
      exact ⟨.bl t, H', I', rfl, q⟩
    | next => exact hq.elim
    | brk => exact hq.elim
    | cont => exact hq.elim
end
namespace Ne
open PySem.W PySem.Calls
section
variable {prog : Program} {w : World} {A : Around} {E : Value → Shared → Prop} {s : Shared} {K : Frag} {x C f : Addr} {ox : Obj} {od : Option Obj}
theorem obj_neX {v : Value} {tb : Value} {Q : Value → Shared → Prop} (X : K.In s.heap) (I : InstAt s.heap x ox C od) (J : Looks (model prog w) s.heap (typeOf v) tb) (htb : tb ≠ .ref C) (hn1 : subIn K tb (.ref C) = some false) (hu : A.units + 1 < cLine) (he : findIn K (.ref C) "__eq__" = some (some (.ref f))) (hf : isFn K (.ref f) = true)
    (hn : findIn K (.ref C) "__ne__" = some (some (.builtin "object.__ne__"))) (hsub : subIn K (.ref C) (.type "object") = some true)
    (h : wpAny (model prog w) A.in1 (call (.ref f) [.ref x, v]) (fun r s' => ∃ b, r = .bool b ∧ Q (.bool (!b)) s') E s) : wpAny (model prog w) A (compareOp .NotEq (.ref x) v) Q E s := by
  obtain ⟨hp, g, d, tk, os⟩ := s
  have isO : Looks (model prog w) hp (isInstance (.ref x) (.type "object")) true := I.type.andThen (looks_subIn X hsub)
  -- object.__ne__(x, y)
  have slot : wpAny (model prog w) A (call (.builtin "object.__ne__") [.ref x, v]) (fun r s' => ∃ b, r = .bool b ∧ Q (.bool b) s') E ⟨hp, g, d, tk, os⟩ := by
    refine wpAny_call (codeAny_call_builtin (by decide +kernel) F.cmpEntry_ne ?_)
    refine @check_slot (model prog w) _ _ ⟨hp, g, d, tk, os⟩ "object.__ne__" "object" "__ne__" (.ref x) [v] [] _ F.cmpKind_ne F.cmpSplit_ne isO (F.cmpArgs_ne _ _) ?_
    unfold Builtin.«object.__ne__»
    have eqc : ∀ {R : Option Value → Shared → Prop} {E' : Value → Shared → Prop}, wpAny (model prog w) A.in1 (call (.ref f) [.ref x, v]) (fun v => R (some v)) E' ⟨hp, g, d, tk, os⟩ →
        wpAny (model prog w) A.in1 (callSpecialIfBound? (.ref x) (Str.ofString "__eq__") [v]) R E' ⟨hp, g, d, tk, os⟩ := fun z => ifBound_K X I he hf z
    have rest : ∀ (r0 : Value) (s' : Shared), (∃ b, r0 = .bool b ∧ Q (.bool (!b)) s') → wpAny (model prog w) A.in1 (match some r0 with | some Value.notImplemented => ret .notImplemented | none => ret .notImplemented | some r => do ret (.bool (!(← truthy r))))
        (fun fin s' => match fin with
          | .done f => wants (fun v s' => ∃ b, v = Value.bool b ∧ Q (Value.bool b) s') E (.ok f) s'
          | .again c' => c'.quiet = true ∧ codeAny (model prog w) A c' (wants (fun v s' => ∃ b, v = Value.bool b ∧ Q (Value.bool b) s') E) s') (fun e s' => wants (fun v s' => ∃ b, v = Value.bool b ∧ Q (Value.bool b) s') E (.error e) s') s' := by
      rintro v s' ⟨b, rfl, hq⟩
      refine wpAny_bind (wpAny_truthy_bool (wpAny_pure ?_))
      exact ⟨!b, rfl, hq⟩
    repeat (first
      | with_reducible refine wpAny_cRoomFor hu ?_
      | exact wpAny_bind (m := callSpecialIfBound? (.ref x) (Str.ofString "__eq__") [v]) (eqc (wpAny_mono h (fun v s' hv => rest v s' hv) fun _ _ e => e))
      | wp_step)
  have bs : bindSpecial (.builtin "object.__ne__") (.ref x) = pure (.builtin "object.__ne__", [.ref x]) := by
    unfold bindSpecial
    rw [wrap_ty]
    rfl
  have two : wpAny (model prog w) A (callSpecialIfBound? (.ref x) (Str.ofString "__ne__") [v]) (fun r s' => ∃ b, r = some (Value.bool b) ∧ Q (Value.bool b) s') E ⟨hp, g, d, tk, os⟩ := by
    simp only [callSpecialIfBound?, bindSpecialIfBound?]
    refine wpAny_holding (wpAny_bind (wpAny_bind (wpAny_bind (I.type.here ((looks_findIn X hn).here ?_)))))
    refine wpAny_bind (wpAny_askSetting (wpAny_ite ?_))
    have fin : wpAny (model prog w) A (call (.builtin "object.__ne__") ([.ref x] ++ [v]) >>= fun v => pure (some v)) (fun r s' => ∃ b, r = some (Value.bool b) ∧ Q (Value.bool b) s') E ⟨hp, g, d, tk, os⟩ := by
      refine wpAny_bind (wpAny_mono slot ?_ fun _ _ e => e)
      rintro v s' ⟨b, rfl, hq⟩
      exact wpAny_pure ⟨b, rfl, hq⟩
    split
    · rw [bs]
      exact wpAny_bind (wpAny_pure (wpAny_pure (by exact fin)))
    · rw [bs]
      exact wpAny_tryCatch (wpAny_bind (wpAny_pure (wpAny_pure (by exact fin))))
  have one : wpAny (model prog w) A (tryCompare (.ref x) (Str.ofString "__ne__") v) (fun r s' => ∃ v, r = some v ∧ Q v s') E ⟨hp, g, d, tk, os⟩ := by
    unfold tryCompare
    refine wpAny_bind (wpAny_mono two ?_ fun _ _ e => e)
    rintro r s' ⟨b, rfl, hq⟩
    exact wpAny_pure ⟨_, rfl, hq⟩
  show wpAny (model prog w) A (richCompare .NotEq (.ref x) v) Q E _
  unfold richCompare
  simp only [oneThing_ref]
  refine wpAny_holding (wpAny_bind (wpAny_cRoomFor (Nat.lt_of_succ_lt hu) ?_))
  refine wpAny_bind (I.type.here (wpAny_bind (J.here ?_)))
  rw [show (Value.ref C != tb) = true from bne_iff_ne.mpr (Ne.symm htb)]
  simp only [if_true]
  refine wpAny_bind ((looks_subIn X hn1).here ?_)
  simp only [Bool.false_eq_true, if_false]
  refine wpAny_bind (wpAny_mono one ?_ fun _ _ e => e)
  rintro r s' ⟨v, rfl, hq⟩
  exact wpAny_pure hq
end
end Ne
section
variable {X : Cx} {CX : CXT} {C f : Addr} {fd : FuncData} {ps : List Str} {sp : Sp} {k : Nat} {E : XK}
theorem op_neOwnX (F : FnOk X.prog X.w X.K X.mg X.base CX k f fd ps sp) (hr : Room (k + 1) X.A) (he : PySem.W.findIn X.K (.ref C) "__eq__" = some (some (.ref f))) (hf : PySem.W.isFn X.K (.ref f) = true)
    (hn : PySem.W.findIn X.K (.ref C) "__ne__" = some (some (.builtin "object.__ne__"))) (hsub : PySem.W.subIn X.K (.ref C) (.type "object") = some true) (hb : Binds X.K fd ps []) (hx : Passes CX X E) :
    OpR X (compareOp .NotEq) (fun x y H Q => ∃ (a dx : Addr) (fs : List (Str × V)), x = .ref a ∧ H a = some (.ins C dx fs) ∧ Bt H y ∧ sp [.ref a, y] H (fun v H' => ∃ t, v = .bl t ∧ Q (.bl (!t)) H') E) := by
  intro pins s σ H x y v u Q I rx ry h
  obtain ⟨a, dx, fs, rfl, ha, hd, hsp⟩ := h
  cases rx
  obtain ⟨mA, J, _⟩ := ins_get I.hok ha
  obtain ⟨od, J, _⟩ := J.look
  obtain ⟨n, lk, hin⟩ := bt_looks (M := model X.prog X.w) I hd ry
  have un := hr.units
  refine Ne.obj_neX I.kIn J lk (fun z => by cases z) (not_sub hin) (by omega) he hf hn hsub ?_
  have hl := F.len _ _ _ _ hsp
  have bnd := hb s [.ref a, u] I.kIn (by simpa using hl)
  rw [List.append_nil] at bnd
  refine wpAny_call (codeAny_mono (F.run X.A.in1 X.stack s H ⟨[.ref a, u], []⟩ [.ref a, u] [.ref a, y] _ E hr.in1 I.env0.in1 bnd (.cons rfl (.cons ry .nil)) hsp) ?_)
  rintro (er | fl) s' hq
  · exact hx pins σ H s er s' I hq
  · cases fl with
    | ret w' =>
      obtain ⟨z, H', I', rz, t, rfl, q⟩ := I.after hq
      cases rz
      exact ⟨t, rfl, .bl (!t), H', I', rfl, q⟩
    | next => exact hq.elim
    | brk => exact hq.elim
    | cont => exact hq.elim
end
end Bb
set_option Elab.async false
set_option linter.all false
set_option maxRecDepth 100000
set_option maxHeartbeats 2000000
namespace Bb
namespace Co
open PySem PySem.SeqAt
open AutoSeq1 (wpAny_loadPart')
open MeetsSeq MeetsSeq2 MeetsSeq3 SeqRoads2
section
variable {prog : Program} {w : World} {A : Around} {R : Result → Shared → Prop}
/-- list.__contains__ where == may be a def's -/
theorem contains_loopG (l : Addr) (items : Array Value) (x : Value) (I : Nat → Shared → Prop) (hl : ∀ i s, I i s → ∃ n, s.heap.get? l = some { cls := .type "list", data := .seq items n })
    (turn : ∀ i (h : i < items.size) s, I i s → wpAny (model prog w) A.in1 (eqBool items[i] x) (fun r s' => (r = true → R (.ok (.ret (.bool true))) s') ∧ (r = false → I (i + 1) s')) (fun e s' => R (.error e) s') s)
    (fin : ∀ s, I items.size s → R (.ok (.ret (.bool false))) s) (k : Nat) :
    ∀ i : Nat, items.size - i = k → i ≤ items.size → ∀ s, I i s →
      wpAny (model prog w) A.in1 (Builtin.«list.__contains__.loop» ⟨[.ref l, x, rawInt i], []⟩) (GQ.FinOf prog w A R) (fun e s' => R (.error e) s') s := by
  induction k with
  | zero =>
    intro i hk hi s h
    obtain ⟨n, hl1⟩ := hl _ _ h
    have hi' : i = items.size := by omega
    have hR : R (.ok (.ret (.bool false))) s := fin s (hi' ▸ h)
    obtain ⟨hp, g, d, tk, os⟩ := s
    wp_walk using wpAny_loadPart' hl1
    have hi1 : items[((i : Nat) : Int).toNat]? = none := by simp; omega
    rw [hi1]
    wp_walk using wpAny_loadPart' hl1
    exact hR
  | succ k ih =>
    intro i hk hi s h
    obtain ⟨n, hl1⟩ := hl _ _ h
    have hlt : i < items.size := by omega
    have ht := turn i hlt s h
    obtain ⟨hp, g, d, tk, os⟩ := s
    wp_walk using wpAny_loadPart' hl1
    have hi1 : items[((i : Nat) : Int).toNat]? = some items[i] := by simp [hlt]
    have hc : ((i : Int) + 1) = ((i + 1 : Nat) : Int) := by omega
    rw [hi1]
    refine wpAny_bind (wpAny_mono ht (fun r s2 h2 => ?_) fun _ _ x => x)
    cases r with
    | true =>
      have h3 := h2.1 rfl
      obtain ⟨hp2, g2, d2, tk2, os2⟩ := s2
      wp_walk
      exact h3
    | false =>
      have hrec := ih (i + 1) (by omega) (by omega) s2 (h2.2 rfl)
      obtain ⟨hp2, g2, d2, tk2, os2⟩ := s2
      wp_walk
      rw [hc]
      exact ⟨plainId_quiet plain_contains_loop _, codeAny_builtin entry_contains_loop (by
        rw [Around.under_plainId plain_contains_loop _]
        exact hrec)⟩
theorem list_containsG (l : Addr) (items : Array Value) (x : Value) (I : Nat → Shared → Prop) (hl : ∀ i s, I i s → ∃ n, s.heap.get? l = some { cls := .type "list", data := .seq items n })
    (turn : ∀ i (h : i < items.size) s, I i s → wpAny (model prog w) A.in1 (eqBool items[i] x) (fun r s' => (r = true → R (.ok (.ret (.bool true))) s') ∧ (r = false → I (i + 1) s')) (fun e s' => R (.error e) s') s)
    (fin : ∀ s, I items.size s → R (.ok (.ret (.bool false))) s) {s : Shared} (h : I 0 s) :
    wpAny (model prog w) A.in1 (Builtin.«list.__contains__» ⟨[.ref l, x], []⟩) (GQ.FinOf prog w A R) (fun e s' => R (.error e) s') s := by
  obtain ⟨n, hl1⟩ := hl _ _ h
  have hrec := contains_loopG (A := A) (R := R) l items x I hl turn fin _ 0 rfl (Nat.zero_le _) s h
  obtain ⟨hp, g, d, tk, os⟩ := s
  wp_walk using wpAny_loadPart' hl1
  exact ⟨plainId_quiet plain_contains_loop _, codeAny_builtin entry_contains_loop (by
    rw [Around.under_plainId plain_contains_loop _]
    exact hrec)⟩
end
section
variable {prog : Program} {w : World} {A : Around} {E : Value → Shared → Prop} {s : Shared}
theorem in_listG {l : Addr} {items : Array Value} {x : Value} {Q : Value → Shared → Prop} (I : Nat → Shared → Prop) (hl : ∀ i s, I i s → ∃ n, s.heap.get? l = some { cls := .type "list", data := .seq items n })
    (turn : ∀ i (h : i < items.size) s, I i s → wpAny (model prog w) A.in1 (eqBool items[i] x) (fun r s' => (r = true → Q (.bool true) s') ∧ (r = false → I (i + 1) s')) E s)
    (fin : ∀ s, I items.size s → Q (.bool false) s) (h : I 0 s) : wpAny (model prog w) A (compareOp .In x (.ref l)) Q E s := by
  obtain ⟨n, hl1⟩ := hl _ _ h
  show wpAny _ A (do return .bool (← contains (.ref l) x)) Q E s
  refine wpAny_bind (wpAny_contains_slot ⟨_, hl1, rfl⟩ F.slot_list_contains (wpAny_mono (GQ.call_here (Q := fun v s' => ∃ b, v = .bool b ∧ Q (.bool b) s') F.slot_list_contains ⟨_, hl1, rfl⟩ F.entry_list_contains (F.args_list_contains_2 _ _) ?_) (fun v s' hv => ?_) fun _ _ e => e))
  · exact list_containsG (R := wants (fun v s' => ∃ b, v = .bool b ∧ Q (.bool b) s') E) l items x I hl (fun i h s hi => wpAny_mono (turn i h s hi) (fun r s' q => ⟨fun e => ⟨_, rfl, q.1 e⟩, q.2⟩) fun _ _ e => e) (fun s hs => ⟨_, rfl, fin s hs⟩) h
  · obtain ⟨b, rfl, hq⟩ := hv
    exact wpAny_truthy_bool (wpAny_pure hq)
end
end Co
open PySem PySem.Spec PyProof.Rows L2
open Builtin
namespace Ne
open PySem.W PySem.Calls
section
variable {prog : Program} {w : World} {A : Around} {E : Value → Shared → Prop} {s : Shared} {K : Frag} {x C f : Addr} {ox : Obj} {od : Option Obj}
/-- None == an own instance: its own == answers -/
theorem none_eq {Q : Value → Shared → Prop} (X : K.In s.heap) (I : InstAt s.heap x ox C od) (hu : A.units < cLine) (he : findIn K (.ref C) "__eq__" = some (some (.ref f))) (hf : isFn K (.ref f) = true) (hsub : subIn K (.ref C) (.type "NoneType") = some false)
    (h : wpAny (model prog w) A (call (.ref f) [.ref x, .none]) (fun r s' => ∃ b, r = .bool b ∧ Q (.bool b) s') E s) : wpAny (model prog w) A (richCompare .Eq .none (.ref x)) Q E s := by
  have hT : s.TypeIs .none "NoneType" := rfl
  unfold richCompare
  simp only [hT.oneThing_none]
  refine wpAny_holding (wpAny_bind (wpAny_cRoomFor hu ?_))
  refine wpAny_bind (wpAny_typeOf hT (wpAny_bind (I.type.here ?_)))
  rw [show (Value.type "NoneType" != Value.ref C) = true from rfl]
  simp only [if_true]
  refine wpAny_bind ((looks_subIn X hsub).here ?_)
  simp only [Bool.false_eq_true, if_false, Bool.not_false, if_true]
  refine wpAny_bind (m := tryCompare .none _ (.ref x)) (wpAny_tryCompare_declines hT PySem.F.slot_NoneType_eq (call_gives PySem.F.slot_NoneType_eq hT PySem.F.entry_NoneType_eq (PySem.F.args_NoneType_eq_2 _ _) (PySem.SeqAt.NoneType___eq___none_ref_0 x) ?_))
  refine ⟨rfl, ?_⟩
  have one : wpAny (model prog w) A (tryCompare (.ref x) (cmpInfo .Eq).2.2 .none) (fun r s' => ∃ v, r = some v ∧ Q v s') E s := by
    unfold tryCompare
    refine wpAny_bind (ifBound_K X I he hf (wpAny_mono h ?_ fun _ _ e => e))
    rintro v s' ⟨b, rfl, hq⟩
    exact wpAny_pure ⟨_, rfl, hq⟩
  refine wpAny_bind (wpAny_mono one ?_ fun _ _ e => e)
  rintro r s' ⟨v, rfl, hq⟩
  exact wpAny_pure hq
end
end Ne
section
variable {X : Cx} {CX : CXT} {C f : Addr} {fd : FuncData} {ps : List Str} {sp : Sp} {k : Nat} {E : XK}
/-- x in [None, y], x and y own instances -/
theorem op_inOwn (F : FnOk X.prog X.w X.K X.mg X.base CX k f fd ps sp) (hr : Room (k + 1) X.A) (he : PySem.W.findIn X.K (.ref C) "__eq__" = some (some (.ref f))) (hf : PySem.W.isFn X.K (.ref f) = true)
    (hno : PySem.W.subIn X.K (.ref C) (.type "NoneType") = some false) (hb : Binds X.K fd ps []) (hx : Passes CX X E) :
    OpR X (compareOp .In) (fun x y H Q => ∃ (a b l dx dy : Addr) (fs gs : List (Str × V)), x = .ref a ∧ y = .ref l ∧ H l = some (.lst [.non, .ref b]) ∧ a ≠ b ∧ H a = some (.ins C dx fs) ∧ H b = some (.ins C dy gs) ∧
      sp [.ref a, .non] H (fun v H' => v = .bl false ∧ H' = H) E ∧ sp [.ref b, .ref a] H (fun v H' => v = .bl true ∧ Q (.bl true) H') E) := by
  intro pins s σ H x y v u Q I rx ry h
  obtain ⟨a, b, l, dx, dy, fs, gs, rfl, rfl, hl, hab, ha, hbb, h1, h2⟩ := h
  cases rx
  cases ry
  have its : ∀ s' : Shared, Inv X pins σ H s' → ∃ n, s'.heap.get? l = some { cls := .type "list", data := .seq #[.none, .ref b] n } := by
    intro s' I'
    obtain ⟨_, it, n, r, _, e⟩ := I'.lstM hl
    cases r with
    | cons r1 r2 =>
      cases r2 with
      | cons r3 r4 =>
        cases r4
        cases r1
        cases r3
        exact ⟨n, e⟩
  have un := hr.units0
  have un2 := hr.units
  refine Co.in_listG (items := #[.none, .ref b]) (fun i s' => i < 2 ∧ Inv X pins σ H s') (fun i s' q => its s' q.2) ?_ (fun s' q => absurd q.1 (Nat.lt_irrefl 2)) ⟨by decide, I⟩
  intro i hi s' hs'
  have I' := hs'.2
  obtain ⟨mA, J, _⟩ := ins_get I'.hok ha
  obtain ⟨od, J, _⟩ := J.look
  obtain ⟨mB, J2, _⟩ := ins_get I'.hok hbb
  obtain ⟨od2, J2, _⟩ := J2.look
  have two : i = 0 ∨ i = 1 := by
    have := hs'.1
    omega
  rcases two with rfl | rfl
  · show wpAny (model X.prog X.w) X.A.in1 (eqBool .none (.ref a)) _ _ s'
    unfold eqBool
    refine wpAny_holding ?_
    refine wpAny_ite_split (fun q => by cases q) (fun _ => ?_)
    refine wpAny_bind (wpAny_mono (Ne.none_eq (Q := fun v s2 => v = .bool false ∧ Inv X pins σ H s2) I'.kIn J (by show X.A.units + 1 < cLine; omega) he hf hno ?_) ?_ fun _ _ e => e)
    · have hl1 := F.len _ _ _ _ h1
      have bnd := hb s' [.ref a, .none] I'.kIn (by simpa using hl1)
      rw [List.append_nil] at bnd
      refine wpAny_call (codeAny_mono (F.run X.A.in1 X.stack s' H ⟨[.ref a, .none], []⟩ [.ref a, .none] [.ref a, .non] _ E hr.in1 I'.env0.in1 bnd (.cons rfl (.cons rfl .nil)) h1) ?_)
      rintro (er | fl) s2 hq
      · exact hx pins σ H s' er s2 I' hq
      · cases fl with
        | ret w' =>
          obtain ⟨z, H2, I2, rz, rfl, rfl⟩ := I'.after hq
          cases rz
          exact ⟨false, rfl, rfl, I2⟩
        | next => exact hq.elim
        | brk => exact hq.elim
        | cont => exact hq.elim
    · rintro v s2 ⟨rfl, I2⟩
      exact wpAny_truthy_bool ⟨fun e => (by cases e), fun _ => ⟨by decide, I2⟩⟩
  · show wpAny (model X.prog X.w) X.A.in1 (eqBool (.ref b) (.ref a)) _ _ s'
    refine GQ.eqBool_refG (Ne.symm hab) ?_
    obtain ⟨m, hF⟩ := I'.fr
    refine PySem.W.cmp_K (op := .Eq) (tb := .ref C) (by show X.A.units + 1 < cLine; omega) hF I'.ok.mod.kin J2 J.type (by simp [PySem.W.notFirst]) he hf ?_
    have hl1 := F.len _ _ _ _ h2
    have bnd := hb s' [.ref b, .ref a] I'.kIn (by simpa using hl1)
    rw [List.append_nil] at bnd
    refine wpAny_call (codeAny_mono (F.run X.A.in1 X.stack s' H ⟨[.ref b, .ref a], []⟩ [.ref b, .ref a] [.ref b, .ref a] _ E hr.in1 I'.env0.in1 bnd (.cons rfl (.cons rfl .nil)) h2) ?_)
    rintro (er | fl) s2 hq
    · exact hx pins σ H s' er s2 I' hq
    · cases fl with
      | ret w' =>
        obtain ⟨z, H2, I2, rz, rfl, q⟩ := I'.after hq
        cases rz
        exact ⟨true, rfl, fun _ => ⟨.bl true, H2, I2, rfl, q⟩, fun e => by cases e⟩
      | next => exact hq.elim
      | brk => exact hq.elim
      | cont => exact hq.elim
end
end Bb
set_option Elab.async false
set_option linter.all false
set_option maxRecDepth 100000
set_option maxHeartbeats 2000000
namespace L2
open PySem PySem.Spec PyProof.Rows
open HT
section
variable {prog : Program} {w : World} {A : Around} {E : Value → Shared → Prop} {s : Shared}
theorem sliceApplied_rev {sl : Addr} {vl vu vs : Value} {n : Nat} {Q : Int × Int × Nat → Shared → Prop} (hs : s.heap.IsSliceOf sl vl vu vs) (pl : IsPart vl none) (pu : IsPart vu none) (ps : IsPart vs (some (-1)))
    (h : Q ((n : Int) - 1, -1, n) s) : wpAny (model prog w) A (Builtin.Slice.sliceApplied (.ref sl) (pure (n : Int))) Q E s := by
  obtain ⟨os, hos, hcs, hds⟩ := id hs
  unfold Builtin.Slice.sliceApplied Builtin.Slice.sliceFields
  refine wpAny_bind (wpAny_bind (wpAny_field hos hds (x := vl) rfl (wpAny_bind (wpAny_field hos hds (x := vu) rfl (wpAny_bind (wpAny_field hos hds (x := vs) rfl (wpAny_pure ?_)))))))
  refine wpAny_bind (slicePart_ ps ?_)
  show wpAny _ _ (if ((-1 : Int) == 0) = true then _ else _) _ _ s
  rw [if_neg (by decide)]
  refine wpAny_bind (slicePart_ pl (wpAny_bind (slicePart_ pu (wpAny_bind (wpAny_pure ?_)))))
  have e1 : Builtin.Slice.sliceAdjust none none (-1) (n : Int) = ((n : Int) - 1, -1) := by
    unfold Builtin.Slice.sliceAdjust
    simp
  show wpAny _ _ (match Builtin.Slice.sliceAdjust none none (-1) (n : Int) with | (lo, hi) => pure (lo, (-1 : Int), Builtin.Slice.slicePlaces lo hi (-1))) _ _ s
  rw [e1]
  have e2 : Builtin.Slice.slicePlaces ((n : Int) - 1) (-1) (-1) = n := by
    unfold Builtin.Slice.slicePlaces
    have h1 : ¬ ((-1 : Int) > 0) := by decide
    simp only [h1, if_false]
    split
    · rw [show (- -1 : Int) = 1 by decide, Int.ediv_one]
      omega
    · omega
  show wpAny _ _ (pure ((n : Int) - 1, (-1 : Int), Builtin.Slice.slicePlaces ((n : Int) - 1) (-1) (-1))) _ _ s
  rw [e2]
  exact wpAny_pure h
theorem pick_rev (xs : Array Value) : ((List.range xs.size).filterMap fun (m : Nat) => xs[((xs.size : Int) - 1 + (m : Int) * (-1)).toNat]?).toArray = xs.toList.reverse.toArray := by
  have e : (fun (m : Nat) => xs[((xs.size : Int) - 1 + (m : Int) * (-1)).toNat]?) = fun m => xs[xs.size - 1 - m]? := by
    funext m
    have : ((xs.size : Int) - 1 + (m : Int) * (-1)).toNat = xs.size - 1 - m := by omega
    rw [this]
  rw [e]
  have h2 : (List.range xs.size).filterMap (fun m => xs[xs.size - 1 - m]?) = ((List.range xs.size).map (fun k => xs.size - 1 - k)).filterMap (xs[·]?) := by
    rw [List.filterMap_map]
    rfl
  rw [h2, PySem.W.krv_range, List.filterMap_reverse, PySem.W.krv_all]
theorem getItem_tuple_rev {t sl : Addr} {items : Array Value} {vl vu vs : Value} {Q : Value → Shared → Prop} (ht : IsTup s.heap t items) (hs : s.heap.IsSliceOf sl vl vu vs) (pl : IsPart vl none) (pu : IsPart vu none) (ps : IsPart vs (some (-1)))
    (h : Q (.ref s.heap.objs.size) { s with heap := s.heap.push { cls := .type "tuple", data := .seq items.toList.reverse.toArray } })
    (hsz : items.size ≤ sizeLine) : wpAny (model prog w) A (getItem (.ref t) (.ref sl)) Q E s := by
  have htake : sizeOk (.seq items.toList.reverse.toArray) := by
    show items.toList.reverse.toArray.size ≤ sizeLine
    rw [List.size_toArray, List.length_reverse, Array.length_toList]
    exact hsz
  obtain ⟨os, hos, hcs, hds⟩ := id hs
  have hTs : s.TypeIs (.ref sl) "slice" := ⟨os, hos, hcs⟩
  unfold getItem
  try with_reducible refine wpAny_holding ?_
  first | refine wpAny_bind (wpAny_pure ?_) | skip
  refine wpAny_bind (wpAny_sequenceKey ht.typeIs (by decide) ?_)
  refine wpAny_bind (wpAny_callSpecial?_slot (name := Str.ofString "__getitem__") ht.typeIs PyProof.Rows.slot_tuple_getitem
    (wpAny_call_entry PyProof.Rows.slot_tuple_getitem ht.typeIs entry_tuple_getitem ?_ (args_tuple_getitem _ _)))
  show wpAny _ _ (Builtin.Tuple.tupleItemsOf (.ref t) >>= _) _ _ s
  refine wpAny_bind (tupleItemsOf_ ht ?_)
  refine wpAny_bind (wpAny_typeOf hTs ?_)
  rw [if_pos (by decide)]
  refine wpAny_bind (sliceApplied_rev hs pl pu ps ?_)
  have hno : ¬ (((items.size : Int) - 1 == 0 && (-1 : Int) == 1 && (items.size) == items.size) = true) := by
    intro q
    rw [Bool.and_eq_true, Bool.and_eq_true] at q
    have q1 := q.1.2
    exact absurd q1 (by decide)
  show wpAny _ _ (if ((items.size : Int) - 1 == 0 && (-1 : Int) == 1 && (items.size) == items.size) = true then _ else _) _ _ s
  rw [if_neg hno, pick_rev]
  first
    | exact wpAny_bind (m := Builtin.Tuple.tupleExact _) (wpAny_newObj_type (wpAny_pure ⟨_, rfl, wpAny_pure h⟩) htake)
    | exact wpAny_bind (m := Builtin.Tuple.tupleExact _) (wpAny_newObj_type (wpAny_bind (wpAny_pure (wpAny_pure ⟨_, rfl, wpAny_pure h⟩))) htake)
    | exact wpAny_bind (wpAny_bind (m := Builtin.Tuple.tupleExact _) (wpAny_newObj_type (wpAny_pure (wpAny_pure ⟨_, rfl, wpAny_pure h⟩)) htake))
    | exact wpAny_bind (wpAny_bind (m := Builtin.Tuple.tupleExact _) (wpAny_newObj_type (wpAny_pure ⟨_, rfl, wpAny_pure h⟩) htake))
end
end L2
namespace Bb
open PySem PySem.Spec PyProof.Rows L2
section
variable {X : Cx}
/-! t[::-1] of a tuple -/
def tRevT (te : TE) : TE := fun σ H Q => te σ H fun x H1 => ∃ a xs, x = .ref a ∧ H1 a = some (.tup xs) ∧ ∀ p, H1 p = none → Q (.ref p) (upd H1 p (.tup xs.reverse))
theorem pe_revT {e : Expr} {te : TE} {k : Nat} {p1 p2 p3 pos : Pos} (he : PE X e te) : PE X (.Subscript e (.Slice none none (some (.UnaryOp .USub (.Constant (.int 1) k p1) p2)) p3) pos) (tRevT te) := by
  refine ⟨fun pins s σ H Q I h => ?_⟩
  refine Subscript_ (thn (he.run pins s σ H _ I h) fun v s1 ⟨x, H1, I1, r1, q1⟩ => ?_)
  obtain ⟨a, xs, ex, hx, q⟩ := q1
  subst ex
  cases r1
  have hst : PO X (some (.UnaryOp .USub (.Constant (.int 1) k p1) p2)) (tPart (tUn (rU fun i => .int (-i)) (tC (.int 1)))) := po_some (pe_un un_neg pe_int)
  refine wpAny_Slice (thn (po_none.run pins s1 σ H1 (fun o H2 => o = none ∧ H2 = H1) I1 ⟨rfl, rfl⟩) fun vl s2 ⟨l, H2, I2, pl, el, e2⟩ => ?_)
  subst el e2
  refine thn (po_none.run pins s2 σ H2 (fun o H3 => o = none ∧ H3 = H2) I2 ⟨rfl, rfl⟩) fun vu s3 ⟨u, H3, I3, pu, eu, e3⟩ => ?_
  subst eu e3
  refine thn (hst.run pins s3 σ H3 (fun o H4 => o = some (-1) ∧ H4 = H3) I3 ⟨1, rfl, -1, rfl, rfl, rfl⟩) fun vs s4 ⟨o, H4, I4, ps, eo, e4⟩ => ?_
  subst eo e4
  have I5 : Inv X pins σ H4 { s4 with heap := s4.heap.push { cls := .type "slice", data := .fields #[vl, vu, vs] } } := I4.kept (t' := s4.toks) fun b ob q => Heap.get?_push_of_some _ q
  obtain ⟨its, r, ht, hz⟩ := I5.tuple (SqT.of hx)
  have hlen := r.length
  show wpAny (model X.prog X.w) X.A (subscriptTail e (.Slice none none (some (.UnaryOp .USub (.Constant (.int 1) k p1) p2)) p3) (.ref a) (.ref s4.heap.objs.size)) (EP X pins σ Q) X.xe { s4 with heap := s4.heap.push { cls := .type "slice", data := .fields #[vl, vu, vs] } }
  refine tail_any (ops := [.ref a, .ref s4.heap.objs.size]) ht.typeIs (PyProof.Rows.slot_tuple_getitem.lookup) ?_ (by with_unfolding_all rfl)
  refine getItem_tuple_rev ht (Heap.IsSliceOf.new _ vl vu vs) pl pu ps ?_ (by rw [List.size_toArray]; omega)
  refine ⟨.ref _, _, I5.laid (t' := s4.toks) (o := .tup xs.reverse) (fun b ob q => Heap.get?_push_of_some _ q) (Nat.le_refl _) ?_, rfl, q _ (I5.hok.fresh (Nat.le_refl _))⟩
  exact ⟨by rw [List.length_reverse]; exact hz, its.reverse, r.reverse, ⟨_, Heap.get?_push_size _ rfl, rfl, 0, by rfl⟩⟩
/-! set(t) of a tuple of ints -/
theorem call_setT (hc : X.calm = true) : CallR X (.type "set") (fun xs H Q => ∃ (l : Addr) (ns : List Int), xs = [.ref l] ∧ SqT X.K H l (ns.map V.int) ∧ ns.length ≤ 60 ∧ ∀ p n, H p = none → n ≤ ns.length → Q (.ref p) (upd H p (SetO X.w p (fun k => decide (k ∈ ns)) n))) := by
  intro pins s σ H xs us Q I r h
  obtain ⟨l, ns, rfl, hq, hn, q⟩ := h
  obtain ⟨u, rfl, ru⟩ := vals1 r
  cases ru
  obtain ⟨its, rv, pt, hz⟩ := I.tuple hq
  have hi : IntsAre its.toArray.toList ns := ints_of_vals rv
  refine call_set_tupI ns (I.ok.hd hc) (show s.heap.IsTuple l its.toArray from pt) hi (by unfold scanBound; omega) fun h' tk c R1 hcn k => ?_
  exact ⟨.ref s.heap.objs.size, _, I.laid (t' := tk) k (Nat.le_refl _) (setO_new R1), rfl, q _ c (I.hok.fresh (Nat.le_refl _)) hcn⟩
end
end Bb
set_option Elab.async false
set_option linter.all false
set_option maxRecDepth 100000
set_option maxHeartbeats 2000000
namespace Bb
open PySem PySem.Spec PyProof.Rows L2
/-! kinds of data -/
def dInt : PyData → Bool
  | .int _ => true
  | .bool _ => true
  | _ => false
def dBool : PyData → Bool
  | .bool _ => true
  | _ => false
def dTup : PyData → Bool
  | .tuple _ => true
  | _ => false
def dStr : PyData → Bool
  | .str _ => true
  | _ => false
def dList : PyData → Bool
  | .list _ => true
  | _ => false
theorem kitE {a b : String} {r r' : Bool} (h : kitB a b = some r) (e : r = r') : kitB a b = some r' := by
  rw [← e]
  exact h
structure TyD (K : PySem.W.Frag) (H : Hp) (x : V) (d : PyData) (n : String) : Prop where
  ty : TyX K H x (.type n)
  i : kitB n "int" = some (dInt d)
  b : kitB n "bool" = some (dBool d)
  t : kitB n "tuple" = some (dTup d)
  s : kitB n "str" = some (dStr d)
  l : kitB n "list" = some (dList d)
theorem Da.ty {K : PySem.W.Frag} {Z : Addr → Prop} {H : Hp} {x : V} {d : PyData} (h : Da Z H x d) : ∃ n, TyD K H x d n := by
  cases h with
  | non => exact ⟨_, .base .non, kitE (r := false) (by decide +kernel) rfl, kitE (r := false) (by decide +kernel) rfl, kitE (r := false) (by decide +kernel) rfl, kitE (r := false) (by decide +kernel) rfl, kitE (r := false) (by decide +kernel) rfl⟩
  | bl b => exact ⟨_, .base (.bl b), kitE (r := true) (by decide +kernel) rfl, kitE (r := true) (by decide +kernel) rfl, kitE (r := false) (by decide +kernel) rfl, kitE (r := false) (by decide +kernel) rfl, kitE (r := false) (by decide +kernel) rfl⟩
  | int i => exact ⟨_, .base (.int i), kitE (r := true) (by decide +kernel) rfl, kitE (r := false) (by decide +kernel) rfl, kitE (r := false) (by decide +kernel) rfl, kitE (r := false) (by decide +kernel) rfl, kitE (r := false) (by decide +kernel) rfl⟩
  | str z => exact ⟨_, .base (.str z), kitE (r := false) (by decide +kernel) rfl, kitE (r := false) (by decide +kernel) rfl, kitE (r := false) (by decide +kernel) rfl, kitE (r := true) (by decide +kernel) rfl, kitE (r := false) (by decide +kernel) rfl⟩
  | lst h _ _ => exact ⟨_, .base (.lst h), kitE (r := false) (by decide +kernel) rfl, kitE (r := false) (by decide +kernel) rfl, kitE (r := false) (by decide +kernel) rfl, kitE (r := false) (by decide +kernel) rfl, kitE (r := true) (by decide +kernel) rfl⟩
  | tup h _ _ => exact ⟨_, .base (.tup h), kitE (r := false) (by decide +kernel) rfl, kitE (r := false) (by decide +kernel) rfl, kitE (r := true) (by decide +kernel) rfl, kitE (r := false) (by decide +kernel) rfl, kitE (r := false) (by decide +kernel) rfl⟩
  | d0 h _ => exact ⟨_, .base (.dK h), kitE (r := false) (by decide +kernel) rfl, kitE (r := false) (by decide +kernel) rfl, kitE (r := false) (by decide +kernel) rfl, kitE (r := false) (by decide +kernel) rfl, kitE (r := false) (by decide +kernel) rfl⟩
  | d1 h _ => exact ⟨_, .base (.dK h), kitE (r := false) (by decide +kernel) rfl, kitE (r := false) (by decide +kernel) rfl, kitE (r := false) (by decide +kernel) rfl, kitE (r := false) (by decide +kernel) rfl, kitE (r := false) (by decide +kernel) rfl⟩
/-! slices and sums of tuples: where they are new, where not -/
theorem same_up {H : Hp} {p : Addr} {o : HO} (h : H p = none) : Same H (upd H p o) := fun b u e => by
  rw [upd_ne (ne_of_none e h)]
  exact e
section
variable {X : Cx}
def rSlC : V → Option Int → Option Int → Hp → VK → Prop := fun x lo hi H Q => ∃ a xs, x = .ref a ∧ H a = some (.tup xs) ∧ ∀ p H', Same H H' → H' p = some (.tup (cutV xs lo hi)) → (p = a ∨ H p = none) → Q (.ref p) H'
theorem cut_whole {xs : List V} {lo hi : Option Int} (h : HT.sIx xs.length 0 lo = 0 ∧ HT.sIx xs.length xs.length hi = xs.length) : cutV xs lo hi = xs := by
  unfold cutV
  rw [h.1, h.2]
  simp
theorem sl_tupC : SlR X rSlC := by
  intro pins s σ H x v vl vu lo hi sl Q I rx hs pl pu h
  obtain ⟨a, xs, rfl, hx, q⟩ := h
  refine sl_tupA pins s σ H _ v vl vu lo hi sl Q I rx hs pl pu ⟨a, xs, rfl, SqT.of hx, fun wh => ?_, fun _ p hp => ?_⟩
  · exact q a H (Same.refl H) (by rw [cut_whole wh]; exact hx) (.inl rfl)
  · exact q p _ (same_up hp) upd_same (.inr hp)
def rCatC : R2 := fun x y H Q => ∃ a b xs ys, x = .ref a ∧ y = .ref b ∧ H a = some (.tup xs) ∧ H b = some (.tup ys) ∧ xs.length + ys.length ≤ sizeLine ∧ ∀ p H', Same H H' → H' p = some (.tup (xs ++ ys)) → (p = a ∨ p = b ∨ H p = none) → Q (.ref p) H'
theorem op_catC : OpR X (binaryOp .Add) rCatC := by
  intro pins s σ H x y v u Q I rx ry h
  obtain ⟨a, b, xs, ys, rfl, rfl, ha, hb, hz, q⟩ := h
  refine op_catA pins s σ H _ _ v u Q I rx ry ⟨a, b, xs, ys, rfl, rfl, SqT.of ha, SqT.of hb, hz, ?_, ?_, ?_⟩
  · rintro rfl
    exact q b H (Same.refl H) hb (.inr (.inl rfl))
  · rintro _ rfl
    exact q a H (Same.refl H) (by rw [List.append_nil]; exact ha) (.inl rfl)
  · intro _ _ p hp
    exact q p _ (same_up hp) upd_same (.inr (.inr hp))
end
theorem cut_from (xs : List V) (k : Nat) : cutV xs (some (k : Int)) none = xs.drop k := by
  unfold cutV
  rw [HT.sIx_nat, HT.sIx_none]
  by_cases h : k ≤ xs.length
  · rw [Nat.min_eq_left h, List.take_of_length_le (by simp)]
  · rw [Nat.min_eq_right (by omega), List.drop_of_length_le (Nat.le_refl _), List.drop_of_length_le (by omega)]
    simp
theorem cut_to (xs : List V) (k : Nat) : cutV xs none (some (k : Int)) = xs.take k := by
  unfold cutV
  rw [HT.sIx_nat, HT.sIx_none]
  by_cases h : k ≤ xs.length
  · rw [Nat.min_eq_left h]
    simp
  · rw [Nat.min_eq_right (by omega), List.take_of_length_le (show xs.length ≤ k by omega)]
    simp
/-- what the laws' things are: small enough to be shown -/
structure Sm (d : PyData) : Prop where
  sh : d.showable = true
  dp : d.depth ≤ 4
  ln : d.shown.length ≤ 200
  nl : d.hasDict = true → noList d = true
  ly : ∀ ds, d = .tuple ds → PyData.canLayAll0 ds = true
theorem Sm.int {i : Int} (h : i.natAbs < 10 ^ 40) : Sm (.int i) := by
  refine ⟨?_, Nat.zero_le _, ?_, fun z => (by cases z), fun ds z => (by cases z)⟩
  · show decide (i.natAbs.log2 < 1920) = true
    apply decide_eq_true
    by_cases z : i.natAbs = 0
    · rw [z]
      decide
    · exact (Nat.log2_lt z).mpr (Nat.lt_of_lt_of_le h (by decide +kernel))
  · have e := int_text_length_le10 (k := 40) (by decide) h
    show (Str.ofString (toString i)).length ≤ 200
    rw [PySem.ofString_length]
    omega
theorem Sm.bl (b : Bool) : Sm (.bool b) := by
  refine ⟨rfl, Nat.zero_le _, ?_, fun z => (by cases z), fun ds z => (by cases z)⟩
  cases b <;> decide +kernel
theorem Sm.non : Sm .none := ⟨rfl, Nat.zero_le _, by decide +kernel, fun z => (by cases z), fun ds z => (by cases z)⟩
theorem tupleText_le (ts : List Str) : (tupleText ts).length ≤ piled ts + 3 := by
  unfold tupleText
  rw [strLen_append, strLen_append]
  have e1 : (("(" : String) : Str).length = 1 := by decide +kernel
  have e2 : (((if ts.length == 1 then ",)" else ")" : String) : Str)).length ≤ 2 := by
    split <;> decide +kernel
  rw [e1]
  by_cases h : ts = []
  · subst h
    have e3 : (Str.join ", " []).length = 0 := by decide +kernel
    omega
  · have := join_length_add ts h
    omega
theorem Sm.ints {ns : List Int} (hr : ∀ n ∈ ns, n.natAbs < 10 ^ 18) (hl : ns.length ≤ 8) : Sm (.tuple (ns.map PyData.int)) := by
  have nd : ∀ ns : List Int, PyData.hasDictAll (ns.map PyData.int) = false := by
    intro ns
    induction ns with
    | nil => rfl
    | cons n ns ih =>
      show (PyData.hasDict (.int n) || PyData.hasDictAll (ns.map PyData.int)) = false
      rw [ih]
      rfl
  refine ⟨show_ints ns hr, ?_, ?_, fun z => ?_, fun ds z => ?_⟩
  · show PyData.depthAll (ns.map PyData.int) + 1 ≤ 4
    rw [depth_ints]
    decide
  · have h1 := tupleText_le (PyData.shownAll (ns.map PyData.int))
    have h2 := piled_ints ns hr
    show (tupleText (PyData.shownAll (ns.map PyData.int))).length ≤ 200
    omega
  · have z2 : PyData.hasDictAll (ns.map PyData.int) = true := z
    rw [nd] at z2
    cases z2
  · injection z with z
    rw [← z]
    exact lay_ints ns
end Bb
set_option Elab.async false
set_option linter.all false
set_option maxRecDepth 100000
set_option maxHeartbeats 2000000
namespace Bb
open PySem PySem.Spec PyProof.Rows L2
/-! min, max of a tuple of ints -/
section
variable {prog : Program} {w : World} {A : Around} {E : Value → Shared → Prop} {s : Shared} {l : Addr} {its : List Value} {ns : List Int} {Q : Value → Shared → Prop} {xs : Array (Int × Tok)}
theorem iter_intTup {Q : Value → Shared → Prop} (hl : s.heap.IsTuple l (intItems xs))
    (h : ∀ s₂ : Shared, s₂ = { s with heap := s.heap.push { cls := .type "tuple_iterator", data := .fields #[.ref l, .int 0 0] } } →
      (s₂.heap.IsTupleIter s.heap.objs.size l 0 ∧ s₂.heap.IsTuple l (intItems xs)) → (∀ b ∈ [s.heap.objs.size, l], b < s₂.heap.objs.size) → l ≠ s.heap.objs.size → Q (.ref s.heap.objs.size) s₂) :
    wpAny (model prog w) A (pyIter (.ref l)) Q E s := by
  have hlt : l < s.heap.objs.size := by
    obtain ⟨_, e, _⟩ := hl
    exact Heap.lt_size e
  refine wpAny_pyIter_tuple hl (h _ rfl ⟨⟨_, Heap.get?_push_size _ rfl, rfl, rfl⟩, hl.push _⟩ (fun b hb => ?_) (Nat.ne_of_lt hlt))
  show b < (s.heap.push _).objs.size
  rw [Heap.size_push]
  rcases List.mem_cons.mp hb with rfl | hb
  · exact Nat.lt_succ_self _
  · rcases List.mem_cons.mp hb with rfl | hb
    · exact Nat.lt_succ_of_lt hlt
    · cases hb
theorem old_keptT {h' : Heap} (hk : ∀ b o, b ∉ [s.heap.objs.size] → (s.heap.push { cls := .type "tuple_iterator", data := .fields #[.ref l, .int 0 0] }).get? b = some o → h'.get? b = some o) :
    ∀ b o, s.heap.get? b = some o → h'.get? b = some o := fun b o e => by
  refine hk b o (fun hm => ?_) (Heap.get?_push_of_some _ e)
  have := Heap.lt_size e
  have z : b = s.heap.objs.size := by simpa using hm
  exact absurd z (Nat.ne_of_lt this)
theorem min_intTup (hh : A.handled = none) (hl : s.heap.IsTuple l (intItems xs)) (hne : 0 < xs.size)
    (h : ∀ v h' tk, (intItems xs)[argBest (fun i j => decide (numAt xs i < numAt xs j)) (xs.size - 1)]? = some v → (∀ b o, s.heap.get? b = some o → h'.get? b = some o) → Q v { s with heap := h', toks := tk }) :
    wpAny (model prog w) A (call (.builtin "min") [.ref l]) Q E s := by
  refine call_min_walk (iter_intTup hl fun s₂ e st hfp hlI => ?_)
  subst e
  refine ⟨_, _, _, _, _, _, _, rfl, Walks.tuple (A := A.in1) hh _ l hlI (intItems xs), st, hfp, by simpa [intItems] using hne, CmpOf.ints_lt (numAt xs) (fun _ _ => intItems_at), fun v h' tk hP hk => ?_⟩
  exact h v h' tk (by simpa [intItems] using hP) (old_keptT hk)
theorem max_intTup (hh : A.handled = none) (hl : s.heap.IsTuple l (intItems xs)) (hne : 0 < xs.size)
    (h : ∀ v h' tk, (intItems xs)[argBest (fun i j => decide (numAt xs i > numAt xs j)) (xs.size - 1)]? = some v → (∀ b o, s.heap.get? b = some o → h'.get? b = some o) → Q v { s with heap := h', toks := tk }) :
    wpAny (model prog w) A (call (.builtin "max") [.ref l]) Q E s := by
  refine call_max_walk (iter_intTup hl fun s₂ e st hfp hlI => ?_)
  subst e
  refine ⟨_, _, _, _, _, _, _, rfl, Walks.tuple (A := A.in1) hh _ l hlI (intItems xs), st, hfp, by simpa [intItems] using hne, CmpOf.ints_gt (numAt xs) (fun _ _ => intItems_at), fun v h' tk hP hk => ?_⟩
  exact h v h' tk (by simpa [intItems] using hP) (old_keptT hk)
theorem min_rawT (hh : A.handled = none) (hl : s.heap.IsTuple l its.toArray) (hi : IntsAre its ns) (hne : 0 < ns.length)
    (h : ∀ h' tk M t', (∀ b o, s.heap.get? b = some o → h'.get? b = some o) → M ∈ ns → (∀ a, a ∈ ns → M ≤ a) → Q (.int M t') { s with heap := h', toks := tk }) : wpAny (model prog w) A (call (.builtin "min") [.ref l]) Q E s := by
  obtain ⟨xs, e⟩ := hi.allInts.items
  have hn : numsOf (intItems xs).toList = ns := by rw [← e]; exact hi.numsOf
  rw [nums_intItems] at hn
  subst hn
  rw [e] at hl
  have hsz : 0 < xs.size := by simpa using hne
  refine min_intTup hh hl hsz fun v h' tk hv hk => ?_
  obtain ⟨t, rfl⟩ := intItems_at hv
  obtain ⟨h1, h2⟩ := argBest_lt (numAt xs) (xs.size - 1)
  refine h h' tk _ t hk ?_ fun a ha => ?_
  · rw [numAt_eq]; exact PySem.getD_mem (by rw [List.length_map, Array.length_toList]; omega)
  · obtain ⟨j, hj, rfl⟩ := mem_getD ha
    rw [List.length_map, Array.length_toList] at hj
    rw [← numAt_eq]; exact h2 j (by omega)
theorem max_rawT (hh : A.handled = none) (hl : s.heap.IsTuple l its.toArray) (hi : IntsAre its ns) (hne : 0 < ns.length)
    (h : ∀ h' tk M t', (∀ b o, s.heap.get? b = some o → h'.get? b = some o) → M ∈ ns → (∀ a, a ∈ ns → a ≤ M) → Q (.int M t') { s with heap := h', toks := tk }) : wpAny (model prog w) A (call (.builtin "max") [.ref l]) Q E s := by
  obtain ⟨xs, e⟩ := hi.allInts.items
  have hn : numsOf (intItems xs).toList = ns := by rw [← e]; exact hi.numsOf
  rw [nums_intItems] at hn
  subst hn
  rw [e] at hl
  have hsz : 0 < xs.size := by simpa using hne
  refine max_intTup hh hl hsz fun v h' tk hv hk => ?_
  obtain ⟨t, rfl⟩ := intItems_at hv
  obtain ⟨h1, h2⟩ := argBest_gt (numAt xs) (xs.size - 1)
  refine h h' tk _ t hk ?_ fun a ha => ?_
  · rw [numAt_eq]; exact PySem.getD_mem (by rw [List.length_map, Array.length_toList]; omega)
  · obtain ⟨j, hj, rfl⟩ := mem_getD ha
    rw [List.length_map, Array.length_toList] at hj
    rw [← numAt_eq]; exact h2 j (by omega)
end
section
variable {X : Cx}
/-- min(xs), max(xs), xs a list or a tuple of ints -/
def rMinS (K : PySem.W.Frag) : List V → Hp → VK → Prop := fun vs H Q => ∃ (a : Addr) (ns : List Int), vs = [V.ref a] ∧ (SqL K H a (ns.map V.int) ∨ SqT K H a (ns.map V.int)) ∧ 0 < ns.length ∧ ∀ m, m ∈ ns → (∀ y, y ∈ ns → m ≤ y) → Q (.int m) H
def rMaxS (K : PySem.W.Frag) : List V → Hp → VK → Prop := fun vs H Q => ∃ (a : Addr) (ns : List Int), vs = [V.ref a] ∧ (SqL K H a (ns.map V.int) ∨ SqT K H a (ns.map V.int)) ∧ 0 < ns.length ∧ ∀ m, m ∈ ns → (∀ y, y ∈ ns → y ≤ m) → Q (.int m) H
theorem cr_minS (hc : X.calm = true) : CallR X (.builtin "min") (rMinS X.K) := by
  intro pins s σ H vs us Q I r h
  obtain ⟨a, ns, rfl, hs, hne, q⟩ := h
  rcases hs with hs | hs
  · exact cr_min hc pins s σ H _ us Q I r ⟨a, ns, rfl, hs, hne, q⟩
  · obtain ⟨its, rv, hl, _⟩ := I.tuple hs
    rw [Vals.ref1 r]
    exact min_rawT (I.ok.hd hc) (show s.heap.IsTuple a its.toArray from hl) rv.ints hne fun h' tk m t' hk h1 h2 => ⟨.int _, H, I.kept hk, ⟨_, rfl⟩, q m h1 h2⟩
theorem cr_maxS (hc : X.calm = true) : CallR X (.builtin "max") (rMaxS X.K) := by
  intro pins s σ H vs us Q I r h
  obtain ⟨a, ns, rfl, hs, hne, q⟩ := h
  rcases hs with hs | hs
  · exact cr_max hc pins s σ H _ us Q I r ⟨a, ns, rfl, hs, hne, q⟩
  · obtain ⟨its, rv, hl, _⟩ := I.tuple hs
    rw [Vals.ref1 r]
    exact max_rawT (I.ok.hd hc) (show s.heap.IsTuple a its.toArray from hl) rv.ints hne fun h' tk m t' hk h1 h2 => ⟨.int _, H, I.kept hk, ⟨_, rfl⟩, q m h1 h2⟩
end
end Bb
set_option Elab.async false
set_option linter.all false
set_option maxRecDepth 100000
set_option maxHeartbeats 2000000
namespace Bb
open PySem PySem.Spec PyProof.Rows L2
/-! a reading that is first made weaker -/
theorem psBy {X : Cx} {stm : Stmt} {t t' : TS} (h : PS X stm t) (w : ∀ D σ H, t' D σ H → t D σ H) : PS X stm t' := ⟨fun pins s σ H D I q => h.run pins s σ H D I (w D σ H q)⟩
theorem peBy {X : Cx} {e : Expr} {t t' : TE} (h : PE X e t) (w : ∀ σ H Q, t' σ H Q → t σ H Q) : PE X e t' := ⟨fun pins s σ H Q I q => h.run pins s σ H Q I (w σ H Q q)⟩
/-- what is run anywhere is run where no repr is under way -/
theorem fnG_of {P : Program} {w : World} {K : PySem.W.Frag} {mg : Str → Option Value} {base : Heap} {CX : CXT} {k : Nat} {f : Addr} {fd : FuncData} {ps : List Str} {sp : Sp} (F : FnOk P w K mg base CX k f fd ps sp) : FnG P w K mg base CX k f fd ps sp :=
  ⟨F.len, fun A outer s H ar us vs Q E _ room env b v q => F.run A outer s H ar us vs Q E room env b v q⟩
/-! sorted of a tuple of ints -/
section
variable {P0 : Program} {w0 : World} {A0 : Around} {E0 : Value → Shared → Prop} {st : Shared}
theorem collect_tup {t : Addr} {us : List Value} {Q0 : List Value → Shared → Prop} (ht : st.heap.IsTuple t us.toArray) (hz : us.length ≤ sizeLine)
    (q : Q0 us { st with heap := (st.heap.push (seqObj "list" #[] 0)).update st.heap.objs.size (Obj.mapSeq (· ++ us.toArray)) }) : wpAny (model P0 w0) A0 (collect (.ref t)) Q0 E0 st := by
  obtain ⟨ob, e1, e2, k, e3⟩ := id ht
  unfold collect
  refine wpAny_bind (wpAny_runValue (codeAny_builtin entry_proto_collect' ?_))
  show wpAny (model P0 w0) _ (newList [] >>= fun l => again (.builtin "list.__iadd__" ⟨[l, .ref t], []⟩)) _ _ st
  refine wpAny_bind (wpAny_newList (wpAny_pure ⟨plainId_quiet PySem.F.plain_list_iadd _, codeAny_builtin entry_list_iadd' ?_⟩))
  have g0 : (st.heap.push (seqObj "list" #[] 0)).get? st.heap.objs.size = some (seqObj "list" #[] 0) := Heap.get?_push_size _ rfl
  have g1 : (st.heap.push (seqObj "list" #[] 0)).get? t = some ob := Heap.get?_push_of_some _ e1
  show wpAny (model P0 w0) _ (Builtin.List.listExtendWith (.ref st.heap.objs.size) (.ref t) (.ref st.heap.objs.size)) _ _ { st with heap := st.heap.push (seqObj "list" #[] 0) }
  unfold Builtin.List.listExtendWith
  refine wpAny_bind (wpAny_typeOf (T := "tuple") ⟨ob, g1, e2⟩ ?_)
  have yes : (Builtin.List.listSameRef (.ref st.heap.objs.size) (.ref t) || Value.type "tuple" == Value.type "list" || Value.type "tuple" == Value.type "tuple") = true := by
    have z : (Value.type "tuple" == Value.type "tuple") = true := by rfl
    rw [z, Bool.or_true]
  rw [if_pos yes]
  refine wpAny_bind (listItems_at g1 e3 ?_)
  refine wpAny_bind (listItems_at g0 rfl ?_)
  rw [if_neg (by simp)]
  refine wpAny_bind (listUpdate_at g0 rfl ?_ (Nat.zero_le _) (by
    show (#[] ++ us.toArray).size ≤ sizeLine + 1
    have z : (#[] ++ us.toArray).size = us.length := by simp
    rw [z]
    omega))
  refine wpAny_pure ?_
  have g2 := get?_update_seq (h := st.heap.push (seqObj "list" #[] 0)) g0 (fun xs => xs ++ us.toArray)
  show wpAny (model P0 w0) A0 (load st.heap.objs.size >>= fun o => match o.data with | .seq xs _ => pure xs.toList | _ => unsupported "internal:collect") Q0 E0 { st with heap := (st.heap.push (seqObj "list" #[] 0)).update st.heap.objs.size (Obj.mapSeq (· ++ us.toArray)) }
  refine wpAny_bind (wpAny_load g2 ?_)
  have e : ((#[] : Array Value) ++ us.toArray).toList = us := by simp
  show wpAny (model P0 w0) A0 (pure ((#[] : Array Value) ++ us.toArray).toList) Q0 E0 _
  rw [e]
  exact wpAny_pure q
theorem sorted_intsT {t : Addr} {us : List Value} {ks : List Int} {Q0 : Value → Shared → Prop} (ht : st.heap.IsTuple t us.toArray) (hi : IntsAre us ks) (h64 : us.length < 64)
    (q : ∀ (zs : Array Value) (ks' : List Int), IntsAre zs.toList ks' → ks'.Perm ks → ks'.Pairwise (· ≤ ·) → Q0 (.ref (st.heap.objs.size + 1)) { st with heap := sortedAll st.heap us zs }) :
    wpAny (model P0 w0) A0 (call (.builtin "sorted") [.ref t]) Q0 E0 st := by
  refine Calls.call_function_entry kind_sorted plain_sorted entry_sorted (args_sorted1 _) ?_
  unfold Builtin.«sorted»
  refine wpAny_bind (m := checkCount "sorted" 1 1 _) (wpAny_pure (wpAny_bind (collect_tup ht (by rw [sizeLine_eq]; omega) (wpAny_bind (wpAny_newList ?_)))))
  obtain ⟨h1, eh1⟩ : ∃ h1, h1 = (st.heap.push (seqObj "list" #[] 0)).update st.heap.objs.size (Obj.mapSeq (· ++ us.toArray)) := ⟨_, rfl⟩
  have n1 : h1.objs.size = st.heap.objs.size + 1 := by
    rw [eh1, Heap.size_update, size_push']
  have g3 : (h1.push (seqObj "list" us.toArray 0)).get? (st.heap.objs.size + 1) = some (seqObj "list" us.toArray 0) := by
    rw [← n1]
    exact Heap.get?_push_size _ rfl
  have fin : wpAny (model P0 w0) A0.in1 (holding [.ref (st.heap.objs.size + 1)] (call (.builtin "list.sort") [.ref (st.heap.objs.size + 1)] []) >>= fun _ => ret (.ref (st.heap.objs.size + 1))) (fun v s' => ∃ w', v = .done (.ret w') ∧ Q0 w' s') E0 { st with heap := h1.push (seqObj "list" us.toArray 0) } := by
    refine wpAny_bind (wpAny_holding (wpAny_call_entry slot_list_sort ⟨_, g3, rfl⟩ entry_list_sort (list_sort_tree g3 hi h64 fun zs ks' a b c => ⟨_, rfl, ?_⟩) (args_list_sort _)))
    refine wpAny_pure ⟨_, rfl, ?_⟩
    have z := q zs ks' a b c
    rw [eh1]
    exact z
  have fin' := fin
  rw [← n1] at fin'
  rw [eh1] at fin'
  exact fin'
end
def rSortTI (K : PySem.W.Frag) : List V → Hp → VK → Prop := fun vs H Q => ∃ (a : Addr) (ns : List Int), vs = [V.ref a] ∧ SqT K H a (ns.map V.int) ∧ ns.length < 64 ∧ ∀ (ms : List Int) (p : Addr), ms.Perm ns → ms.Pairwise (· ≤ ·) → H p = none → Q (.ref p) (upd H p (.lst (ms.map V.int)))
theorem cr_sortedTI {X : Cx} : CallR X (.builtin "sorted") (rSortTI X.K) := by
  intro pins s σ H vs us Q I r h
  obtain ⟨a, ns, rfl, hs, h64, q⟩ := h
  obtain ⟨its, rv, hl, _⟩ := I.tuple hs
  rw [Vals.ref1 r]
  have hi := rv.ints
  refine sorted_intsT hl hi (by rw [hi.length]; exact h64) fun out ms h1 h2 h3 => ?_
  obtain ⟨ep, e⟩ := sortedAll_at s.heap its out
  have hz : (ms.map V.int).length ≤ sizeLine := by
    rw [List.length_map, h2.length_eq]
    exact small64 h64
  exact ⟨.ref _, upd H (s.heap.objs.size + 1) (.lst (ms.map V.int)), I.laid (t' := s.toks) (fun _ _ => sortedAll_old) (Nat.le_succ _) ⟨hz, out.toList, ep, vals_of_ints h1, e⟩, rfl, q ms _ h2 h3 (I.hok.fresh (Nat.le_succ _))⟩
end Bb
set_option Elab.async false
set_option linter.all false
set_option maxRecDepth 100000
set_option maxHeartbeats 4000000
namespace K16
open PySem PySem.Spec PyProof.Rows L2 Bb

/-! the text by places -/
def top (i : Nat) : Stmt := PySem.Challenge.pw_bestsbook_k16_whole_ages_and_classes.main.body.getD i (.Pass ⟨0, 0, 0, 0⟩)
abbrev sIsNum : Stmt := top 11
abbrev sFrom : Stmt := top 12
abbrev sIsName : Stmt := top 13
abbrev sIsDay : Stmt := top 14
abbrev sIsWind : Stmt := top 15
abbrev sIsTeam : Stmt := top 25
abbrev sAre : Stmt := top 21
abbrev sCell : Stmt := top 28
abbrev sPen : Stmt := top 29
abbrev sDraw : Stmt := top 30
abbrev sPick : Stmt := top 31
abbrev sTerms : Stmt := top 32
abbrev sMade : Stmt := top 33
abbrev sClsRight : Stmt := top 34
abbrev sLaw : Stmt := top 35
abbrev sPInit : Stmt := inClass (top 26) 0
abbrev sPEq : Stmt := inClass (top 26) 1
abbrev sPStr : Stmt := inClass (top 26) 2
abbrev sPRepr : Stmt := inClass (top 26) 3
abbrev sPParts : Stmt := inClass (top 26) 4
abbrev sPAge : Stmt := inClass (top 26) 5
abbrev sInit : Stmt := inClass (top 22) 0
abbrev sEq : Stmt := inClass (top 22) 1
abbrev sLen : Stmt := inClass (top 22) 2
abbrev sRepr : Stmt := inClass (top 22) 3
abbrev sCls : Stmt := inClass (top 22) 4
abbrev Fn (K : PySem.W.Frag) (x q : Str) (st : Stmt) (f : Addr) (fd : FuncData) : Prop := FunD K x q (defArgs st) (defBody st) (defScope st) [] [] f fd

/-! things of any kind, as the law makes them -/
inductive Th (H : Hp) : V → Prop where
  | non : Th H .non
  | bl (b : Bool) : Th H (.bl b)
  | int (i : Int) : Th H (.int i)
  | str (z : Str) : Th H (.str z)
  | lst {a : Addr} {xs : List V} (h : H a = some (.lst xs)) : Th H (.ref a)
  | tup {a : Addr} {xs : List V} (h : H a = some (.tup xs)) : Th H (.ref a)
  | dic {a : Addr} {kvs : List (Key × V)} (h : H a = some (.dK kvs)) : Th H (.ref a)
def isNum : V → Bool
  | .int _ => true
  | _ => false
def numIn (lo hi : Int) : V → Bool
  | .int i => decide (lo ≤ i) && decide (i ≤ hi)
  | _ => false
def anInt : V → Bool
  | .int _ => true
  | .bl _ => true
  | _ => false
def aBool : V → Bool
  | .bl _ => true
  | _ => false
theorem kt {a b : String} {r r' : Bool} (h : kitB a b = some r) (e : r = r') : kitB a b = some r' := by
  rw [← e]
  exact h
theorem Th.ty {K : PySem.W.Frag} {H : Hp} {x : V} (h : Th H x) : ∃ n, TyX K H x (.type n) ∧ kitB n "int" = some (anInt x) ∧ kitB n "bool" = some (aBool x) := by
  cases h with
  | non => exact ⟨_, .base .non, kt (r := false) (by decide +kernel) rfl, kt (r := false) (by decide +kernel) rfl⟩
  | bl b => exact ⟨_, .base (.bl b), kt (r := true) (by decide +kernel) rfl, kt (r := true) (by decide +kernel) rfl⟩
  | int i => exact ⟨_, .base (.int i), kt (r := true) (by decide +kernel) rfl, kt (r := false) (by decide +kernel) rfl⟩
  | str z => exact ⟨_, .base (.str z), kt (r := false) (by decide +kernel) rfl, kt (r := false) (by decide +kernel) rfl⟩
  | lst h => exact ⟨_, .base (.lst h), kt (r := false) (by decide +kernel) rfl, kt (r := false) (by decide +kernel) rfl⟩
  | tup h => exact ⟨_, .base (.tup h), kt (r := false) (by decide +kernel) rfl, kt (r := false) (by decide +kernel) rfl⟩
  | dic h => exact ⟨_, .base (.dK h), kt (r := false) (by decide +kernel) rfl, kt (r := false) (by decide +kernel) rfl⟩
/-- the built-in names are nobody else's -/
structure Free (mg : Str → Option Value) : Prop where
  isi : mg "isinstance" = none
  int_ : mg "int" = none
  bool_ : mg "bool" = none
  tup_ : mg "tuple" = none
  list_ : mg "list" = none
  str_ : mg "str" = none
  len_ : mg "len" = none
  all_ : mg "all" = none
  rng_ : mg "range" = none
  enu_ : mg "enumerate" = none
  rep_ : mg "repr" = none
  min_ : mg "min" = none
  max_ : mg "max" = none
  srt_ : mg "sorted" = none
  zip_ : mg "zip" = none
  ve_ : mg "ValueError" = none
  le_ : mg "LookupError" = none

/-! is_number, is_number_from, _law_number -/
def spIsNum : Sp := fun vs H Q _ => ∃ x, vs = [x] ∧ Th H x ∧ Q (.bl (isNum x)) H
def spFrom : Sp := fun vs H Q _ => ∃ x lo hi, vs = [x, .int lo, .int hi] ∧ Th H x ∧ Q (.bl (numIn lo hi x)) H
section
variable {P : Program} {w : World} {K : PySem.W.Frag} {mg : Str → Option Value} {base : Heap} {f : Addr} {fd : FuncData}
theorem scIsNum : FnScope ["thing"] ["thing"] (defScope sIsNum) := ⟨rfl, rfl, rfl, by decide +kernel, rfl, by decide +kernel, by decide +kernel⟩
theorem ok_isnum (F : Fn K "is_number" "is_number" sIsNum f fd) (T : Free mg) : FnOk P w K mg base L2.CX0 1 f fd ["thing"] spIsNum := by
  refine F.ok scIsNum (fun vs H Q E h => ?_) (fun cdv A outer s H vs Q E hr h => ?_)
  · obtain ⟨x, rfl, _⟩ := h
    rfl
  · obtain ⟨x, rfl, hx, q⟩ := h
    obtain ⟨n, ty, k1, k2⟩ := hx.ty (K := K)
    refine ⟨_, PSs.nox (pss_one (ps_ret (pe_and (pe_callB call_isi rfl T.isi boot_isinstance (pa_cons (pv 0) (pa_cons (pe_bltn rfl T.int_ (by decide +kernel) (v := .ty "int") rfl) pa_nil)))
      (pe_one (pe_not (pe_callB call_isi rfl T.isi boot_isinstance (pa_cons (pv 0) (pa_cons (pe_bltn rfl T.bool_ (by decide +kernel) (v := .ty "bool") rfl) pa_nil)))))))), ?_⟩
    refine ⟨x, rfl, _, _, _, _, _, rfl, .ty "int", ty, kit_ty k1, _, rfl, ?_⟩
    cases x with
    | int i => exact ⟨_, rfl, _, _, _, _, _, rfl, .ty "bool", ty, kit_ty k2, _, rfl, q⟩
    | bl b => exact ⟨_, rfl, _, _, _, _, _, rfl, .ty "bool", ty, kit_ty k2, _, rfl, q⟩
    | _ => exact q
theorem scFrom : FnScope ["thing", "least", "most"] ["thing", "least", "most"] (defScope sFrom) := ⟨rfl, rfl, rfl, by decide +kernel, rfl, by decide +kernel, by decide +kernel⟩
theorem ok_from {fN : Addr} {fdN : FuncData} (F : Fn K "is_number_from" "is_number_from" sFrom f fd) (FN : Fn K "is_number" "is_number" sIsNum fN fdN) (gN : mg "is_number" = some (.ref fN)) (T : Free mg) : FnOk P w K mg base L2.CX0 2 f fd ["thing", "least", "most"] spFrom := by
  have GN : FnOk P w K mg base L2.CX0 1 fN fdN ["thing"] spIsNum := ok_isnum FN T
  have bN : Binds K fdN ["thing"] [] := FN.bindsN fun _ _ _ _ _ _ us hl => match us, hl with | [_], _ => rfl
  refine F.ok scFrom (fun vs H Q E h => ?_) (fun cdv A outer s H vs Q E hr h => ?_)
  · obtain ⟨x, lo, hi, rfl, _⟩ := h
    rfl
  · obtain ⟨x, lo, hi, rfl, hx, q⟩ := h
    refine ⟨_, PSs.nox (pss_one (ps_ret (pe_and (pe_call GN hr rfl gN FN.kp bN .nil pass0 (pa_cons (pv 0) pa_nil)) (pe_one (pe_chain op_le op_le (pv 1) (pv 0) (pv 2)))))), ?_⟩
    refine ⟨x, rfl, x, rfl, hx, _, rfl, ?_⟩
    cases x with
    | int i =>
      refine ⟨_, rfl, _, rfl, _, _, rfl, rfl, _, rfl, ?_⟩
      refine ite2 (fun c => ?_) (fun c => ?_)
      · refine ⟨_, rfl, _, _, rfl, rfl, ?_⟩
        have e : numIn lo hi (.int i) = decide (i ≤ hi) := by
          show (decide (lo ≤ i) && decide (i ≤ hi)) = _
          rw [c, Bool.true_and]
        rw [e] at q
        exact q
      · have e : numIn lo hi (.int i) = false := by
          show (decide (lo ≤ i) && decide (i ≤ hi)) = _
          rw [Bool.eq_false_iff.mpr c, Bool.false_and]
        rw [e] at q
        exact q
    | _ => exact q
end
end K16
set_option Elab.async false
set_option linter.all false
set_option maxRecDepth 100000
set_option maxHeartbeats 4000000
namespace K16
open PySem PySem.Spec PyProof.Rows L2 Bb
theorem same_upd {H H' : Hp} {D : Addr} {o : HO} (s : Same H H') (hD : H D = none) : Same H (upd H' D o) := fun b u e => by
  rw [upd_ne (ne_of_none e hD)]
  exact s b u e
theorem sqt_same {K : PySem.W.Frag} {H H' : Hp} {a : Addr} {xs : List V} (h : SqT K H a xs) (s : Same H H') : SqT K H' a xs := h.ext s
theorem sql_same {K : PySem.W.Frag} {H H' : Hp} {a : Addr} {xs : List V} (h : SqL K H a xs) (s : Same H H') : SqL K H' a xs := h.ext s
theorem get_map {ns : List Int} {i : Nat} {x : V} (h : (ns.map V.int)[i]? = some x) : ∃ n, ns[i]? = some n ∧ x = .int n := by
  rw [List.getElem?_map] at h
  cases e : ns[i]? with
  | none =>
    rw [e] at h
    cases h
  | some n =>
    rw [e] at h
    exact ⟨n, rfl, (Option.some.inj h).symm⟩
/-- a constant of the module -/
def IsI (mg : Str → Option Value) (x : Str) (i : Int) : Prop := ∃ t, mg x = some (.int i t)
theorem pe_k {X : Cx} {x : Str} {i : Int} {pos : Pos} (h : IsI X.mg x i) (hg : Gl X x) (hd : (x == ("__debug__" : Str)) = false := by decide) : PE X (.Name x pos) (tC (.int i)) := by
  obtain ⟨t, e⟩ := h
  exact pe_glob hg e ⟨t, rfl⟩ hd
structure ErrT (K : PySem.W.Frag) (mg : Str → Option Value) (x : Str) (C : Addr) : Prop where
  g : mg x = some (.ref C)
  ex : PySem.W.excIn K C He.veBase "ValueError.__new__" = true
  kp : PySem.W.keepIn K (.ref C) = true
  sb : PySem.W.subIn K (.ref C) (.type "BaseException") = some true
  ty : PySem.W.typeIn K (.ref C) = some (.type "type")
/-- a text of the module -/
def IsS (mg : Str → Option Value) (x z : Str) : Prop := ∃ t, mg x = some (.str z t)
theorem pe_kS {X : Cx} {x z : Str} {pos : Pos} (h : IsS X.mg x z) (hg : Gl X x) (hd : (x == ("__debug__" : Str)) = false := by decide) : PE X (.Name x pos) (tC (.str z)) := by
  obtain ⟨t, e⟩ := h
  exact pe_glob hg e ⟨t, rfl⟩ hd
abbrev letters : Str := "abcdefghijklmnopqrstuvwxyz"
structure Cons (mg : Str → Option Value) : Prop where
  mostL : IsI mg "MOST_LIMITS" 4
  least : IsI mg "LEAST_LIMIT" 1
  most : IsI mg "MOST_LIMIT" 99
  wind : IsI mg "MOST_WIND" 99
  age : IsI mg "MOST_AGE" 300
  day : IsI mg "MOST_DAY" 40000
  year : IsI mg "DAYS_OF_A_YEAR" 365
  long : IsI mg "LONGEST_NAME" 8
  lett : IsS mg "LETTERS" letters
end K16
set_option Elab.async false
set_option linter.all false
set_option maxRecDepth 100000
set_option maxHeartbeats 4000000
namespace K16
open PySem PySem.Spec PyProof.Rows L2 Bb
/-! limits that are in order; the classes of an age, reckoned twice -/
structure OkL (ns : List Int) : Prop where
  len : ns.length ≤ 4
  rng : ∀ n ∈ ns, 1 ≤ n ∧ n ≤ 99
  up : ns.Pairwise (· < ·)
def fst (ns : List Int) (age : Int) : Nat := (ns.filter fun n => decide (n ≤ age)).length
/-- the program's way -/
def clsP (ns : List Int) (up : Bool) (age : Int) : List Int :=
  if up = true then (List.range ((ns.length + 1 : Int) - (fst ns age : Int)).toNat).map fun i => (fst ns age : Int) + (i : Nat) else [(fst ns age : Int)]
/-- the law's way -/
def stepC (up : Bool) (age : Int) (f : List Int) (p : Int × Nat) : List Int := if age < p.1 ∧ (up = true ∨ f = []) then f ++ [(p.2 : Int)] else f
def clsL (bars : List Int) (up : Bool) (age : Int) : List Int := bars.zipIdx.foldl (stepC up age) []
theorem low_part {up : Bool} {age : Int} : ∀ (l : List Int) (k : Nat) (f : List Int), (∀ b ∈ l, b ≤ age) → (l.zipIdx k).foldl (stepC up age) f = f
  | [], _, _, _ => rfl
  | b :: l, k, f, h => by
    have h1 := h b List.mem_cons_self
    rw [List.zipIdx_cons, List.foldl_cons]
    have e : stepC up age f (b, k) = f := by
      unfold stepC
      rw [if_neg]
      intro z
      have := z.1
      dsimp only at this
      omega
    rw [e]
    exact low_part l (k + 1) f fun x hx => h x (List.mem_cons_of_mem _ hx)
theorem high_up {age : Int} : ∀ (l : List Int) (k : Nat) (f : List Int), (∀ b ∈ l, age < b) → (l.zipIdx k).foldl (stepC true age) f = f ++ (List.range l.length).map fun i => (k : Int) + (i : Nat)
  | [], k, f, _ => by simp
  | b :: l, k, f, h => by
    have h1 := h b List.mem_cons_self
    rw [List.zipIdx_cons, List.foldl_cons]
    have e : stepC true age f (b, k) = f ++ [(k : Int)] := by
      unfold stepC
      rw [if_pos ⟨h1, .inl rfl⟩]
    rw [e, high_up l (k + 1) _ fun x hx => h x (List.mem_cons_of_mem _ hx)]
    rw [List.length_cons, List.range_succ_eq_map, List.map_cons, List.map_map, List.append_assoc]
    congr 1
    rw [List.singleton_append]
    congr 1
    simp
    intro a _
    omega
theorem high_one {age : Int} : ∀ (l : List Int) (k : Nat) (f : List Int), f ≠ [] → (l.zipIdx k).foldl (stepC false age) f = f
  | [], _, _, _ => rfl
  | b :: l, k, f, h => by
    rw [List.zipIdx_cons, List.foldl_cons]
    have e : stepC false age f (b, k) = f := by
      unfold stepC
      rw [if_neg]
      intro z
      rcases z.2 with q | q
      · cases q
      · exact h q
    rw [e]
    exact high_one l (k + 1) f h
theorem split_at {age : Int} : ∀ (ns : List Int), ns.Pairwise (· < ·) → ns = (ns.take (fst ns age)) ++ (ns.drop (fst ns age)) ∧ (∀ b ∈ ns.take (fst ns age), b ≤ age) ∧ ∀ b ∈ ns.drop (fst ns age), age < b
  | [], _ => ⟨rfl, fun _ h => by simp at h, fun _ h => by simp at h⟩
  | b :: l, h => by
    refine ⟨(List.take_append_drop _ _).symm, ?_⟩
    obtain ⟨h1, h2⟩ := List.pairwise_cons.mp h
    by_cases c : b ≤ age
    · have e : fst (b :: l) age = fst l age + 1 := by
        unfold fst
        rw [List.filter_cons, if_pos (decide_eq_true c), List.length_cons]
      obtain ⟨_, i1, i2⟩ := split_at (age := age) l h2
      rw [e]
      refine ⟨?_, ?_⟩
      · intro x hx
        rw [List.take_succ_cons] at hx
        rcases List.mem_cons.mp hx with q | q
        · omega
        · exact i1 x q
      · intro x hx
        rw [List.drop_succ_cons] at hx
        exact i2 x hx
    · have all : ∀ x ∈ b :: l, age < x := by
        intro x hx
        rcases List.mem_cons.mp hx with q | q
        · omega
        · have := h1 x q
          omega
      have e : fst (b :: l) age = 0 := by
        unfold fst
        rw [List.length_eq_zero_iff, List.filter_eq_nil_iff]
        intro x hx
        have := all x hx
        simp
        omega
      rw [e]
      exact ⟨fun x hx => by simp at hx, fun x hx => all x (by simpa using hx)⟩
theorem fst_le (ns : List Int) (age : Int) : fst ns age ≤ ns.length := List.length_filter_le _ _
theorem cls_eq {ns : List Int} (ok : OkL ns) (up : Bool) {age : Int} (ha : age ≤ 300) : clsL (ns ++ [1000]) up age = clsP ns up age := by
  obtain ⟨e, lo, hi⟩ := split_at (age := age) ns ok.up
  have fl := fst_le ns age
  unfold clsL
  have e2 : ns ++ [1000] = ns.take (fst ns age) ++ (ns.drop (fst ns age) ++ [1000]) := by
    rw [← List.append_assoc, ← e]
  have hi2 : ∀ b ∈ ns.drop (fst ns age) ++ [1000], age < b := by
    intro b hb
    rcases List.mem_append.mp hb with q | q
    · exact hi b q
    · have : b = 1000 := by simpa using q
      omega
  rw [e2, List.zipIdx_append, List.foldl_append, low_part _ _ _ lo]
  have lt : (ns.take (fst ns age)).length = fst ns age := by
    rw [List.length_take]
    omega
  rw [lt]
  unfold clsP
  cases up with
  | true =>
    rw [if_pos rfl, high_up _ _ _ hi2]
    have l2 : (ns.drop (fst ns age) ++ [1000]).length = ((ns.length + 1 : Int) - (fst ns age : Int)).toNat := by
      rw [List.length_append, List.length_drop, List.length_singleton]
      omega
    rw [l2]
    simp
  | false =>
    rw [if_neg Bool.false_ne_true]
    generalize ns.drop (fst ns age) = d at hi2 ⊢
    cases d with
    | nil =>
      have h1 := hi2 1000 (by simp)
      simp [stepC, h1]
    | cons x d =>
      have h1 := hi2 x (by simp)
      rw [List.cons_append, List.zipIdx_cons, List.foldl_cons]
      have e3 : stepC false age [] (x, 0 + fst ns age) = [((0 + fst ns age : Nat) : Int)] := by
        unfold stepC
        rw [if_pos ⟨h1, .inr rfl⟩]
        rfl
      rw [e3, high_one _ _ _ (by simp)]
      simp
theorem clsP_len {ns : List Int} (ok : OkL ns) (up : Bool) (age : Int) : (clsP ns up age).length ≤ 5 := by
  have := ok.len
  unfold clsP
  split
  · rw [List.length_map, List.length_range]
    omega
  · simp
theorem clsP_rng {ns : List Int} (ok : OkL ns) (up : Bool) (age : Int) : ∀ z ∈ clsP ns up age, 0 ≤ z ∧ z ≤ 4 := by
  have h1 := ok.len
  have h2 := fst_le ns age
  intro z hz
  unfold clsP at hz
  split at hz
  · obtain ⟨i, hi, rfl⟩ := List.mem_map.mp hz
    have := List.mem_range.mp hi
    omega
  · have : z = (fst ns age : Int) := by simpa using hz
    omega
end K16
set_option Elab.async false
set_option linter.all false
set_option maxRecDepth 100000
set_option maxHeartbeats 4000000
namespace K16
open PySem PySem.Spec PyProof.Rows L2 Bb
def spAre (K : PySem.W.Frag) : Sp := fun vs H Q _ => ∃ a ns, vs = [.ref a] ∧ H a = some (.tup (ns.map V.int)) ∧ OkL ns ∧ ∀ H', Same H H' → Q (.bl true) H'
section
variable {P : Program} {w : World} {K : PySem.W.Frag} {mg : Str → Option Value} {base : Heap} {f : Addr} {fd : FuncData}
theorem scAre : FnScope ["thing", "limit", "ahead", "behind"] ["thing"] (defScope sAre) := ⟨rfl, rfl, rfl, by decide +kernel, rfl, by decide +kernel, by decide +kernel⟩
theorem rising_at {ns : List Int} (h : ns.Pairwise (· < ·)) {i : Nat} {x y : Int} (hx : ns[i]? = some x) (hy : (ns.drop 1)[i]? = some y) : x < y := by
  rw [List.getElem?_drop] at hy
  obtain ⟨h1, rfl⟩ := List.getElem?_eq_some_iff.mp hx
  obtain ⟨h2, rfl⟩ := List.getElem?_eq_some_iff.mp hy
  exact List.pairwise_iff_getElem.mp h _ _ _ _ (by omega)
theorem ok_are {fF fN : Addr} {fdF fdN : FuncData} (F : Fn K "are_limits" "are_limits" sAre f fd) (FF : Fn K "is_number_from" "is_number_from" sFrom fF fdF) (gF : mg "is_number_from" = some (.ref fF)) (FN : Fn K "is_number" "is_number" sIsNum fN fdN) (gN : mg "is_number" = some (.ref fN)) (T : Free mg) (C : Cons mg) :
    FnOk P w K mg base L2.CX0 3 f fd ["thing"] (spAre K) := by
  have GF : FnOk P w K mg base L2.CX0 2 fF fdF ["thing", "least", "most"] spFrom := ok_from FF FN gN T
  have bF : Binds K fdF ["thing", "least", "most"] [] := FF.bindsN fun _ _ _ _ _ _ us hl => match us, hl with | [_, _, _], _ => rfl
  refine F.ok scAre (fun vs H Q E h => ?_) (fun cdv A outer s H vs Q E hr h => ?_)
  · obtain ⟨a, ns, rfl, _⟩ := h
    rfl
  · obtain ⟨a, ns, rfl, ha, ok, q⟩ := h
    refine ⟨_, PSs.nox (pss_cons (ps_if (PW.pt (pw_or (pt_not (pt_val (pe_callB call_isi rfl T.isi boot_isinstance (pa_cons (pv 0) (pa_cons (pe_bltn rfl T.tup_ (by decide +kernel) (v := .ty "tuple") rfl) pa_nil)))))
        (pw_or1 (pt_cmpR op_gt (pe_callB call_len_seq rfl T.len_ boot_len (pa_cons (pv 0) pa_nil)) (pe_k C.mostL rfl) (nomark _))))) (pss_one (ps_ret pe_bl)) pss_nil)
      (pss_cons (ps_if (pt_not (pt_val (pe_callB (cr_all rfl) rfl T.all_ (by decide +kernel) (pa_cons (pe_lc (own := [("limit", 1)]) (g := gName 1) (tt := tYes) rfl scAre.nd (pi_tup (pv 0)) (blkOk_by (N := ["thing", "limit", "ahead", "behind"]) (sc := defScope sAre) (by decide +kernel)) (fun _ _ _ _ _ => pg_name (i := 1) scAre.nd rfl (Or.inl rfl)) (fun _ _ _ _ _ => pts_nil)
          (fun _ _ _ _ _ => pe_call GF hr rfl gF FF.kp bF .nil pass0 (pa_cons (pv 1) (pa_cons (pe_k C.least rfl) (pa_cons (pe_k C.most rfl) pa_nil))))) pa_nil)))) (pss_one (ps_ret pe_bl)) pss_nil)
      (pss_one (ps_ret (pe_callB (cr_all rfl) rfl T.all_ (by decide +kernel) (pa_cons (pe_lc (own := [("ahead", 2), ("behind", 3)]) (g := gTup K 2 (gCons (gName 2) (gCons (gName 3) gNil))) (tt := tYes) rfl scAre.nd (RZ.pi_zipA (by rfl) T.zip_ (pa_cons (pv 0) (pa_cons (pe_slice sl_tupA (pv 0) (po_some pe_int) po_none) pa_nil))) (blkOk_by (N := ["thing", "limit", "ahead", "behind"]) (sc := defScope sAre) (by decide +kernel))
          (fun _ _ _ _ _ => pg_tup rfl (pgs_cons (pg_name (i := 2) scAre.nd rfl (Or.inl rfl) (Or.inr rfl)) (pgs_cons (pg_name (i := 3) scAre.nd rfl (Or.inl rfl) (Or.inr rfl)) pgs_nil))) (fun _ _ _ _ _ => pts_nil)
          (fun _ _ _ _ _ => pe_cmpR op_lt (pv 2) (pv 3) (nomark _))) pa_nil)))))), ?_⟩
    -- isinstance, len
    refine ⟨_, rfl, _, _, _, _, _, rfl, .ty "tuple", .base (.tup ha), kit_ty (r := true) (by decide +kernel), _, rfl, ?_⟩
    refine iteF ?_
    refine ⟨_, rfl, a, _, rfl, .inr (SqT.of ha), _, _, rfl, rfl, _, rfl, ?_⟩
    have hlen := ok.len
    have e1 : decide ((4 : Int) < (((ns.map V.int).length : Nat) : Int)) = false := decide_eq_false (by rw [List.length_map]; omega)
    show if decide ((4 : Int) < (((ns.map V.int).length : Nat) : Int)) = true then _ else _
    rw [e1]
    refine iteF ?_
    -- each by itself
    refine ⟨_, rfl, a, rfl, ⟨_, SqT.of ha⟩, fun D hD => lc_tup (K := K) (a := a) (xs := ns.map V.int) (fun i H' => Same H H' ∧ H' D = some (.lst ((List.replicate i true).map V.bl))) ⟨same_upd (Same.refl H) hD, upd_same⟩ (fun i H' _ p => sqt_same (SqT.of ha) p.1) ?_ ?_⟩
    · rintro i x H' hx ⟨sm, acc⟩
      obtain ⟨n, hn, rfl⟩ := get_map hx
      refine ⟨rfl, ?_⟩
      unfold tYes
      dsimp only
      rw [if_pos rfl]
      have rg := ok.rng n (List.mem_of_getElem? hn)
      have li := (List.getElem?_eq_some_iff.mp hn).1
      refine ⟨_, rfl, .int n, 1, 99, rfl, .int n, ?_⟩
      refine ⟨_, acc, small1000 (by simp; omega), same_upd sm hD, ?_⟩
      have e2 : numIn 1 99 (.int n) = true := by
        show (decide (1 ≤ n) && decide (n ≤ 99)) = true
        simp [rg.1, rg.2]
      rw [upd_same, e2, List.replicate_succ', List.map_append]
      rfl
    rintro H1 ⟨sm, acc⟩
    refine ⟨D, _, rfl, SqL.of acc, _, rfl, ?_⟩
    have e3 : (List.replicate (ns.map V.int).length true).all id = true := by simp
    rw [e3]
    refine iteF ?_
    -- rising
    have ha1 := sm a _ ha
    refine ⟨_, rfl, _, rfl, _, rfl, a, _, rfl, SqT.of ha1, ?_, ?_⟩
    · -- the slice is the whole: none
      intro wh
      have z : HT.sIx (ns.map V.int).length 0 (some ((1 : Nat) : Int)) = 0 := wh.1
      rw [HT.sIx_nat, List.length_map] at z
      have nil : ns = [] := List.length_eq_zero_iff.mp (by omega)
      obtain ⟨H2, eH⟩ : ∃ H2, H2 = H1 := ⟨_, rfl⟩
      have smz : Same H1 H2 := by
        rw [eH]
        exact Same.refl H1
      have ha2 : H2 a = some (.tup (ns.map V.int)) := smz a _ ha1
      have hb : SqT K H2 a ((ns.drop 1).map V.int) := by
        rw [nil] at ha2 ⊢
        exact SqT.of ha2
      rw [← eH]
      refine ⟨a, a, _, _, rfl, .inr ⟨SqT.of ha2, hb, fun D2 hD2 => lc_it (walk_zipT (xs := ns.map V.int) (ys := (ns.drop 1).map V.int) (n := (ns.drop 1).length) (by simp only [List.length_map, List.length_drop]; omega)) (fun i H' => Same H2 H' ∧ H' D2 = some (.lst ((List.replicate i true).map V.bl))) ⟨same_upd (Same.refl H2) hD2, upd_same⟩ (fun i H' _ p => ⟨sqt_same (SqT.of ha2) p.1, sqt_same hb p.1⟩) ?_ ?_⟩⟩
      · rintro i x H3 H4 hi ⟨sm3, acc3⟩ ⟨Tp, u, v, rfl, hT, rfl, hu, hv⟩
        obtain ⟨n, hn, rfl⟩ := get_map hu
        obtain ⟨m, hm, rfl⟩ := get_map hv
        have lt := rising_at ok.up hn hm
        have li : i < 4 := by
          have := (List.getElem?_eq_some_iff.mp hn).1
          omega
        refine ⟨Tp, _, rfl, SqT.of upd_same, rfl, _, _, rfl, _, _, rfl, ⟨rfl, rfl, ?_⟩⟩
        unfold tYes
        dsimp only
        rw [if_pos rfl]
        refine ⟨_, rfl, _, rfl, _, _, rfl, rfl, ?_⟩
        have nT : D2 ≠ Tp := ne_of_none acc3 hT
        refine ⟨_, by rw [upd_ne nT]; exact acc3, small1000 (by simp; omega), same_upd (same_upd sm3 (Same.free sm3 hT)) hD2, ?_⟩
        have e4 : decide (n < m) = true := decide_eq_true lt
        rw [upd_same, List.replicate_succ', List.map_append]
        dsimp only
        rw [e4]
        rfl
      · rintro H3 ⟨sm3, acc3⟩
        refine ⟨D2, _, rfl, SqL.of acc3, ?_⟩
        have e5 : (List.replicate (ns.drop 1).length true).all id = true := by simp
        rw [e5]
        exact q H3 (sm.trans (smz.trans sm3))
    · intro wh p hp
      obtain ⟨H2, eH⟩ : ∃ H2, H2 = upd H1 p (.tup (cutV (ns.map V.int) (some 1) none)) := ⟨_, rfl⟩
      have smz : Same H1 H2 := by
        rw [eH]
        exact same_upd (Same.refl H1) hp
      have ha2 : H2 a = some (.tup (ns.map V.int)) := smz a _ ha1
      have cut : cutV (ns.map V.int) (some 1) none = (ns.drop 1).map V.int := by
        unfold cutV
        rw [show (some (1 : Int)) = some ((1 : Nat) : Int) from rfl, HT.sIx_nat, HT.sIx_none, List.map_drop]
        rw [List.take_of_length_le (by first | (simp; done) | (simp; omega))]
        by_cases h1 : 1 ≤ (ns.map V.int).length
        · rw [Nat.min_eq_left h1]
        · have nil : ns.map V.int = [] := List.length_eq_zero_iff.mp (by omega)
          rw [nil]
          rfl
      have hb : SqT K H2 p ((ns.drop 1).map V.int) := by
        rw [eH, cut]
        exact SqT.of upd_same
      rw [← eH]
      refine ⟨a, p, _, _, rfl, .inr ⟨SqT.of ha2, hb, fun D2 hD2 => lc_it (walk_zipT (xs := ns.map V.int) (ys := (ns.drop 1).map V.int) (n := (ns.drop 1).length) (by simp only [List.length_map, List.length_drop]; omega)) (fun i H' => Same H2 H' ∧ H' D2 = some (.lst ((List.replicate i true).map V.bl))) ⟨same_upd (Same.refl H2) hD2, upd_same⟩ (fun i H' _ p => ⟨sqt_same (SqT.of ha2) p.1, sqt_same hb p.1⟩) ?_ ?_⟩⟩
      · rintro i x H3 H4 hi ⟨sm3, acc3⟩ ⟨Tp, u, v, rfl, hT, rfl, hu, hv⟩
        obtain ⟨n, hn, rfl⟩ := get_map hu
        obtain ⟨m, hm, rfl⟩ := get_map hv
        have lt := rising_at ok.up hn hm
        have li : i < 4 := by
          have := (List.getElem?_eq_some_iff.mp hn).1
          omega
        refine ⟨Tp, _, rfl, SqT.of upd_same, rfl, _, _, rfl, _, _, rfl, ⟨rfl, rfl, ?_⟩⟩
        unfold tYes
        dsimp only
        rw [if_pos rfl]
        refine ⟨_, rfl, _, rfl, _, _, rfl, rfl, ?_⟩
        have nT : D2 ≠ Tp := ne_of_none acc3 hT
        refine ⟨_, by rw [upd_ne nT]; exact acc3, small1000 (by simp; omega), same_upd (same_upd sm3 (Same.free sm3 hT)) hD2, ?_⟩
        have e4 : decide (n < m) = true := decide_eq_true lt
        rw [upd_same, List.replicate_succ', List.map_append]
        dsimp only
        rw [e4]
        rfl
      · rintro H3 ⟨sm3, acc3⟩
        refine ⟨D2, _, rfl, SqL.of acc3, ?_⟩
        have e5 : (List.replicate (ns.drop 1).length true).all id = true := by simp
        rw [e5]
        exact q H3 (sm.trans (smz.trans sm3))
end
end K16
set_option Elab.async false
set_option linter.all false
set_option maxRecDepth 100000
set_option maxHeartbeats 4000000
namespace K16
open PySem PySem.Spec PyProof.Rows L2 Bb
/-! the class Rules: its attributes in the order of their stores -/
def flds (l : Addr) (up : Bool) (wd : Int) (sh : Bool) : List (Str × V) := putF "shares" (.bl sh) (putF "wind" (.int wd) (putF "up" (.bl up) (putF "limits" (.ref l) [])))
theorem k1 : ¬ (("limits" : Str) = "up") := by decide +kernel
theorem k2 : ¬ (("limits" : Str) = "wind") := by decide +kernel
theorem k3 : ¬ (("limits" : Str) = "shares") := by decide +kernel
theorem k4 : ¬ (("up" : Str) = "wind") := by decide +kernel
theorem k5 : ¬ (("up" : Str) = "shares") := by decide +kernel
theorem k6 : ¬ (("wind" : Str) = "shares") := by decide +kernel
section
variable (l : Addr) (up : Bool) (wd : Int) (sh : Bool)
theorem f_limits : (flds l up wd sh).lookup ("limits" : Str) = some (.ref l) := by
  unfold flds
  rw [lookup_putF, if_neg k3, lookup_putF, if_neg k2, lookup_putF, if_neg k1, lookup_putF, if_pos rfl]
theorem f_up : (flds l up wd sh).lookup ("up" : Str) = some (.bl up) := by
  unfold flds
  rw [lookup_putF, if_neg k5, lookup_putF, if_neg k4, lookup_putF, if_pos rfl]
theorem f_wind : (flds l up wd sh).lookup ("wind" : Str) = some (.int wd) := by
  unfold flds
  rw [lookup_putF, if_neg k6, lookup_putF, if_pos rfl]
theorem f_shares : (flds l up wd sh).lookup ("shares" : Str) = some (.bl sh) := by
  unfold flds
  rw [lookup_putF, if_pos rfl]
theorem f_no {m : Str} (h1 : ¬ m = "shares") (h2 : ¬ m = "wind") (h3 : ¬ m = "up") (h4 : ¬ m = "limits") : (flds l up wd sh).lookup m = none := by
  unfold flds
  rw [lookup_putF, if_neg h1, lookup_putF, if_neg h2, lookup_putF, if_neg h3, lookup_putF, if_neg h4]
  rfl
theorem f_len : (flds l up wd sh).length ≤ 4 := by
  unfold flds
  have a1 := length_putF "limits" (.ref l) []
  have a2 := length_putF "up" (.bl up) (putF "limits" (.ref l) [])
  have a3 := length_putF "wind" (.int wd) (putF "up" (.bl up) (putF "limits" (.ref l) []))
  have a4 := length_putF "shares" (.bl sh) (putF "wind" (.int wd) (putF "up" (.bl up) (putF "limits" (.ref l) [])))
  simp only [List.length_nil] at a1
  omega
end
structure RulesT (K : PySem.W.Frag) (mg : Str → Option Value) (C : Addr) : Prop where
  cl : Cls K C
  nL : NoAttr K C "limits"
  nU : NoAttr K C "up"
  nW : NoAttr K C "wind"
  nS : NoAttr K C "shares"
  gC : mg "Rules" = some (.ref C)
  ha : PySem.W.findIn K (.ref C) "__class__" = some (some (.builtin "object.__class__"))
  hn : PySem.W.specialIn K (.builtin "object.__class__") "__get__" = some (some (.builtin "getset_descriptor.__get__"))
  ht : PySem.W.takesIn K (.builtin "object.__class__") = some true
  hm : PySem.W.mroIn K C (.type "object") = some true
  kit : PySem.W.kitOne K (.ref C) (.ref C) = some true
/-- rules at p: the instance, its tuple of limits -/
structure At (C : Addr) (H : Hp) (p l : Addr) (ns : List Int) (up : Bool) (wd : Int) (sh : Bool) : Prop where
  ob : ∃ dx, H p = some (.ins C dx (flds l up wd sh))
  li : H l = some (.tup (ns.map V.int))
  ok : OkL ns
theorem At.same {C : Addr} {H H' : Hp} {p l : Addr} {ns : List Int} {up : Bool} {wd : Int} {sh : Bool} (a : At C H p l ns up wd sh) (s : Same H H') : At C H' p l ns up wd sh := by
  obtain ⟨⟨dx, h1⟩, h2, h3⟩ := a
  exact ⟨⟨dx, s _ _ h1⟩, s _ _ h2, h3⟩
def spInit (C : Addr) : Sp := fun vs H Q _ => ∃ (p dx l : Addr) (ns : List Int) (up : Bool) (wd : Int) (sh : Bool), vs = [.ref p, .ref l, .bl up, .int wd, .bl sh] ∧ H p = some (.ins C dx []) ∧ H l = some (.tup (ns.map V.int)) ∧ OkL ns ∧ (-99 ≤ wd ∧ wd ≤ 99) ∧
  ∀ H', (∀ b o, H b = some o → b ≠ p → H' b = some o) → H' p = some (.ins C dx (flds l up wd sh)) → Q .non H'
def spLen (C : Addr) : Sp := fun vs H Q _ => ∃ (p l : Addr) (ns : List Int) (up : Bool) (wd : Int) (sh : Bool), vs = [.ref p] ∧ At C H p l ns up wd sh ∧ ∀ H', Same H H' → Q (.int (((ns.length + 1 : Nat) : Int))) H'
def spEq (C : Addr) : Sp := fun vs H Q _ => ∃ (p q l m : Addr) (ns ms : List Int) (up up' : Bool) (wd wd' : Int) (sh sh' : Bool), vs = [.ref p, .ref q] ∧ At C H p l ns up wd sh ∧ At C H q m ms up' wd' sh' ∧
  (ns = ms → up = up' → wd = wd' → sh = sh' → Q (.bl true) H) ∧ (¬ (ns = ms ∧ up = up' ∧ wd = wd' ∧ sh = sh') → Q (.bl false) H)
def spCls (C CA : Addr) : Sp := fun vs H Q E => ∃ (p l : Addr) (x : V) (ns : List Int) (up : Bool) (wd : Int) (sh : Bool), vs = [.ref p, x] ∧ At C H p l ns up wd sh ∧ Th H x ∧
  (∀ age, x = .int age → 0 ≤ age → age ≤ 300 → ∀ H' q, Same H H' → H q = none → H' q = some (.lst ((clsP ns up age).map V.int)) → Q (.ref q) H') ∧ (numIn 0 300 x = false → E (.ref CA) none H)
def spWind : Sp := fun vs H Q _ => ∃ x, vs = [x] ∧ Th H x ∧ Q (.bl (numIn (-99) 99 x)) H
section
variable {P : Program} {w : World} {K : PySem.W.Frag} {mg : Str → Option Value} {base : Heap} {f : Addr} {fd : FuncData}
theorem scIsWind : FnScope ["thing"] ["thing"] (defScope sIsWind) := ⟨rfl, rfl, rfl, by decide +kernel, rfl, by decide +kernel, by decide +kernel⟩
theorem ok_iswind {fF fN : Addr} {fdF fdN : FuncData} (F : Fn K "is_wind" "is_wind" sIsWind f fd) (FF : Fn K "is_number_from" "is_number_from" sFrom fF fdF) (gF : mg "is_number_from" = some (.ref fF)) (FN : Fn K "is_number" "is_number" sIsNum fN fdN) (gN : mg "is_number" = some (.ref fN)) (T : Free mg) (C : Cons mg) : FnOk P w K mg base L2.CX0 3 f fd ["thing"] spWind := by
  have GF : FnOk P w K mg base L2.CX0 2 fF fdF ["thing", "least", "most"] spFrom := ok_from FF FN gN T
  have bF : Binds K fdF ["thing", "least", "most"] [] := FF.bindsN fun _ _ _ _ _ _ us hl => match us, hl with | [_, _, _], _ => rfl
  refine F.ok scIsWind (fun vs H Q E h => ?_) (fun cdv A outer s H vs Q E hr hh => ?_)
  · obtain ⟨x, rfl, _⟩ := h
    rfl
  · obtain ⟨x, rfl, hx, q⟩ := hh
    refine ⟨_, PSs.nox (pss_one (ps_ret (pe_call GF hr rfl gF FF.kp bF .nil pass0 (pa_cons (pv 0) (pa_cons (pe_un un_neg (pe_k C.wind rfl)) (pa_cons (pe_k C.wind rfl) pa_nil)))))), ?_⟩
    exact ⟨_, rfl, _, rfl, x, _, _, rfl, hx, q⟩
end
section
variable {P : Program} {w : World} {K : PySem.W.Frag} {mg : Str → Option Value} {base : Heap} {f : Addr} {fd : FuncData}
/-- the program's helpers as they stand -/
structure Hlp (K : PySem.W.Frag) (mg : Str → Option Value) : Prop where
  isn : ∃ a d, Fn K "is_number" "is_number" sIsNum a d ∧ mg "is_number" = some (.ref a)
  frm : ∃ a d, Fn K "is_number_from" "is_number_from" sFrom a d ∧ mg "is_number_from" = some (.ref a)
  are : ∃ a d, Fn K "are_limits" "are_limits" sAre a d ∧ mg "are_limits" = some (.ref a)
  wnd : ∃ a d, Fn K "is_wind" "is_wind" sIsWind a d ∧ mg "is_wind" = some (.ref a)
  fr : Free mg
  cs : Cons mg
theorem Hlp.from (h : Hlp K mg) : ∃ a d, FnOk P w K mg base L2.CX0 2 a d ["thing", "least", "most"] spFrom ∧ mg "is_number_from" = some (.ref a) ∧ PySem.W.keepIn K (.ref a) = true ∧ Binds K d ["thing", "least", "most"] [] := by
  obtain ⟨a1, d1, F1, g1⟩ := h.isn
  obtain ⟨a, d, F, g⟩ := h.frm
  exact ⟨a, d, ok_from F F1 g1 h.fr, g, F.kp, F.bindsN fun _ _ _ _ _ _ us hl => match us, hl with | [_, _, _], _ => rfl⟩
theorem Hlp.ar (h : Hlp K mg) : ∃ a d, FnOk P w K mg base L2.CX0 3 a d ["thing"] (spAre K) ∧ mg "are_limits" = some (.ref a) ∧ PySem.W.keepIn K (.ref a) = true ∧ Binds K d ["thing"] [] := by
  obtain ⟨a1, d1, F1, g1⟩ := h.isn
  obtain ⟨a2, d2, F2, g2⟩ := h.frm
  obtain ⟨a, d, F, g⟩ := h.are
  exact ⟨a, d, ok_are F F2 g2 F1 g1 h.fr h.cs, g, F.kp, F.bindsN fun _ _ _ _ _ _ us hl => match us, hl with | [_], _ => rfl⟩
theorem Hlp.wn (h : Hlp K mg) : ∃ a d, FnOk P w K mg base L2.CX0 3 a d ["thing"] spWind ∧ mg "is_wind" = some (.ref a) ∧ PySem.W.keepIn K (.ref a) = true ∧ Binds K d ["thing"] [] := by
  obtain ⟨a1, d1, F1, g1⟩ := h.isn
  obtain ⟨a2, d2, F2, g2⟩ := h.frm
  obtain ⟨a, d, F, g⟩ := h.wnd
  exact ⟨a, d, ok_iswind F F2 g2 F1 g1 h.fr h.cs, g, F.kp, F.bindsN fun _ _ _ _ _ _ us hl => match us, hl with | [_], _ => rfl⟩
abbrev nInit : List Str := ["self", "limits", "up", "wind", "shares"]
theorem scInit : FnScope nInit nInit (defScope sInit) := ⟨rfl, rfl, rfl, by decide +kernel, rfl, by decide +kernel, by decide +kernel⟩
theorem ok_init {C : Addr} {dvs : List V} (F : FunD K "__init__" "Rules.__init__" (defArgs sInit) (defBody sInit) (defScope sInit) dvs [] f fd) (h : Hlp K mg) (R : RulesT K mg C) : FnOk P w K mg base L2.CX0 4 f fd nInit (spInit C) := by
  obtain ⟨aW, dW, GW, gW, kW, bW⟩ := h.wn (P := P) (w := w) (base := base)
  obtain ⟨aA, dA, GA, gA, kA, bA⟩ := h.ar (P := P) (w := w) (base := base)
  refine F.ok scInit (fun vs H Q E h => ?_) (fun cdv A outer s H vs Q E hr hh => ?_)
  · obtain ⟨p, dx, l, ns, up, wd, sh, rfl, _⟩ := h
    rfl
  · obtain ⟨p, dx, l, ns, up, wd, sh, rfl, hp, hl, ok, hw, q⟩ := hh
    refine ⟨_, PSs.nox (pss_cons (ps_if (pt_cmpR op_isN (pv 1) pe_non (nomark _)) pss_never pss_nil)
      (pss_cons (ps_if (pt_not (pt_val (pe_call GA hr rfl gA kA bA .nil pass0 (pa_cons (pv 1) pa_nil)))) pss_never pss_nil)
      (pss_cons (ps_if (pt_not (pt_val (pe_callB call_isi rfl h.fr.isi boot_isinstance (pa_cons (pv 2) (pa_cons (pe_bltn rfl h.fr.bool_ (by decide +kernel) (v := .ty "bool") rfl) pa_nil))))) pss_never pss_nil)
      (pss_cons (ps_if (pt_not (pt_val (pe_call GW hr rfl gW kW bW .nil pass0 (pa_cons (pv 3) pa_nil)))) pss_never pss_nil)
      (pss_cons (ps_if (pt_not (pt_val (pe_callB call_isi rfl h.fr.isi boot_isinstance (pa_cons (pv 4) (pa_cons (pe_bltn rfl h.fr.bool_ (by decide +kernel) (v := .ty "bool") rfl) pa_nil))))) pss_never pss_nil)
      (pss_cons (ps_fld (pv 0) (pv 1) rfl) (pss_cons (ps_fld (pv 0) (pv 2) rfl) (pss_cons (ps_fld (pv 0) (pv 3) rfl) (pss_one (ps_fld (pv 0) (pv 4) rfl)))))))))), ?_⟩
    refine ⟨_, rfl, rfl, _, rfl, iteF ?_⟩
    refine ⟨_, rfl, l, ns, rfl, hl, ok, fun H1 sm => ⟨_, rfl, iteF ?_⟩⟩
    refine ⟨_, rfl, _, _, _, _, _, rfl, .ty "bool", .base (.bl up), kit_ty (r := true) (by decide +kernel), _, rfl, iteF ?_⟩
    refine ⟨_, rfl, .int wd, rfl, .int wd, _, rfl, ?_⟩
    have e1 : numIn (-99) 99 (.int wd) = true := by
      show (decide (-99 ≤ wd) && decide (wd ≤ 99)) = true
      simp [hw.1, hw.2]
    show if (!numIn (-99) 99 (.int wd)) = true then _ else _
    rw [e1]
    refine iteF ?_
    refine ⟨_, rfl, _, _, _, _, _, rfl, .ty "bool", .base (.bl sh), kit_ty (r := true) (by decide +kernel), _, rfl, iteF ?_⟩
    refine ⟨_, rfl, _, rfl, p, C, dx, _, rfl, sm _ _ hp, R.cl, R.nL, (by show 0 < 1000; decide), ?_⟩
    refine ⟨_, rfl, _, rfl, p, C, dx, _, rfl, upd_same, R.cl, R.nU, Nat.lt_of_le_of_lt (length_putF _ _ _) (by decide), ?_⟩
    refine ⟨_, rfl, _, rfl, p, C, dx, _, rfl, upd_same, R.cl, R.nW, Nat.lt_of_le_of_lt (Nat.le_trans (length_putF _ _ _) (Nat.add_le_add_right (length_putF _ _ _) 1)) (by decide), ?_⟩
    refine ⟨_, rfl, _, rfl, p, C, dx, _, rfl, upd_same, R.cl, R.nS, Nat.lt_of_le_of_lt (Nat.le_trans (length_putF _ _ _) (Nat.add_le_add_right (Nat.le_trans (length_putF _ _ _) (Nat.add_le_add_right (length_putF _ _ _) 1)) 1)) (by decide), ?_⟩
    refine q _ (fun b o e ne => ?_) upd_same
    rw [upd_ne ne, upd_ne ne, upd_ne ne, upd_ne ne]
    exact sm b o e
end
end K16
set_option Elab.async false
set_option linter.all false
set_option maxRecDepth 100000
set_option maxHeartbeats 4000000
namespace K16
open PySem PySem.Spec PyProof.Rows L2 Bb
section
variable {P : Program} {w : World} {K : PySem.W.Frag} {mg : Str → Option Value} {base : Heap} {f : Addr} {fd : FuncData}
theorem scLen : FnScope ["self"] ["self"] (defScope sLen) := ⟨rfl, rfl, rfl, by decide +kernel, rfl, by decide +kernel, by decide +kernel⟩
theorem ok_len {C : Addr} (F : Fn K "__len__" "Rules.__len__" sLen f fd) (T : Free mg) (R : RulesT K mg C) : FnOk P w K mg base L2.CX0 1 f fd ["self"] (spLen C) := by
  refine F.ok scLen (fun vs H Q E h => ?_) (fun cdv A outer s H vs Q E hr hh => ?_)
  · obtain ⟨p, l, ns, up, wd, sh, rfl, _⟩ := h
    rfl
  · obtain ⟨p, l, ns, up, wd, sh, rfl, ⟨⟨dx, hp⟩, hl, ok⟩, q⟩ := hh
    refine ⟨_, PSs.nox (pss_one (ps_ret (pe_callB call_len_seq rfl T.len_ boot_len (pa_cons (pe_op op_catA (pe_fld (pv 0) rfl) (pe_tup (pa_cons pe_str pa_nil))) pa_nil)))), ?_⟩
    have hlen := ok.len
    refine ⟨_, rfl, p, C, dx, _, _, rfl, hp, R.cl, R.nL, f_limits _ _ _ _, (by show 1 ≤ sizeLine; decide), fun t ht => ?_⟩
    have hl' : (upd H t (.tup [.str "above"])) l = some (.tup (ns.map V.int)) := by
      rw [upd_ne (ne_of_none hl ht)]
      exact hl
    have sm : Same H (upd H t (.tup [.str "above"])) := same_upd (Same.refl H) ht
    refine ⟨l, t, _, _, rfl, rfl, SqT.of hl', SqT.of upd_same, ?_, ?_, ?_, ?_⟩
    · have : (ns.map V.int).length + 1 ≤ 1000 := by
        rw [List.length_map]
        omega
      exact Nat.le_of_lt (small1000 this)
    · intro e
      refine ⟨t, _, rfl, .inr (SqT.of upd_same), ?_⟩
      have nil : ns = [] := List.map_eq_nil_iff.mp e
      have z := q _ sm
      rw [nil] at z
      exact z
    · intro _ e
      cases e
    · intro _ _ p' hp'
      refine ⟨p', _, rfl, .inr (SqT.of upd_same), ?_⟩
      have z := q (upd (upd H t (.tup [.str "above"])) p' (.tup (ns.map V.int ++ [.str "above"]))) (same_upd sm (Same.free sm hp'))
      have el : ((ns.map V.int ++ [V.str "above"]).length : Nat) = ns.length + 1 := by simp
      rw [el]
      exact z
abbrev nCls : List Str := ["self", "age", "first", "limit"]
theorem scCls : FnScope nCls ["self", "age"] (defScope sCls) := ⟨rfl, rfl, rfl, by decide +kernel, rfl, by decide +kernel, by decide +kernel⟩
/-- len(self) where self stands in slot 0 -/
theorem rgV_map (a : Nat) (n : Int) : rgV (a : Int) n = ((List.range (n - (a : Int)).toNat).map fun i => (a : Int) + (i : Nat)).map V.int := by
  unfold rgV
  rw [List.map_map]
  rfl
theorem take_snoc {α : Type} {l : List α} {i : Nat} {x : α} (h : l[i]? = some x) : l.take (i + 1) = l.take i ++ [x] := by
  rw [List.take_succ, h]
  rfl
theorem ok_cls {C CA fL : Addr} {fdL : FuncData} (F : Fn K "classes_of" "Rules.classes_of" sCls f fd) (h : Hlp K mg) (R : RulesT K mg C) (FL : Fn K "__len__" "Rules.__len__" sLen fL fdL) (lL : PySem.W.findIn K (.ref C) "__len__" = some (some (.ref fL))) (iL : PySem.W.isFn K (.ref fL) = true)
    (ea : ErrT K mg "NoAge" CA) : FnOk P w K mg base (L2.CX P w) 4 f fd ["self", "age"] (spCls C CA) := by
  obtain ⟨aF, dF, GF, gF, kF, bF⟩ := h.from (P := P) (w := w) (base := base)
  have GL : FnOk P w K mg base L2.CX0 1 fL fdL ["self"] (spLen C) := ok_len FL h.fr R
  have bL : Binds K fdL ["self"] [] := FL.bindsN fun _ _ _ _ _ _ us hl => match us, hl with | [_], _ => rfl
  refine F.ok (CX := L2.CX P w) scCls (fun vs H Q E h => ?_) (fun cdv A outer s H vs Q E hr hh => ?_)
  · obtain ⟨p, l, x, ns, up, wd, sh, rfl, _⟩ := h
    rfl
  · obtain ⟨p, l, x, ns, up, wd, sh, rfl, at_, hx, q, qe⟩ := hh
    refine ⟨_, pss_cons (ps_if (pt_not (pt_val (pe_call GF (hr.mono (by decide)) rfl gF kF bF .nil pass0 (pa_cons (pv 1) (pa_cons pe_int (pa_cons (pe_k h.cs.age rfl) pa_nil))))))
          (pss_one (ps_raise rfl (takes_of rfl rfl rfl rfl) (pmk_own PySem.F.excBase_ValueError ea.ex ea.g ea.kp (raises_own ea.sb ea.ty) rfl))) pss_nil)
      (pss_cons (ps_set (i := 2) scCls.nd rfl (.inl rfl) (pe_callB call_len_seq rfl h.fr.len_ boot_len (pa_cons (pe_lc (own := [("limit", 3)]) (g := gName 3) (tt := tTest (tOp (rI0 fun i j => .bl (decide (i ≤ j))) (tVar 3) (tVar 1))) rfl scCls.nd (pi_tup (pe_fld (pv 0) rfl)) (blkOk_by (N := nCls) (sc := defScope sCls) (by decide +kernel))
          (fun _ _ _ _ _ => pg_name (i := 3) scCls.nd rfl (Or.inl rfl)) (fun _ _ _ _ _ => pts_one (pt_cmpR op_le (pv 3) (pv 1) (nomark _))) (fun _ _ _ _ _ => pv 3)) pa_nil)))
      (pss_cons (ps_if (pt_val (pe_fld (pv 0) rfl)) (pss_one (ps_ret (pe_listRg rfl rfl h.fr.list_ (prg_2 rfl h.fr.rng_ (pv 2) (pe_callB (call_lenOwn GL (hr.mono (by decide)) lL iL bL pass0) rfl h.fr.len_ boot_len (pa_cons (pv 0) pa_nil)))))) pss_nil)
      (pss_one (ps_ret (pe_lst (pa_cons (pv 2) pa_nil)))))), ?_⟩
    obtain ⟨⟨dx, hp⟩, hl, ok⟩ := id at_
    have hlen := ok.len
    refine ⟨_, rfl, x, 0, 300, rfl, hx, _, rfl, ?_⟩
    by_cases hin : numIn 0 300 x = true
    · rw [hin]
      refine iteF ?_
      obtain ⟨age, rfl, a1, a2⟩ : ∃ age, x = .int age ∧ 0 ≤ age ∧ age ≤ 300 := by
        cases x with
        | int i =>
          have z : (decide (0 ≤ i) && decide (i ≤ 300)) = true := hin
          simp only [Bool.and_eq_true, decide_eq_true_eq] at z
          exact ⟨i, rfl, z.1, z.2⟩
        | _ => cases hin
      -- first
      refine ⟨_, rfl, p, C, dx, _, _, rfl, hp, R.cl, R.nL, f_limits _ _ _ _, l, rfl, ⟨_, SqT.of hl⟩, fun D hD => lc_tup (K := K) (a := l) (xs := ns.map V.int)
        (fun i H' => Same H H' ∧ H' D = some (.lst (((ns.take i).filter fun n => decide (n ≤ age)).map V.int))) ⟨same_upd (Same.refl H) hD, upd_same⟩ (fun i H' _ p => sqt_same (SqT.of hl) p.1) ?_ ?_⟩
      · rintro i y H' hy ⟨sm, acc⟩
        obtain ⟨n, hn, rfl⟩ := get_map hy
        have li := (List.getElem?_eq_some_iff.mp hn).1
        refine ⟨rfl, _, rfl, _, rfl, _, _, rfl, rfl, _, rfl, ?_⟩
        have e0 := take_snoc hn
        refine ite2 (fun c => ?_) (fun c => ?_)
        · refine ⟨_, rfl, _, acc, ?_, same_upd sm hD, ?_⟩
          · refine small1000 ?_
            rw [List.length_map]
            have := List.length_filter_le (fun n => decide (n ≤ age)) (ns.take i)
            rw [List.length_take] at this
            omega
          · have c' : (fun n => decide (n ≤ age)) n = true := c
            rw [upd_same, e0, List.filter_append, List.filter_cons, if_pos c', List.filter_nil, List.map_append]
            rfl
        · have c' : ¬ (fun n => decide (n ≤ age)) n = true := c
          refine ⟨sm, ?_⟩
          rw [e0, List.filter_append, List.filter_cons, if_neg c', List.filter_nil, List.append_nil]
          exact acc
      · rintro H1 ⟨sm, acc⟩
        rw [List.length_map, List.take_length] at acc
        refine ⟨D, _, rfl, .inl (SqL.of acc), ?_⟩
        have ef : ((((ns.filter fun n => decide (n ≤ age)).map V.int).length : Nat) : Int) = (fst ns age : Nat) := by
          rw [List.length_map]
          rfl
        rw [ef]
        -- self.up
        refine ⟨_, rfl, p, C, dx, _, _, rfl, sm _ _ hp, R.cl, R.nU, f_up _ _ _ _, _, rfl, ?_⟩
        have flt := fst_le ns age
        cases up with
        | true =>
          refine iteT ?_
          refine ⟨_, rfl, _, rfl, p, dx, _, rfl, sm _ _ hp, ?_⟩
          refine ⟨p, l, ns, true, wd, sh, rfl, at_.same sm, fun H2 sm2 => ⟨_, rfl, ⟨by omega, by omega⟩, ?_⟩⟩
          refine ⟨_, _, rfl, rfl, RgOk.of_le (by omega) (by omega) (by omega) (by omega), fun r hr' => ?_⟩
          refine q age rfl a1 a2 _ r (same_upd (sm.trans sm2) (Same.free (sm.trans sm2) hr')) (Same.free (sm.trans sm2) hr') ?_
          rw [upd_same, rgV_map]
          unfold clsP
          rw [if_pos rfl]
          have ec : (((ns.length + 1 : Nat)) : Int) = (ns.length : Int) + 1 := by omega
          rw [ec]
        | false =>
          refine iteF ?_
          refine ⟨_, rfl, (by show 1 ≤ sizeLine; decide), fun r hr' => ?_⟩
          refine q age rfl a1 a2 _ r (same_upd sm (Same.free sm hr')) (Same.free sm hr') ?_
          rw [upd_same]
          unfold clsP
          rw [if_neg Bool.false_ne_true]
          rfl
    · have e := Bool.eq_false_iff.mpr hin
      rw [e]
      refine iteT ?_
      exact qe e
end
end K16
set_option Elab.async false
set_option linter.all false
set_option maxRecDepth 100000
set_option maxHeartbeats 4000000
namespace K16
open PySem PySem.Spec PyProof.Rows L2 Bb
section
variable {P : Program} {w : World} {K : PySem.W.Frag} {mg : Str → Option Value} {base : Heap} {f : Addr} {fd : FuncData}
theorem scEq : FnScope ["self", "other"] ["self", "other"] (defScope sEq) := ⟨rfl, rfl, rfl, by decide +kernel, rfl, by decide +kernel, by decide +kernel⟩
theorem ok_eq {C : Addr} (F : Fn K "__eq__" "Rules.__eq__" sEq f fd) (T : Free mg) (R : RulesT K mg C) : FnOk P w K mg base L2.CX0 1 f fd ["self", "other"] (spEq C) := by
  refine F.ok scEq (fun vs H Q E h => ?_) (fun cdv A outer s H vs Q E hr hh => ?_)
  · obtain ⟨p, q, l, m, ns, ms, up, up', wd, wd', sh, sh', rfl, _⟩ := h
    rfl
  · obtain ⟨p, q, l, m, ns, ms, up, up', wd, wd', sh, sh', rfl, ⟨⟨dx, hp⟩, hl, _⟩, ⟨⟨dy, hq⟩, hm, _⟩, yes, no⟩ := hh
    refine ⟨_, PSs.nox (pss_one (ps_ret (pe_and (pe_callB call_isi rfl T.isi boot_isinstance (pa_cons (pv 1) (pa_cons (pe_glob rfl R.gC (v := .ref C) rfl) pa_nil)))
      (pe_and (pe_cmpR (op_eqD hr.units) (pe_fld (pv 0) rfl) (pe_fld (pv 1) rfl) (nomark _))
      (pe_and (pe_cmpR op_eq (pe_fld (pv 0) rfl) (pe_fld (pv 1) rfl) (nomark _))
      (pe_and (pe_cmpR op_eq (pe_fld (pv 0) rfl) (pe_fld (pv 1) rfl) (nomark _))
      (pe_one (pe_cmpR op_eq (pe_fld (pv 0) rfl) (pe_fld (pv 1) rfl) (nomark _))))))))), ?_⟩
    refine ⟨_, rfl, _, _, _, _, _, rfl, .own C, .base (.ins hq R.cl R.ha R.hn R.ht R.hm), R.kit, _, rfl, iteT ?_⟩
    refine ⟨_, rfl, p, C, dx, _, _, rfl, hp, R.cl, R.nL, f_limits _ _ _ _, _, rfl, q, C, dy, _, _, rfl, hq, R.cl, R.nL, f_limits _ _ _ _, ?_⟩
    refine ⟨.tuple (ns.map PyData.int), .tuple (ms.map PyData.int), .tup (SqT.of hl) (dp_ints ns), .tup (SqT.of hm) (dp_ints ms), shaped_tup ns, shaped_tup ms, _, rfl, ?_⟩
    have e1 : PyData.eqv (.tuple (ns.map PyData.int)) (.tuple (ms.map PyData.int)) = decide (ns = ms) := by
      rw [← eqv_ints]
      simp only [PyData.eqv]
    rw [e1]
    refine ite2 (fun c1 => ?_) (fun c1 => ?_)
    · refine ⟨_, rfl, p, C, dx, _, _, rfl, hp, R.cl, R.nU, f_up _ _ _ _, _, rfl, q, C, dy, _, _, rfl, hq, R.cl, R.nU, f_up _ _ _ _, rfl, _, rfl, ?_⟩
      refine ite2 (fun c2 => ?_) (fun c2 => ?_)
      · refine ⟨_, rfl, p, C, dx, _, _, rfl, hp, R.cl, R.nW, f_wind _ _ _ _, _, rfl, q, C, dy, _, _, rfl, hq, R.cl, R.nW, f_wind _ _ _ _, rfl, _, rfl, ?_⟩
        refine ite2 (fun c3 => ?_) (fun c3 => ?_)
        · refine ⟨_, rfl, p, C, dx, _, _, rfl, hp, R.cl, R.nS, f_shares _ _ _ _, _, rfl, q, C, dy, _, _, rfl, hq, R.cl, R.nS, f_shares _ _ _ _, rfl, ?_⟩
          have d1 := of_decide_eq_true c1
          have d2 : up = up' := V.bl.inj (of_decide_eq_true c2)
          have d3 : wd = wd' := V.int.inj (of_decide_eq_true c3)
          by_cases d4 : sh = sh'
          · rw [decide_eq_true (show V.bl sh = V.bl sh' from congrArg V.bl d4)]
            exact yes d1 d2 d3 d4
          · rw [decide_eq_false (show ¬ V.bl sh = V.bl sh' from fun z => d4 (V.bl.inj z))]
            exact no fun z => d4 z.2.2.2
        · exact no fun z => c3 (decide_eq_true (congrArg V.int z.2.2.1))
      · exact no fun z => c2 (decide_eq_true (congrArg V.bl z.2.1))
    · exact no fun z => c1 (decide_eq_true z.1)
end
end K16
set_option Elab.async false
set_option linter.all false
set_option maxRecDepth 100000
set_option maxHeartbeats 4000000
namespace K16
open PySem PySem.Spec PyProof.Rows L2 Bb
/-! the law's pen: a list of two ints; all else stays -/
def Pen (H : Hp) (p : Addr) : Prop := ∃ x f : Int, H p = some (.lst [.int x, .int f])
structure Kp (p : Addr) (H H' : Hp) : Prop where
  keep : ∀ b o, H b = some o → b ≠ p → H' b = some o
  pen : Pen H' p
theorem Kp.refl {p : Addr} {H : Hp} (h : Pen H p) : Kp p H H := ⟨fun _ _ e _ => e, h⟩
theorem Kp.trans {p : Addr} {H H1 H2 : Hp} (a : Kp p H H1) (b : Kp p H1 H2) : Kp p H H2 := ⟨fun c o e n => b.keep c o (a.keep c o e n) n, b.pen⟩
theorem Kp.same {p : Addr} {H H1 H2 : Hp} (a : Kp p H H1) (s : Same H1 H2) : Kp p H H2 := ⟨fun c o e n => s c o (a.keep c o e n), let ⟨x, f, e⟩ := a.pen; ⟨x, f, s _ _ e⟩⟩
theorem Kp.free {p q : Addr} {H H' : Hp} (a : Kp p H H') (hp : Pen H p) (h : H' q = none) : H q = none := by
  cases e : H q with
  | none => rfl
  | some o =>
    by_cases z : q = p
    · obtain ⟨x, f, e2⟩ := a.pen
      rw [z, e2] at h
      cases h
    · rw [a.keep _ _ e z] at h
      cases h
theorem pen_ne {H : Hp} {p a : Addr} {o : HO} (hp : Pen H p) (h : H a = some o) (n : ∀ x f : Int, o ≠ .lst [.int x, .int f]) : a ≠ p := by
  rintro rfl
  obtain ⟨x, f, e⟩ := hp
  rw [h] at e
  exact n x f (Option.some.inj e)
def spCell (K : PySem.W.Frag) : Sp := fun vs H Q _ => ∃ (a : Addr) (ns : List Int), vs = [.ref a, .int 0] ∧ SqL K H a (ns.map V.int) ∧ ns.length ≤ 63 ∧ ∀ z, Q (.int z) H
def spPen : Sp := fun vs H Q _ => ∃ z : Int, vs = [.int z] ∧ ∀ p H', H p = none → Same H H' → Pen H' p → Q (.ref p) H'
def spDraw : Sp := fun vs H Q _ => ∃ (p : Addr) (m : Int), vs = [.ref p, .int m] ∧ Pen H p ∧ (0 < m ∧ m < 1073741824) ∧ ∀ r H', 0 ≤ r → r < m → Kp p H H' → Q (.int r) H'
def spPick (K : PySem.W.Frag) : Sp := fun vs H Q _ => ∃ (p a : Addr) (xs : List V), vs = [.ref p, .ref a] ∧ Pen H p ∧ H a = some (.lst xs) ∧ a ≠ p ∧ (0 < xs.length ∧ xs.length ≤ 1000) ∧ ∀ v H', v ∈ xs → Kp p H H' → Q v H'
section
variable {P : Program} {w : World} {K : PySem.W.Frag} {mg : Str → Option Value} {base : Heap} {f : Addr} {fd : FuncData}
theorem scCell : FnScope ["_law_script", "_law_k"] ["_law_script", "_law_k"] (defScope sCell) := ⟨rfl, rfl, rfl, by decide +kernel, rfl, by decide +kernel, by decide +kernel⟩
theorem ok_cell (F : Fn K "_law_cell" "_law_cell" sCell f fd) (T : Free mg) : FnOk P w K mg base L2.CX0 1 f fd ["_law_script", "_law_k"] (spCell K) := by
  refine F.ok scCell (fun vs H Q E h => ?_) (fun cdv A outer s H vs Q E hr hh => ?_)
  · obtain ⟨a, ns, rfl, _⟩ := h
    rfl
  · obtain ⟨a, ns, rfl, ha, hn, q⟩ := hh
    refine ⟨_, PSs.nox (pss_cons (ps_if (pt_cmpR op_lt (pv 1) (pe_callB call_len_seq rfl T.len_ boot_len (pa_cons (pv 0) pa_nil)) (nomark _)) (pss_one (ps_ret (pe_ix ix_list (pv 0) (pv 1) (fun _ _ => rfl)))) pss_nil) (pss_one (ps_ret pe_int))), ?_⟩
    refine ⟨_, rfl, _, rfl, a, _, rfl, .inl ha, _, _, rfl, rfl, _, rfl, ?_⟩
    refine ite2 (fun c => ?_) (fun c => ?_)
    · have c' : (0 : Int) < (((ns.map V.int).length : Nat) : Int) := of_decide_eq_true c
      rw [List.length_map] at c'
      have h0 : (ns.map V.int)[0]? = some (V.int (ns[0]'(by omega))) := by
        rw [List.getElem?_map, List.getElem?_eq_getElem (by omega)]
        rfl
      exact ⟨_, rfl, _, rfl, a, _, 0, _, rfl, rfl, ha, at_of (j := 0) rfl h0, q _⟩
    · exact q 0
theorem scPen : FnScope ["_law_cell_here"] ["_law_cell_here"] (defScope sPen) := ⟨rfl, rfl, rfl, by decide +kernel, rfl, by decide +kernel, by decide +kernel⟩
theorem ok_pen (F : Fn K "_law_pen" "_law_pen" sPen f fd) (T : Free mg) : FnOk P w K mg base L2.CX0 1 f fd ["_law_cell_here"] spPen := by
  refine F.ok scPen (fun vs H Q E h => ?_) (fun cdv A outer s H vs Q E hr hh => ?_)
  · obtain ⟨z, rfl, _⟩ := h
    rfl
  · obtain ⟨z, rfl, q⟩ := hh
    refine ⟨_, PSs.nox (pss_one (ps_ret (pe_lst (pa_cons (pv 0) (pa_cons (pe_callTy call_int1 rfl T.int_ (by decide +kernel) (pa_cons (pe_cmpR op_ge (pv 0) (pe_op op_pow pe_int pe_int) (nomark _)) pa_nil)) pa_nil))))), ?_⟩
    refine ⟨_, rfl, _, rfl, _, _, rfl, rfl, ⟨by decide, by decide, by decide⟩, _, _, rfl, rfl, .inr ⟨_, rfl, ?_⟩⟩
    refine ⟨(by show 2 ≤ sizeLine; decide), fun p hp => ?_⟩
    exact q p _ hp (same_upd (Same.refl H) hp) ⟨_, _, upd_same⟩
theorem scDraw : FnScope ["_law_pen_here", "_law_many", "_law_drawn"] ["_law_pen_here", "_law_many"] (defScope sDraw) := ⟨rfl, rfl, rfl, by decide +kernel, rfl, by decide +kernel, by decide +kernel⟩
theorem ok_draw (F : Fn K "_law_draw" "_law_draw" sDraw f fd) : FnOk P w K mg base L2.CX0 1 f fd ["_law_pen_here", "_law_many"] spDraw := by
  refine F.ok scDraw (fun vs H Q E h => ?_) (fun cdv A outer s H vs Q E hr hh => ?_)
  · obtain ⟨p, m, rfl, _⟩ := h
    rfl
  · obtain ⟨p, m, rfl, ⟨x, g, hp⟩, ⟨m0, m1⟩, q⟩ := hh
    refine ⟨_, PSs.nox (pss_cons (ps_if (pt_cmpR op_eq (pe_ix ix_list (pv 0) pe_int (fun _ _ => rfl)) pe_int (nomark _))
        (pss_cons (ps_set (i := 2) scDraw.nd rfl (.inl rfl) (pe_op op_mod (pe_ix ix_list (pv 0) pe_int (fun _ _ => rfl)) (pv 1)))
        (pss_cons (ps_asg (pe_op op_fdiv (pe_ix ix_list (pv 0) pe_int (fun _ _ => rfl)) (pv 1)) (pg_sub (pv 0) pe_int set_list))
        (pss_one (ps_ret (pv 2))))) pss_nil)
      (pss_cons (ps_asg (pe_op op_mod (pe_op op_add (pe_op op_mul (pe_op op_mod (pe_ix ix_list (pv 0) pe_int (fun _ _ => rfl)) pe_int) pe_int) pe_int) pe_int) (pg_sub (pv 0) pe_int set_list))
      (pss_one (ps_ret (pe_op op_mod (pe_op op_fdiv (pe_op op_mod (pe_op op_add (pe_op op_mul (pe_ix ix_list (pv 0) pe_int (fun _ _ => rfl)) (pe_ix ix_list (pv 0) pe_int (fun _ _ => rfl)))
        (pe_op op_mul pe_int (pe_ix ix_list (pv 0) pe_int (fun _ _ => rfl)))) pe_int) pe_int) (pv 1)))))), ?_⟩
    have i0 : ∀ {a b : V}, atI [a, b] (0 : Int) = some a := fun {a b} => at_of (j := 0) rfl rfl
    have i1 : ∀ {a b : V}, atI [a, b] (1 : Int) = some b := fun {a b} => at_of (j := 1) rfl rfl
    refine ⟨_, rfl, p, _, 1, _, rfl, rfl, SqL.of hp, i1, rfl, _, rfl, ?_⟩
    refine ite2 (fun c => ?_) (fun c => ?_)
    · refine ⟨_, rfl, p, _, 0, _, rfl, rfl, SqL.of hp, i0, _, rfl, x, m, rfl, rfl, m0, ?_⟩
      refine ⟨_, rfl, p, _, 0, _, rfl, rfl, SqL.of hp, i0, _, rfl, x, m, rfl, rfl, ⟨m0, m1⟩, ?_⟩
      refine ⟨_, rfl, p, _, 0, 0, rfl, rfl, hp, rfl, _, rfl, ?_⟩
      refine q _ _ (Int.emod_nonneg _ (by omega)) (Int.emod_lt_of_pos _ m0) ⟨fun b o e n => ?_, ?_⟩
      · rw [upd_ne n]
        exact e
      · exact ⟨x / m, g, upd_same⟩
    · refine ⟨_, rfl, p, _, 0, _, rfl, rfl, SqL.of hp, i0, x, 2147483629, rfl, rfl, (by show (0 : Int) < 2147483629; decide), ?_⟩
      have b1 := Int.emod_nonneg x (show (2147483629 : Int) ≠ 0 by decide)
      have b2 := Int.emod_lt_of_pos x (show (0 : Int) < 2147483629 by decide)
      refine ⟨_, _, rfl, rfl, .inl ⟨by omega, by omega⟩, _, _, rfl, rfl, _, _, rfl, rfl, (by show (0 : Int) < 2147483629; decide), ?_⟩
      have c1 := Int.emod_nonneg (x % 2147483629 * 48271 + 11) (show (2147483629 : Int) ≠ 0 by decide)
      have c2 := Int.emod_lt_of_pos (x % 2147483629 * 48271 + 11) (show (0 : Int) < 2147483629 by decide)
      obtain ⟨z, hz⟩ : ∃ z, z = (x % 2147483629 * 48271 + 11) % 2147483629 := ⟨_, rfl⟩
      rw [← hz] at c1 c2
      refine ⟨_, rfl, p, _, 0, 0, rfl, rfl, hp, rfl, ?_⟩
      have hp2 : (upd H p (.lst ([V.int x, V.int g].set 0 (.int ((x % 2147483629 * 48271 + 11) % 2147483629))))) p = some (.lst [.int z, .int g]) := by
        rw [hz]
        exact upd_same
      refine ⟨_, rfl, p, _, 0, _, rfl, rfl, SqL.of hp2, i0, _, rfl, p, _, 0, _, rfl, rfl, SqL.of hp2, i0, z, z, rfl, rfl, .inl ⟨by omega, by omega⟩, ?_⟩
      refine ⟨_, rfl, p, _, 0, _, rfl, rfl, SqL.of hp2, i0, 40692, z, rfl, rfl, .inl ⟨by decide, by decide⟩, ?_⟩
      refine ⟨_, _, rfl, rfl, _, _, rfl, rfl, (by show (0 : Int) < 2147483647; decide), _, _, rfl, rfl, ⟨by decide, by decide⟩, _, rfl, _, _, rfl, rfl, m0, ?_⟩
      refine q _ _ (Int.emod_nonneg _ (by omega)) (Int.emod_lt_of_pos _ m0) ⟨fun b o e n => ?_, ?_⟩
      · rw [upd_ne n]
        exact e
      · exact ⟨z, g, hp2⟩
theorem scPick : FnScope ["_law_pen_here", "_law_things"] ["_law_pen_here", "_law_things"] (defScope sPick) := ⟨rfl, rfl, rfl, by decide +kernel, rfl, by decide +kernel, by decide +kernel⟩
theorem ok_pick {fD : Addr} {fdD : FuncData} (F : Fn K "_law_pick" "_law_pick" sPick f fd) (FD : Fn K "_law_draw" "_law_draw" sDraw fD fdD) (gD : mg "_law_draw" = some (.ref fD)) (T : Free mg) : FnOk P w K mg base L2.CX0 2 f fd ["_law_pen_here", "_law_things"] (spPick K) := by
  have GD : FnOk P w K mg base L2.CX0 1 fD fdD ["_law_pen_here", "_law_many"] spDraw := ok_draw FD
  have bD : Binds K fdD ["_law_pen_here", "_law_many"] [] := FD.bindsN fun _ _ _ _ _ _ us hl => match us, hl with | [_, _], _ => rfl
  refine F.ok scPick (fun vs H Q E h => ?_) (fun cdv A outer s H vs Q E hr hh => ?_)
  · obtain ⟨p, a, xs, rfl, _⟩ := h
    rfl
  · obtain ⟨p, a, xs, rfl, hp, ha, ne, hl, q⟩ := hh
    refine ⟨_, PSs.nox (pss_one (ps_ret (pe_ix ix_list (pv 1) (pe_call GD hr rfl gD FD.kp bD .nil pass0 (pa_cons (pv 0) (pa_cons (pe_callB call_len_seq rfl T.len_ boot_len (pa_cons (pv 1) pa_nil)) pa_nil))) (fun _ _ => rfl)))), ?_⟩
    refine ⟨_, rfl, _, rfl, _, rfl, a, xs, rfl, .inl (SqL.of ha), p, _, rfl, hp, ⟨by omega, by omega⟩, fun r H' r0 r1 kp => ?_⟩
    have hlt : r.toNat < xs.length := by omega
    refine ⟨a, xs, r, xs[r.toNat], rfl, rfl, SqL.of (kp.keep _ _ ha ne), ?_, q _ _ (List.getElem_mem _) kp⟩
    exact at_of (j := r.toNat) (by omega) (List.getElem?_eq_getElem hlt)
end
end K16
set_option Elab.async false
set_option linter.all false
set_option maxRecDepth 100000
set_option maxHeartbeats 4000000
namespace K16
open PySem PySem.Spec PyProof.Rows L2 Bb
theorem Th.kp {H H' : Hp} {p : Addr} {x : V} (h : Th H x) (k : Kp p H H') : Th H' x := by
  have one : ∀ {a : Addr} {o : HO}, H a = some o → Th H (.ref a) → (∀ H2 : Hp, H2 a = some o → Th H2 (.ref a)) → Th H' (.ref a) := by
    intro a o e _ back
    by_cases z : a = p
    · obtain ⟨x, f, e2⟩ := k.pen
      rw [z]
      exact .lst e2
    · exact back H' (k.keep _ _ e z)
  cases h with
  | non => exact .non
  | bl b => exact .bl b
  | int i => exact .int i
  | str z => exact .str z
  | lst e => exact one e (.lst e) fun _ e2 => .lst e2
  | tup e => exact one e (.tup e) fun _ e2 => .tup e2
  | dic e => exact one e (.dic e) fun _ e2 => .dic e2
theorem Th.same {H H' : Hp} {x : V} (h : Th H x) (s : Same H H') : Th H' x := by
  cases h with
  | non => exact .non
  | bl b => exact .bl b
  | int i => exact .int i
  | str z => exact .str z
  | lst e => exact .lst (s _ _ e)
  | tup e => exact .tup (s _ _ e)
  | dic e => exact .dic (s _ _ e)
theorem pen_same {H H' : Hp} {p : Addr} (h : Pen H p) (s : Same H H') : Pen H' p := by
  obtain ⟨x, f, e⟩ := h
  exact ⟨x, f, s _ _ e⟩
theorem up1 {H H1 : Hp} {q : Addr} {o : HO} (s : Same H H1) (h : H1 q = none) : Same H (upd H1 q o) := same_upd s (Same.free s h)
theorem up2 {H1 : Hp} {q : Addr} {o : HO} (h : H1 q = none) : Same H1 (upd H1 q o) := same_upd (Same.refl _) h
section
variable {P : Program} {w : World} {K : PySem.W.Frag} {mg : Str → Option Value} {base : Heap} {f : Addr} {fd : FuncData}
/-- the law's first helpers as they stand -/
structure Hl (K : PySem.W.Frag) (mg : Str → Option Value) : Prop where
  draw : ∃ a d, Fn K "_law_draw" "_law_draw" sDraw a d ∧ mg "_law_draw" = some (.ref a)
  pick : ∃ a d, Fn K "_law_pick" "_law_pick" sPick a d ∧ mg "_law_pick" = some (.ref a)
  fr : Free mg
theorem Hl.dr (h : Hl K mg) : ∃ a d, FnOk P w K mg base L2.CX0 1 a d ["_law_pen_here", "_law_many"] spDraw ∧ mg "_law_draw" = some (.ref a) ∧ PySem.W.keepIn K (.ref a) = true ∧ Binds K d ["_law_pen_here", "_law_many"] [] := by
  obtain ⟨a, d, F, g⟩ := h.draw
  exact ⟨a, d, ok_draw F, g, F.kp, F.bindsN fun _ _ _ _ _ _ us hl => match us, hl with | [_, _], _ => rfl⟩
theorem Hl.pk (h : Hl K mg) : ∃ a d, FnOk P w K mg base L2.CX0 2 a d ["_law_pen_here", "_law_things"] (spPick K) ∧ mg "_law_pick" = some (.ref a) ∧ PySem.W.keepIn K (.ref a) = true ∧ Binds K d ["_law_pen_here", "_law_things"] [] := by
  obtain ⟨a1, d1, F1, g1⟩ := h.draw
  obtain ⟨a, d, F, g⟩ := h.pick
  exact ⟨a, d, ok_pick F F1 g1 h.fr, g, F.kp, F.bindsN fun _ _ _ _ _ _ us hl => match us, hl with | [_, _], _ => rfl⟩
end
end K16
set_option Elab.async false
set_option linter.all false
set_option maxRecDepth 100000
set_option maxHeartbeats 4000000
namespace K16
open PySem PySem.Spec PyProof.Rows L2 Bb
theorem keys_put {kvs : List (Key × V)} {ks : List Int} (h : kvs.map (·.1) = ks.map Sum.inl) (k : Int) (v : V) :
    (putK kvs (Sum.inl k : Key) v).map (·.1) = (if k ∈ ks then ks else ks ++ [k]).map Sum.inl := by
  have mem : (kvs.any fun kv => decide (kv.1 = (Sum.inl k : Key))) = decide (k ∈ ks) := by
    have e : (kvs.any fun kv => decide (kv.1 = (Sum.inl k : Key))) = (kvs.map (·.1)).any fun x => decide (x = (Sum.inl k : Key)) := by
      rw [List.any_map]
      rfl
    rw [e, h, List.any_map]
    rw [Bool.eq_iff_iff, List.any_eq_true, decide_eq_true_iff]
    constructor
    · rintro ⟨x, hx, hk⟩
      have q : (Sum.inl x : Key) = Sum.inl k := of_decide_eq_true hk
      rw [← Sum.inl.inj q]
      exact hx
    · intro hk
      exact ⟨k, hk, decide_eq_true rfl⟩
  unfold putK
  rw [mem]
  by_cases c : k ∈ ks
  · rw [if_pos (decide_eq_true c), if_pos c, ← h, List.map_map]
    apply List.map_congr_left
    rintro ⟨a, b⟩ _
    simp only [Function.comp]
    split <;> rfl
  · rw [if_neg (by simp [c]), if_neg c, List.map_append, List.map_append, h]
    rfl
theorem rising_of {ks ys : List Int} (hp : ys.Perm ks) (hw : ys.Pairwise (· ≤ ·)) (hn : ks.Nodup) : ys.Pairwise (· < ·) := by
  have hn2 : ys.Nodup := hp.nodup_iff.mpr hn
  exact (List.pairwise_and_iff.mpr ⟨hw, hn2⟩).imp fun {a b} h => by
    obtain ⟨h1, h2⟩ := h
    omega
def spTerms : Sp := fun vs H Q _ => ∃ p : Addr, vs = [.ref p] ∧ Pen H p ∧ ∀ (T l : Addr) (ns : List Int) (up : Bool) (wd : Int) (sh : Bool) (H' : Hp), Kp p H H' → H T = none → H' T = some (.tup [.ref l, .bl up, .int wd, .bl sh]) → H' l = some (.tup (ns.map V.int)) → OkL ns → (-99 ≤ wd ∧ wd ≤ 99) → Q (.ref T) H'
section
variable {P : Program} {w : World} {K : PySem.W.Frag} {mg : Str → Option Value} {base : Heap} {f : Addr} {fd : FuncData}
abbrev nTerms : List Str := ["_law_pen_here", "_law_bars", "_law_turn", "_law_gust"]
theorem scTerms : FnScope nTerms ["_law_pen_here"] (defScope sTerms) := ⟨rfl, rfl, rfl, by decide +kernel, rfl, by decide +kernel, by decide +kernel⟩
theorem ok_terms (F : Fn K "_law_terms" "_law_terms" sTerms f fd) (h : Hl K mg) : FnOk P w K mg base L2.CX0 3 f fd ["_law_pen_here"] spTerms := by
  obtain ⟨aP, dP, GP, gP, kP, bP⟩ := h.pk (P := P) (w := w) (base := base)
  obtain ⟨aD, dD, GD, gD, kD, bD⟩ := h.dr (P := P) (w := w) (base := base)
  refine F.ok scTerms (fun vs H Q E h => ?_) (fun cdv A outer s H vs Q E hr hh => ?_)
  · obtain ⟨p, rfl, _⟩ := h
    rfl
  · obtain ⟨p, rfl, hp, q⟩ := hh
    have hr1 : Room 1 _ := hr.mono (by decide)
    have hu := hu_of hr
    refine ⟨_, PSs.nox (pss_cons (ps_set (i := 1) scTerms.nd rfl (.inl rfl) pe_dnewK)
      (pss_cons (ps_for PassesOwn.never rfl (pi_range1 rfl h.fr.rng_ (pa_cons (pe_call GD hr1 rfl gD kD bD .nil pass0 (pa_cons (pv 0) (pa_cons pe_int pa_nil))) pa_nil)) (pg_name (i := 2) scTerms.nd rfl (Or.inl rfl))
        (pss_one (ps_dput hu (pv 1) (pe_op op_add pe_int (pe_call GD hr1 rfl gD kD bD .nil pass0 (pa_cons (pv 0) (pa_cons pe_int pa_nil)))) pe_bl rfl)))
      (pss_cons (ps_set (i := 3) scTerms.nd rfl (.inl rfl) (pe_call GP hr rfl gP kP bP .nil pass0 (pa_cons (pv 0) (pa_cons (pe_lst (pa_cons pe_int (pa_cons pe_int (pa_cons pe_int (pa_cons (pe_un un_neg pe_int) (pa_cons (pe_op op_sub (pe_call GD hr1 rfl gD kD bD .nil pass0 (pa_cons (pv 0) (pa_cons pe_int pa_nil))) pe_int) pa_nil)))))) pa_nil))))
      (pss_one (ps_ret (pe_tup (pa_cons (pe_callTy call_tuple_of rfl h.fr.tup_ (by decide +kernel) (pa_cons (pe_callB (call_sortedDI rfl) rfl h.fr.srt_ (by decide +kernel) (pa_cons (pv 1) pa_nil)) pa_nil))
        (pa_cons (pe_cmpR op_eq (pe_call GD hr1 rfl gD kD bD .nil pass0 (pa_cons (pv 0) (pa_cons pe_int pa_nil))) pe_int (nomark _)) (pa_cons (pv 3)
        (pa_cons (pe_cmpR op_eq (pe_call GD hr1 rfl gD kD bD .nil pass0 (pa_cons (pv 0) (pa_cons pe_int pa_nil))) pe_int (nomark _)) pa_nil)))))))))), ?_⟩
    intro d hd
    have nd : d ≠ p := by
      rintro rfl
      obtain ⟨x, g, e⟩ := hp
      rw [hd] at e
      cases e
    have s1 : Same H (upd H d (.dK [])) := up2 hd
    have hp1 := pen_same hp s1
    refine ⟨_, rfl, p, 5, rfl, hp1, ⟨by decide, by decide⟩, fun r H1 r0 r1 kp1 => ?_⟩
    have kH1 : Kp p H H1 := ((Kp.refl hp).same s1).trans kp1
    refine ⟨r, rfl, by omega, by omega, ?_⟩
    refine for_range (lo := 0) (n := r.toNat) (fun i σ H2 => ∃ (kvs : List (Key × V)) (ks : List Int) (tv : Option V), σ = [some (.ref p), some (.ref d), tv, none] ∧ Kp p H H2 ∧ H2 d = some (.dK kvs) ∧ kvs.map (·.1) = ks.map Sum.inl ∧ ks.Nodup ∧ ks.length ≤ i ∧ ∀ k ∈ ks, 1 ≤ k ∧ k ≤ 99)
      ⟨[], [], none, rfl, kH1, kp1.keep _ _ upd_same nd, rfl, List.nodup_nil, Nat.le_refl _, fun k hk => by cases hk⟩ ?_ ?_
    · rintro i σ H2 hi ⟨kvs, ks, tv, rfl, kH2, h2, hks, hnd, hlen, hrg⟩
      refine ⟨_, rfl, ?_⟩
      refine ⟨_, rfl, p, 99, rfl, kH2.pen, ⟨by decide, by decide⟩, fun z H3 z0 z1 kp3 => ?_⟩
      refine ⟨_, _, rfl, rfl, d, _, rfl, DPut.k (k := Sum.inl (1 + z)) (kp3.keep _ _ h2 nd) (small1000 ?_), ?_⟩
      · have e : kvs.length = ks.length := by
          have := congrArg List.length hks
          simpa using this
        omega
      · have k3 : Kp p H H3 := kH2.trans kp3
        have hdn : H d = none := hd
        refine ⟨_, (if 1 + z ∈ ks then ks else ks ++ [1 + z]), _, rfl, ⟨fun b o e n => ?_, ?_⟩, upd_same, keys_put hks _ _, ?_, ?_, ?_⟩
        · rw [upd_ne (ne_of_none e hdn)]
          exact k3.keep _ _ e n
        · obtain ⟨x, g, e⟩ := k3.pen
          exact ⟨x, g, by rw [upd_ne (Ne.symm nd)]; exact e⟩
        · by_cases c : 1 + z ∈ ks
          · rw [if_pos c]
            exact hnd
          · rw [if_neg c]
            rw [List.nodup_append]
            refine ⟨hnd, by simp, ?_⟩
            intro a ha b hb
            have : b = 1 + z := by simpa using hb
            rw [this]
            rintro rfl
            exact c ha
        · by_cases c : 1 + z ∈ ks
          · rw [if_pos c]
            omega
          · rw [if_neg c, List.length_append, List.length_singleton]
            omega
        · by_cases c : 1 + z ∈ ks
          · rw [if_pos c]
            exact hrg
          · rw [if_neg c]
            intro k hk
            rcases List.mem_append.mp hk with q | q
            · exact hrg k q
            · have : k = 1 + z := by simpa using q
              omega
    · rintro σ H2 ⟨kvs, ks, tv, rfl, kH2, h2, hks, hnd, hlen, hrg⟩
      have hlen4 : ks.length ≤ 4 := by omega
      -- the gust
      refine ⟨_, rfl, _, rfl, ?_⟩
      refine ⟨_, rfl, p, 199, rfl, kH2.pen, ⟨by decide, by decide⟩, fun z H3 z0 z1 kp3 => ?_⟩
      refine ⟨_, _, rfl, rfl, (by show 5 ≤ sizeLine; decide), fun L hL => ?_⟩
      have s4 := up2 (o := .lst [.int 20, .int 0, .int 99, .int (-99), .int (z - 99)]) hL
      have k4 : Kp p H2 (upd H3 L (.lst [.int 20, .int 0, .int 99, .int (-99), .int (z - 99)])) := kp3.same s4
      have nL : L ≠ p := pen_ne k4.pen upd_same (fun x f z => by injection z with z; injection z with _ z; injection z with _ z; cases z)
      refine ⟨p, L, _, rfl, k4.pen, upd_same, nL, ⟨(by show 0 < 5; decide), (by show 5 ≤ 1000; decide)⟩, fun v H5 hv kp5 => ?_⟩
      have k5 : Kp p H2 H5 := k4.trans kp5
      obtain ⟨wd, rfl, w0, w1⟩ : ∃ wd, v = .int wd ∧ -99 ≤ wd ∧ wd ≤ 99 := by
        simp only [List.mem_cons, List.not_mem_nil, or_false] at hv
        rcases hv with rfl | rfl | rfl | rfl | rfl
        · exact ⟨_, rfl, by omega, by omega⟩
        · exact ⟨_, rfl, by omega, by omega⟩
        · exact ⟨_, rfl, by omega, by omega⟩
        · exact ⟨_, rfl, by omega, by omega⟩
        · exact ⟨_, rfl, by omega, by omega⟩
      -- the tuple
      have h5 : H5 d = some (.dK kvs) := k5.keep _ _ h2 nd
      refine ⟨_, rfl, d, kvs, ks, rfl, .inl h5, hks, by omega, fun ys S perm pw hS => ?_⟩
      refine ⟨S, _, rfl, .inl ⟨SqL.of upd_same, fun l hl => ?_⟩⟩
      have s6 := up2 (o := .lst (ys.map V.int)) hS
      have s7 := up2 (o := .tup (ys.map V.int)) hl
      have s67 := s6.trans s7
      have kA := k5.same s67
      refine ⟨_, rfl, p, 2, rfl, kA.pen, ⟨by decide, by decide⟩, fun u1 H8 _ _ kp8 => ⟨rfl, ?_⟩⟩
      refine ⟨_, rfl, ?_⟩
      refine ⟨_, rfl, p, 2, rfl, kp8.pen, ⟨by decide, by decide⟩, fun u2 H9 _ _ kp9 => ⟨rfl, ?_⟩⟩
      refine ⟨(by show 4 ≤ sizeLine; decide), fun T hT => ?_⟩
      have k9 : Kp p H H9 := (kH2.trans kA).trans (kp8.trans kp9)
      have nlp : l ≠ p := pen_ne kA.pen upd_same (fun x f z => by cases z)
      refine q T l ys _ wd _ _ (k9.same (up2 hT)) (k9.free hp hT) upd_same ?_ ?_ ⟨w0, w1⟩
      · have z8 := kp8.keep _ _ (upd_same (H := upd H5 S (.lst (ys.map V.int))) (a := l) (o := .tup (ys.map V.int))) nlp
        have z9 := kp9.keep _ _ z8 nlp
        rw [upd_ne (ne_of_none z9 hT)]
        exact z9
      · exact ⟨by rw [perm.length_eq]; exact hlen4, fun n hn => hrg n (perm.mem_iff.mp hn), rising_of perm pw hnd⟩
end
end K16
set_option Elab.async false
set_option linter.all false
set_option maxRecDepth 100000
set_option maxHeartbeats 4000000
namespace K16
open PySem PySem.Spec PyProof.Rows L2 Bb
/-! is_name, is_team of a text; is_day of anything -/
def nameZ (z : Str) : Bool := decide (1 ≤ z.length ∧ z.length ≤ 8) && z.cps.toList.all (fun c => decide (c ∈ letters.cps.toList))
theorem nameZ_of {z : Str} {b : Bool} (h1 : 1 ≤ z.length) (h2 : z.length ≤ 8) (e : b = z.cps.toList.all (fun c => decide (c ∈ letters.cps.toList))) : nameZ z = b := by
  unfold nameZ
  rw [decide_eq_true ⟨h1, h2⟩, Bool.true_and, e]
theorem nameZ_no {z : Str} (h : ¬ (1 ≤ z.length ∧ z.length ≤ 8)) : nameZ z = false := by
  unfold nameZ
  rw [decide_eq_false h, Bool.false_and]
theorem take_sn {α : Type} {l : List α} {i : Nat} {x : α} (h : l[i]? = some x) : l.take (i + 1) = l.take i ++ [x] := by
  rw [List.take_succ, h]
  rfl
theorem strlen (z : Str) : z.length = z.cps.toList.length := by
  show z.cps.size = _
  rw [Array.length_toList]
theorem sign_at {z : Str} {i : Nat} {c : Nat} (h : z.cps[i]? = some c) : z.cps.toList[i]? = some c := by
  rw [Array.getElem?_toList]
  exact h
def spNameS : Sp := fun vs H Q _ => ∃ (z : Str) (b : Bool), vs = [.str z] ∧ z.length ≤ 1000 ∧ nameZ z = b ∧ ∀ H', Same H H' → Q (.bl b) H'
def spTeamS : Sp := fun vs H Q _ => ∃ (z : Str) (b : Bool), vs = [.str z] ∧ z.length ≤ 1000 ∧ (nameZ z || decide (z = "")) = b ∧ ∀ H', Same H H' → Q (.bl b) H'
def spDay : Sp := fun vs H Q _ => ∃ (x : V) (b : Bool), vs = [x] ∧ Th H x ∧ numIn (-40000) 40000 x = b ∧ Q (.bl b) H
section
variable {P : Program} {w : World} {K : PySem.W.Frag} {mg : Str → Option Value} {base : Heap} {f : Addr} {fd : FuncData}
theorem scIsName : FnScope ["thing", "letter"] ["thing"] (defScope sIsName) := ⟨rfl, rfl, rfl, by decide +kernel, rfl, by decide +kernel, by decide +kernel⟩
theorem ok_isnameS (F : Fn K "is_name" "is_name" sIsName f fd) (T : Free mg) (C : Cons mg) : FnOk P w K mg base L2.CX0 1 f fd ["thing"] spNameS := by
  refine F.ok scIsName (fun vs H Q E h => ?_) (fun cdv A outer s H vs Q E hr hh => ?_)
  · obtain ⟨z, b, rfl, _⟩ := h
    rfl
  · obtain ⟨z, b, rfl, hz, e, q⟩ := hh
    subst e
    refine ⟨_, PSs.nox (pss_cons (ps_if (PW.pt (pw_or (pt_not (pt_val (pe_callB call_isi rfl T.isi boot_isinstance (pa_cons (pv 0) (pa_cons (pe_bltn rfl T.str_ (by decide +kernel) (v := .ty "str") rfl) pa_nil)))))
        (pw_or1 (pt_not (pt_chain op_le op_le pe_int (pe_callB call_len_str rfl T.len_ boot_len (pa_cons (pv 0) pa_nil)) (pe_k C.long rfl)))))) (pss_one (ps_ret pe_bl)) pss_nil)
      (pss_one (ps_ret (pe_callB (cr_all rfl) rfl T.all_ (by decide +kernel) (pa_cons (pe_lc (own := [("letter", 1)]) (g := gName 1) (tt := tYes) rfl scIsName.nd (pi_str (pv 0)) (blkOk_by (N := ["thing", "letter"]) (sc := defScope sIsName) (by decide +kernel)) (fun _ _ _ _ _ => pg_name (i := 1) scIsName.nd rfl (Or.inl rfl)) (fun _ _ _ _ _ => pts_nil)
        (fun _ _ _ _ _ => pe_cmpR op_in_sign (pv 1) (pe_kS C.lett rfl) rfl)) pa_nil))))), ?_⟩
    refine ⟨_, rfl, _, _, _, _, _, rfl, .ty "str", .base (.str z), kit_ty (r := true) (by decide +kernel), _, rfl, ?_⟩
    refine iteF ?_
    refine ⟨_, rfl, z, rfl, Nat.le_of_lt (small1000 (by omega)), _, _, rfl, rfl, _, rfl, ?_⟩
    refine ite2 (fun c => ?_) (fun c => ?_)
    · have h1 : (1 : Int) ≤ (z.length : Int) := of_decide_eq_true c
      refine ⟨_, _, rfl, rfl, _, rfl, ?_⟩
      refine ite2 (fun c2 => ?_) (fun c2 => ?_)
      · have h2 : ¬ ((z.length : Int) ≤ 8) := by simpa using c2
        have e : nameZ z = false := nameZ_no (fun z => h2 (by omega))
        rw [e] at q
        exact q H (Same.refl H)
      · have h2 : ((z.length : Int) ≤ 8) := by simpa using c2
        refine ⟨_, rfl, z, rfl, fun D hD => lc_it walk_str (fun i H' => Same H H' ∧ H' D = some (.lst ((z.cps.toList.take i).map fun c => V.bl (decide (c ∈ letters.cps.toList)))))
          ⟨up2 hD, by rw [List.take_zero]; exact upd_same⟩ (fun _ _ _ _ => True.intro) ?_ ?_⟩
        · rintro i v H1 H2 hi ⟨sm, hl⟩ ⟨rfl, c, hc, rfl⟩
          refine ⟨rfl, ?_⟩
          unfold tYes
          dsimp only
          rw [if_pos rfl]
          refine ⟨_, rfl, c, _, rfl, rfl, _, hl, small1000 ?_, same_upd sm hD, ?_⟩
          · rw [List.length_map, List.length_take]
            have := strlen z
            omega
          · rw [upd_same, take_sn (sign_at hc), List.map_append]
            rfl
        · rintro H1 ⟨sm, hl⟩
          rw [show z.cps.size = z.cps.toList.length by rw [Array.length_toList], List.take_length] at hl
          refine ⟨D, z.cps.toList.map (fun c => decide (c ∈ letters.cps.toList)), rfl, ?_, ?_⟩
          · have e : (z.cps.toList.map (fun c => decide (c ∈ letters.cps.toList))).map V.bl = z.cps.toList.map fun c => V.bl (decide (c ∈ letters.cps.toList)) := by
              rw [List.map_map]
              rfl
            rw [e]
            exact SqL.of hl
          · have e : nameZ z = (z.cps.toList.map (fun c => decide (c ∈ letters.cps.toList))).all id := nameZ_of (by omega) (by omega) (by rw [List.all_map]; rfl)
            rw [e] at q
            exact q H1 sm
    · have h1 : ¬ ((1 : Int) ≤ (z.length : Int)) := fun z => c (decide_eq_true z)
      refine ⟨_, rfl, iteT ?_⟩
      have e : nameZ z = false := nameZ_no (fun z => h1 (by omega))
      rw [e] at q
      exact q H (Same.refl H)
theorem scIsTeam : FnScope ["thing"] ["thing"] (defScope sIsTeam) := ⟨rfl, rfl, rfl, by decide +kernel, rfl, by decide +kernel, by decide +kernel⟩
theorem ok_isteamS {fN : Addr} {fdN : FuncData} (F : Fn K "is_team" "is_team" sIsTeam f fd) (FN : Fn K "is_name" "is_name" sIsName fN fdN) (gN : mg "is_name" = some (.ref fN)) (T : Free mg) (C : Cons mg) : FnOk P w K mg base L2.CX0 2 f fd ["thing"] spTeamS := by
  have GN : FnOk P w K mg base L2.CX0 1 fN fdN ["thing"] spNameS := ok_isnameS FN T C
  have bN : Binds K fdN ["thing"] [] := FN.bindsN fun _ _ _ _ _ _ us hl => match us, hl with | [_], _ => rfl
  refine F.ok scIsTeam (fun vs H Q E h => ?_) (fun cdv A outer s H vs Q E hr hh => ?_)
  · obtain ⟨z, b, rfl, _⟩ := h
    rfl
  · obtain ⟨z, b, rfl, hz, e, q⟩ := hh
    refine ⟨_, PSs.nox (pss_one (ps_ret (pe_or (pe_call GN hr rfl gN FN.kp bN .nil pass0 (pa_cons (pv 0) pa_nil)) (pe_one (pe_cmpR op_eq (pv 0) pe_str (nomark _)))))), ?_⟩
    refine ⟨_, rfl, z, _, rfl, hz, rfl, fun H1 s1 => ⟨_, rfl, ?_⟩⟩
    refine ite2 (fun c => ?_) (fun c => ?_)
    · rw [c, Bool.true_or] at e
      subst e
      exact q H1 s1
    · rw [Bool.eq_false_iff.mpr c, Bool.false_or] at e
      refine ⟨_, rfl, rfl, ?_⟩
      have e2 : decide (V.str z = V.str "") = b := by
        rw [← e]
        by_cases zz : z = ""
        · rw [decide_eq_true zz, decide_eq_true (congrArg V.str zz)]
        · rw [decide_eq_false zz, decide_eq_false (fun h => zz (V.str.inj h))]
      rw [e2]
      exact q H1 s1
theorem scIsDay : FnScope ["thing"] ["thing"] (defScope sIsDay) := ⟨rfl, rfl, rfl, by decide +kernel, rfl, by decide +kernel, by decide +kernel⟩
theorem ok_isday {fF fN : Addr} {fdF fdN : FuncData} (F : Fn K "is_day" "is_day" sIsDay f fd) (FF : Fn K "is_number_from" "is_number_from" sFrom fF fdF) (gF : mg "is_number_from" = some (.ref fF)) (FN : Fn K "is_number" "is_number" sIsNum fN fdN) (gN : mg "is_number" = some (.ref fN)) (T : Free mg) (C : Cons mg) : FnOk P w K mg base L2.CX0 3 f fd ["thing"] spDay := by
  have GF : FnOk P w K mg base L2.CX0 2 fF fdF ["thing", "least", "most"] spFrom := ok_from FF FN gN T
  have bF : Binds K fdF ["thing", "least", "most"] [] := FF.bindsN fun _ _ _ _ _ _ us hl => match us, hl with | [_, _, _], _ => rfl
  refine F.ok scIsDay (fun vs H Q E h => ?_) (fun cdv A outer s H vs Q E hr hh => ?_)
  · obtain ⟨x, b, rfl, _⟩ := h
    rfl
  · obtain ⟨x, b, rfl, hx, e, q⟩ := hh
    refine ⟨_, PSs.nox (pss_one (ps_ret (pe_call GF hr rfl gF FF.kp bF .nil pass0 (pa_cons (pv 0) (pa_cons (pe_un un_neg (pe_k C.day rfl)) (pa_cons (pe_k C.day rfl) pa_nil)))))), ?_⟩
    refine ⟨_, rfl, _, rfl, x, _, _, rfl, hx, ?_⟩
    rw [← e] at q
    exact q
/-- the program's helpers on people, as they stand -/
structure Ph (K : PySem.W.Frag) (mg : Str → Option Value) : Prop where
  isn : ∃ a d, Fn K "is_number" "is_number" sIsNum a d ∧ mg "is_number" = some (.ref a)
  frm : ∃ a d, Fn K "is_number_from" "is_number_from" sFrom a d ∧ mg "is_number_from" = some (.ref a)
  nam : ∃ a d, Fn K "is_name" "is_name" sIsName a d ∧ mg "is_name" = some (.ref a)
  day : ∃ a d, Fn K "is_day" "is_day" sIsDay a d ∧ mg "is_day" = some (.ref a)
  team : ∃ a d, Fn K "is_team" "is_team" sIsTeam a d ∧ mg "is_team" = some (.ref a)
  fr : Free mg
  cs : Cons mg
theorem Ph.na (h : Ph K mg) : ∃ a d, FnOk P w K mg base L2.CX0 1 a d ["thing"] spNameS ∧ mg "is_name" = some (.ref a) ∧ PySem.W.keepIn K (.ref a) = true ∧ Binds K d ["thing"] [] := by
  obtain ⟨a, d, F, g⟩ := h.nam
  exact ⟨a, d, ok_isnameS F h.fr h.cs, g, F.kp, F.bindsN fun _ _ _ _ _ _ us hl => match us, hl with | [_], _ => rfl⟩
theorem Ph.te (h : Ph K mg) : ∃ a d, FnOk P w K mg base L2.CX0 2 a d ["thing"] spTeamS ∧ mg "is_team" = some (.ref a) ∧ PySem.W.keepIn K (.ref a) = true ∧ Binds K d ["thing"] [] := by
  obtain ⟨a1, d1, F1, g1⟩ := h.nam
  obtain ⟨a, d, F, g⟩ := h.team
  exact ⟨a, d, ok_isteamS F F1 g1 h.fr h.cs, g, F.kp, F.bindsN fun _ _ _ _ _ _ us hl => match us, hl with | [_], _ => rfl⟩
theorem Ph.da (h : Ph K mg) : ∃ a d, FnOk P w K mg base L2.CX0 3 a d ["thing"] spDay ∧ mg "is_day" = some (.ref a) ∧ PySem.W.keepIn K (.ref a) = true ∧ Binds K d ["thing"] [] := by
  obtain ⟨a1, d1, F1, g1⟩ := h.isn
  obtain ⟨a2, d2, F2, g2⟩ := h.frm
  obtain ⟨a, d, F, g⟩ := h.day
  exact ⟨a, d, ok_isday F F2 g2 F1 g1 h.fr h.cs, g, F.kp, F.bindsN fun _ _ _ _ _ _ us hl => match us, hl with | [_], _ => rfl⟩
end
end K16
set_option Elab.async false
set_option linter.all false
set_option maxRecDepth 100000
set_option maxHeartbeats 4000000
namespace K16
open PySem PySem.Spec PyProof.Rows L2 Bb
/-! the class Person, its parts good -/
def pflds (n : Str) (b : Int) (g t : Str) : List (Str × V) := putF "team" (.str t) (putF "group" (.str g) (putF "born" (.int b) (putF "name" (.str n) [])))
theorem pk1 : ¬ (("name" : Str) = "born") := by decide +kernel
theorem pk2 : ¬ (("name" : Str) = "group") := by decide +kernel
theorem pk3 : ¬ (("name" : Str) = "team") := by decide +kernel
theorem pk4 : ¬ (("born" : Str) = "group") := by decide +kernel
theorem pk5 : ¬ (("born" : Str) = "team") := by decide +kernel
theorem pk6 : ¬ (("group" : Str) = "team") := by decide +kernel
section
variable (n : Str) (b : Int) (g t : Str)
theorem f_name : (pflds n b g t).lookup ("name" : Str) = some (.str n) := by
  unfold pflds
  rw [lookup_putF, if_neg pk3, lookup_putF, if_neg pk2, lookup_putF, if_neg pk1, lookup_putF, if_pos rfl]
theorem f_born : (pflds n b g t).lookup ("born" : Str) = some (.int b) := by
  unfold pflds
  rw [lookup_putF, if_neg pk5, lookup_putF, if_neg pk4, lookup_putF, if_pos rfl]
theorem f_group : (pflds n b g t).lookup ("group" : Str) = some (.str g) := by
  unfold pflds
  rw [lookup_putF, if_neg pk6, lookup_putF, if_pos rfl]
theorem f_team : (pflds n b g t).lookup ("team" : Str) = some (.str t) := by
  unfold pflds
  rw [lookup_putF, if_pos rfl]
theorem pf_no {m : Str} (h1 : ¬ m = "team") (h2 : ¬ m = "group") (h3 : ¬ m = "born") (h4 : ¬ m = "name") : (pflds n b g t).lookup m = none := by
  unfold pflds
  rw [lookup_putF, if_neg h1, lookup_putF, if_neg h2, lookup_putF, if_neg h3, lookup_putF, if_neg h4]
  rfl
end
structure PersonT (K : PySem.W.Frag) (mg : Str → Option Value) (C : Addr) : Prop where
  cl : Cls K C
  nN : NoAttr K C "name"
  nB : NoAttr K C "born"
  nG : NoAttr K C "group"
  nT : NoAttr K C "team"
  gC : mg "Person" = some (.ref C)
  ha : PySem.W.findIn K (.ref C) "__class__" = some (some (.builtin "object.__class__"))
  hn : PySem.W.specialIn K (.builtin "object.__class__") "__get__" = some (some (.builtin "getset_descriptor.__get__"))
  ht : PySem.W.takesIn K (.builtin "object.__class__") = some true
  hm : PySem.W.mroIn K C (.type "object") = some true
  kit : PySem.W.kitOne K (.ref C) (.ref C) = some true
structure OkP (n : Str) (b : Int) (g t : Str) : Prop where
  n : nameZ n = true
  b : -40000 ≤ b ∧ b ≤ 40000
  g : nameZ g = true
  t : (nameZ t || decide (t = "")) = true
theorem name_len {z : Str} (h : nameZ z = true) : z.length ≤ 1000 := by
  unfold nameZ at h
  rw [Bool.and_eq_true] at h
  have := of_decide_eq_true h.1
  omega
theorem team_len {z : Str} (h : (nameZ z || decide (z = "")) = true) : z.length ≤ 1000 := by
  rw [Bool.or_eq_true] at h
  rcases h with h | h
  · exact name_len h
  · rw [of_decide_eq_true h]
    decide
theorem name_ok {z : Str} (h : nameZ z = true) : PyData.canLay0 (.str z) = true := by
  unfold nameZ at h
  rw [Bool.and_eq_true] at h
  show z.cps.all (· < 0x110000) = true
  rw [Array.all_eq_true_iff_forall_mem]
  intro c hc
  have h2 := List.all_eq_true.mp h.2 c (by simpa using hc)
  have h3 : c ∈ letters.cps.toList := of_decide_eq_true h2
  have h4 : (letters.cps.toList.all fun c => decide (c < 0x110000)) = true := by decide +kernel
  exact List.all_eq_true.mp h4 c h3
theorem team_ok {z : Str} (h : (nameZ z || decide (z = "")) = true) : PyData.canLay0 (.str z) = true := by
  rw [Bool.or_eq_true] at h
  rcases h with h | h
  · exact name_ok h
  · rw [of_decide_eq_true h]
    decide +kernel
/-- a person at p -/
def PAt (C : Addr) (H : Hp) (p : Addr) (n : Str) (b : Int) (g t : Str) : Prop := ∃ dx, H p = some (.ins C dx (pflds n b g t))
theorem PAt.same {C : Addr} {H H' : Hp} {p : Addr} {n : Str} {b : Int} {g t : Str} (a : PAt C H p n b g t) (s : Same H H') : PAt C H' p n b g t := by
  obtain ⟨dx, h⟩ := a
  exact ⟨dx, s _ _ h⟩
def pD (n : Str) (b : Int) (g t : Str) : PyData := .tuple [.str n, .int b, .str g, .str t]
theorem pD_shaped {n : Str} {b : Int} {g t : Str} (o : OkP n b g t) : SeqAt.shaped (pD n b g t) = true := by
  have h1 := name_ok o.n
  have h2 := name_ok o.g
  have h3 := team_ok o.t
  have e : PyData.canLay0 (pD n b g t) = (PyData.canLay0 (.str n) && (PyData.canLay0 (.int b) && (PyData.canLay0 (.str g) && (PyData.canLay0 (.str t) && true)))) := rfl
  have e2 : PyData.canLay0 (.int b) = true := rfl
  unfold SeqAt.shaped
  rw [e, h1, h2, h3, e2]
  rfl
theorem pD_eqv {n n' : Str} {b b' : Int} {g g' t t' : Str} : PyData.eqv (pD n b g t) (pD n' b' g' t') = decide (n = n' ∧ b = b' ∧ g = g' ∧ t = t') := by
  unfold pD
  simp only [PyData.eqv, PyData.eqvAll]
  rw [Bool.eq_iff_iff]
  simp
theorem pD_dp {K : PySem.W.Frag} {H : Hp} {q : Addr} {n : Str} {b : Int} {g t : Str} (h : H q = some (.tup [.str n, .int b, .str g, .str t])) : Dp K H (.ref q) (pD n b g t) :=
  .tup (SqT.of h) (.cons (.str _) (.cons (.int _) (.cons (.str _) (.cons (.str _) .nil))))
def spPInit (C : Addr) : Sp := fun vs H Q _ => ∃ (p dx : Addr) (n : Str) (b : Int) (g t : Str), vs = [.ref p, .str n, .int b, .str g, .str t] ∧ H p = some (.ins C dx []) ∧ OkP n b g t ∧
  ∀ H', (∀ b o, H b = some o → b ≠ p → H' b = some o) → H' p = some (.ins C dx (pflds n b g t)) → Q .non H'
def spPParts (C : Addr) : Sp := fun vs H Q _ => ∃ (p : Addr) (n : Str) (b : Int) (g t : Str), vs = [.ref p] ∧ PAt C H p n b g t ∧ ∀ q H', H q = none → Same H H' → H' q = some (.tup [.str n, .int b, .str g, .str t]) → Q (.ref q) H'
def spPEq (C : Addr) : Sp := fun vs H Q _ => ∃ (p q : Addr) (n n' : Str) (b b' : Int) (g t g' t' : Str), vs = [.ref p, .ref q] ∧ PAt C H p n b g t ∧ PAt C H q n' b' g' t' ∧ OkP n b g t ∧ OkP n' b' g' t' ∧
  ∀ H', Same H H' → Q (.bl (decide (n = n' ∧ b = b' ∧ g = g' ∧ t = t'))) H'
def spPAge (C CD : Addr) : Sp := fun vs H Q E => ∃ (p : Addr) (x : V) (n : Str) (b : Int) (g t : Str), vs = [.ref p, x] ∧ PAt C H p n b g t ∧ Th H x ∧ (-40000 ≤ b ∧ b ≤ 40000) ∧
  (∀ d, x = .int d → b ≤ d → d ≤ 40000 → Q (.int ((d - b) / 365)) H) ∧ (numIn b 40000 x = false → E (.ref CD) none H)
theorem numIn_ex {lo hi : Int} {x : V} (h : numIn lo hi x = true) : ∃ d, x = .int d ∧ lo ≤ d ∧ d ≤ hi := by
  cases x with
  | int i =>
    have z : (decide (lo ≤ i) && decide (i ≤ hi)) = true := h
    simp only [Bool.and_eq_true, decide_eq_true_eq] at z
    exact ⟨i, rfl, z.1, z.2⟩
  | _ => cases h
theorem numIn_sub {lo hi lo' : Int} {x : V} (h : numIn lo hi x = false) (l : lo ≤ lo') : numIn lo' hi x = false := by
  cases x with
  | int i =>
    have z : (decide (lo ≤ i) && decide (i ≤ hi)) = false := h
    show (decide (lo' ≤ i) && decide (i ≤ hi)) = false
    simp only [Bool.and_eq_false_iff, decide_eq_false_iff_not] at z ⊢
    omega
  | _ => rfl
section
variable {P : Program} {w : World} {K : PySem.W.Frag} {mg : Str → Option Value} {base : Heap} {f : Addr} {fd : FuncData}
abbrev nPInit : List Str := ["self", "name", "born", "group", "team"]
theorem scPInit : FnScope nPInit nPInit (defScope sPInit) := ⟨rfl, rfl, rfl, by decide +kernel, rfl, by decide +kernel, by decide +kernel⟩
theorem ok_pinit {C : Addr} {dvs : List V} (F : FunD K "__init__" "Person.__init__" (defArgs sPInit) (defBody sPInit) (defScope sPInit) dvs [] f fd) (h : Ph K mg) (R : PersonT K mg C) : FnOk P w K mg base L2.CX0 4 f fd nPInit (spPInit C) := by
  obtain ⟨aN, dN, GN, gN, kN, bN⟩ := h.na (P := P) (w := w) (base := base)
  obtain ⟨aT, dT, GT, gT, kT, bT⟩ := h.te (P := P) (w := w) (base := base)
  obtain ⟨aD, dD, GD, gD, kD, bD⟩ := h.da (P := P) (w := w) (base := base)
  refine F.ok scPInit (fun vs H Q E h => ?_) (fun cdv A outer s H vs Q E hr hh => ?_)
  · obtain ⟨p, dx, n, b, g, t, rfl, _⟩ := h
    rfl
  · obtain ⟨p, dx, n, b, g, t, rfl, hp, ok, q⟩ := hh
    have hr1 : Room 1 _ := hr.mono (by decide)
    have hr2 : Room 2 _ := hr.mono (by decide)
    refine ⟨_, PSs.nox (pss_cons (ps_if (pt_not (pt_val (pe_call GN hr1 rfl gN kN bN .nil pass0 (pa_cons (pv 1) pa_nil)))) pss_never pss_nil)
      (pss_cons (ps_if (pt_not (pt_val (pe_call GD hr rfl gD kD bD .nil pass0 (pa_cons (pv 2) pa_nil)))) pss_never pss_nil)
      (pss_cons (ps_if (pt_not (pt_val (pe_call GN hr1 rfl gN kN bN .nil pass0 (pa_cons (pv 3) pa_nil)))) pss_never pss_nil)
      (pss_cons (ps_if (pt_not (pt_val (pe_call GT hr2 rfl gT kT bT .nil pass0 (pa_cons (pv 4) pa_nil)))) pss_never pss_nil)
      (pss_cons (ps_fld (pv 0) (pv 1) rfl) (pss_cons (ps_fld (pv 0) (pv 2) rfl) (pss_cons (ps_fld (pv 0) (pv 3) rfl) (pss_one (ps_fld (pv 0) (pv 4) rfl))))))))), ?_⟩
    refine ⟨_, rfl, n, true, rfl, name_len ok.n, ok.n, fun H1 s1 => ⟨_, rfl, iteF ?_⟩⟩
    have e1 : numIn (-40000) 40000 (.int b) = true := by
      show (decide (-40000 ≤ b) && decide (b ≤ 40000)) = true
      simp [ok.b.1, ok.b.2]
    refine ⟨_, rfl, .int b, true, rfl, .int b, e1, _, rfl, iteF ?_⟩
    refine ⟨_, rfl, g, true, rfl, name_len ok.g, ok.g, fun H2 s2 => ⟨_, rfl, iteF ?_⟩⟩
    refine ⟨_, rfl, t, true, rfl, team_len ok.t, ok.t, fun H3 s3 => ⟨_, rfl, iteF ?_⟩⟩
    have sm : Same H H3 := (s1.trans s2).trans s3
    refine ⟨_, rfl, _, rfl, p, C, dx, _, rfl, sm _ _ hp, R.cl, R.nN, (by show 0 < 1000; decide), ?_⟩
    refine ⟨_, rfl, _, rfl, p, C, dx, _, rfl, upd_same, R.cl, R.nB, Nat.lt_of_le_of_lt (length_putF _ _ _) (by decide), ?_⟩
    refine ⟨_, rfl, _, rfl, p, C, dx, _, rfl, upd_same, R.cl, R.nG, Nat.lt_of_le_of_lt (Nat.le_trans (length_putF _ _ _) (Nat.add_le_add_right (length_putF _ _ _) 1)) (by decide), ?_⟩
    refine ⟨_, rfl, _, rfl, p, C, dx, _, rfl, upd_same, R.cl, R.nT, Nat.lt_of_le_of_lt (Nat.le_trans (length_putF _ _ _) (Nat.add_le_add_right (Nat.le_trans (length_putF _ _ _) (Nat.add_le_add_right (length_putF _ _ _) 1)) 1)) (by decide), ?_⟩
    refine q _ (fun b o e ne => ?_) upd_same
    rw [upd_ne ne, upd_ne ne, upd_ne ne, upd_ne ne]
    exact sm b o e
theorem scPParts : FnScope ["self"] ["self"] (defScope sPParts) := ⟨rfl, rfl, rfl, by decide +kernel, rfl, by decide +kernel, by decide +kernel⟩
theorem ok_pparts {C : Addr} (F : Fn K "parts" "Person.parts" sPParts f fd) (R : PersonT K mg C) : FnOk P w K mg base L2.CX0 1 f fd ["self"] (spPParts C) := by
  refine F.ok scPParts (fun vs H Q E h => ?_) (fun cdv A outer s H vs Q E hr hh => ?_)
  · obtain ⟨p, n, b, g, t, rfl, _⟩ := h
    rfl
  · obtain ⟨p, n, b, g, t, rfl, ⟨dx, hp⟩, q⟩ := hh
    refine ⟨_, PSs.nox (pss_one (ps_ret (pe_tup (pa_cons (pe_fld (pv 0) rfl) (pa_cons (pe_fld (pv 0) rfl) (pa_cons (pe_fld (pv 0) rfl) (pa_cons (pe_fld (pv 0) rfl) pa_nil))))))), ?_⟩
    refine ⟨_, rfl, p, C, dx, _, _, rfl, hp, R.cl, R.nN, f_name _ _ _ _, _, rfl, p, C, dx, _, _, rfl, hp, R.cl, R.nB, f_born _ _ _ _, _, rfl, p, C, dx, _, _, rfl, hp, R.cl, R.nG, f_group _ _ _ _, _, rfl, p, C, dx, _, _, rfl, hp, R.cl, R.nT, f_team _ _ _ _, (by show 4 ≤ sizeLine; decide), fun r hr' => ?_⟩
    exact q r _ hr' (up2 hr') upd_same
theorem scPEq : FnScope ["self", "other"] ["self", "other"] (defScope sPEq) := ⟨rfl, rfl, rfl, by decide +kernel, rfl, by decide +kernel, by decide +kernel⟩
theorem ok_peq {C fP : Addr} {fdP : FuncData} (F : Fn K "__eq__" "Person.__eq__" sPEq f fd) (T : Free mg) (R : PersonT K mg C) (FP : Fn K "parts" "Person.parts" sPParts fP fdP) (mP : Meth K C "parts" fP) : FnOk P w K mg base L2.CX0 2 f fd ["self", "other"] (spPEq C) := by
  have GP : FnOk P w K mg base L2.CX0 1 fP fdP ["self"] (spPParts C) := ok_pparts FP R
  have bP : Binds K fdP ["self"] [] := FP.bindsN fun _ _ _ _ _ _ us hl => match us, hl with | [_], _ => rfl
  refine F.ok scPEq (fun vs H Q E h => ?_) (fun cdv A outer s H vs Q E hr hh => ?_)
  · obtain ⟨p, q, n, n', b, b', g, t, g', t', rfl, _⟩ := h
    rfl
  · obtain ⟨p, q, n, n', b, b', g, t, g', t', rfl, ap, aq, o1, o2, fin⟩ := hh
    obtain ⟨dx, hp⟩ := id ap
    obtain ⟨dy, hq⟩ := id aq
    refine ⟨_, PSs.nox (pss_one (ps_ret (pe_and (pe_callB call_isi rfl T.isi boot_isinstance (pa_cons (pv 1) (pa_cons (pe_glob rfl R.gC (v := .ref C) rfl) pa_nil)))
      (pe_one (pe_cmpR (op_eqD hr.units) (pe_meth0 (pv 0) R.cl mP GP hr bP .nil pass0) (pe_meth0 (pv 1) R.cl mP GP hr bP .nil pass0) (nomark _)))))), ?_⟩
    refine ⟨_, rfl, _, _, _, _, _, rfl, .own C, .base (.ins hq R.cl R.ha R.hn R.ht R.hm), R.kit, _, rfl, iteT ?_⟩
    refine ⟨_, rfl, p, dx, _, rfl, hp, pf_no _ _ _ _ (by decide +kernel) (by decide +kernel) (by decide +kernel) (by decide +kernel), p, n, b, g, t, rfl, ap, fun r1 H1 n1 s1 h1 => ?_⟩
    refine ⟨_, rfl, q, dy, _, rfl, s1 _ _ hq, pf_no _ _ _ _ (by decide +kernel) (by decide +kernel) (by decide +kernel) (by decide +kernel), q, n', b', g', t', rfl, aq.same s1, fun r2 H2 n2 s2 h2 => ?_⟩
    refine ⟨pD n b g t, pD n' b' g' t', pD_dp (s2 _ _ h1), pD_dp h2, pD_shaped o1, pD_shaped o2, ?_⟩
    rw [pD_eqv]
    exact fin H2 (s1.trans s2)
theorem scPAge : FnScope ["self", "day"] ["self", "day"] (defScope sPAge) := ⟨rfl, rfl, rfl, by decide +kernel, rfl, by decide +kernel, by decide +kernel⟩
theorem ok_page {C CD : Addr} (F : Fn K "age_on" "Person.age_on" sPAge f fd) (h : Ph K mg) (R : PersonT K mg C) (ea : ErrT K mg "NoDay" CD) : FnOk P w K mg base (L2.CX P w) 4 f fd ["self", "day"] (spPAge C CD) := by
  obtain ⟨aD, dD, GD, gD, kD, bD⟩ := h.da (P := P) (w := w) (base := base)
  refine F.ok (CX := L2.CX P w) scPAge (fun vs H Q E h => ?_) (fun cdv A outer s H vs Q E hr hh => ?_)
  · obtain ⟨p, x, n, b, g, t, rfl, _⟩ := h
    rfl
  · obtain ⟨p, x, n, b, g, t, rfl, ap, hx, hb, q, qe⟩ := hh
    obtain ⟨dx, hp⟩ := id ap
    refine ⟨_, pss_cons (ps_if (PW.pt (pw_or (pt_not (pt_val (pe_call GD hr rfl gD kD bD .nil pass0 (pa_cons (pv 1) pa_nil)))) (pw_or1 (pt_cmpR op_lt (pv 1) (pe_fld (pv 0) rfl) (nomark _)))))
        (pss_one (ps_raise rfl (takes_of rfl rfl rfl rfl) (pmk_own PySem.F.excBase_ValueError ea.ex ea.g ea.kp (raises_own ea.sb ea.ty) rfl))) pss_nil)
      (pss_one (ps_ret (pe_op op_fdiv (pe_op op_sub (pv 1) (pe_fld (pv 0) rfl)) (pe_k h.cs.year rfl)))), ?_⟩
    cases e : numIn (-40000) 40000 x with
    | false =>
      refine ⟨_, rfl, x, false, rfl, hx, e, _, rfl, iteT ?_⟩
      exact qe (numIn_sub e hb.1)
    | true =>
      refine ⟨_, rfl, x, true, rfl, hx, e, _, rfl, iteF ?_⟩
      obtain ⟨d, rfl, d1, d2⟩ := numIn_ex e
      refine ⟨_, rfl, _, rfl, p, C, dx, _, _, rfl, hp, R.cl, R.nB, f_born _ _ _ _, _, _, rfl, rfl, _, rfl, ?_⟩
      refine ite2 (fun c => ?_) (fun c => ?_)
      · have c' : d < b := of_decide_eq_true c
        refine qe ?_
        show (decide (b ≤ d) && decide (d ≤ 40000)) = false
        rw [decide_eq_false (by omega), Bool.false_and]
      · have c' : ¬ d < b := fun z => c (decide_eq_true z)
        refine ⟨_, rfl, _, rfl, p, C, dx, _, _, rfl, hp, R.cl, R.nB, f_born _ _ _ _, _, _, rfl, rfl, _, _, rfl, rfl, ⟨by decide, by decide⟩, ?_⟩
        exact q d rfl (by omega) d2
end
end K16
set_option Elab.async false
set_option linter.all false
set_option maxRecDepth 100000
set_option maxHeartbeats 4000000
namespace K16
open PySem PySem.Spec PyProof.Rows L2 Bb
/-! the classes of an age and of the next one -/
theorem rgV_map' (a : Nat) (n : Int) : rgV (a : Int) n = ((List.range (n - (a : Int)).toNat).map fun i => (a : Int) + (i : Nat)).map V.int := by
  unfold rgV
  rw [List.map_map]
  rfl
theorem fst_cons (n : Int) (ns : List Int) (a : Int) : fst (n :: ns) a = (if n ≤ a then 1 else 0) + fst ns a := by
  unfold fst
  rw [List.filter_cons]
  by_cases h : n ≤ a
  · rw [if_pos (decide_eq_true h), if_pos h, List.length_cons]
    omega
  · rw [if_neg (by simpa using h), if_neg h]
    omega
theorem fst_succ : ∀ (ns : List Int) (a : Int), ns.Pairwise (· < ·) → fst ns (a + 1) = fst ns a + (if a + 1 ∈ ns then 1 else 0)
  | [], a, _ => by simp [fst]
  | n :: ns, a, h => by
    obtain ⟨h1, h2⟩ := List.pairwise_cons.mp h
    rw [fst_cons, fst_cons, fst_succ ns a h2]
    by_cases c : a + 1 = n
    · have no : a + 1 ∉ ns := fun z => by
        have := h1 _ z
        omega
      rw [if_neg no, if_pos (show a + 1 ∈ n :: ns by rw [c]; exact List.mem_cons_self), if_pos (by omega), if_neg (by omega)]
      omega
    · have e : (a + 1 ∈ n :: ns) ↔ a + 1 ∈ ns := by
        rw [List.mem_cons]
        exact ⟨fun z => z.resolve_left c, .inr⟩
      by_cases d : a + 1 ∈ ns
      · rw [if_pos d, if_pos (e.mpr d)]
        by_cases g : n ≤ a
        · rw [if_pos g, if_pos (by omega)]
          omega
        · rw [if_neg g, if_neg (by omega)]
          omega
      · rw [if_neg d, if_neg (fun z => d (e.mp z))]
        by_cases g : n ≤ a
        · rw [if_pos g, if_pos (by omega)]
          omega
        · rw [if_neg g, if_neg (by omega)]
          omega
theorem cls_head (ns : List Int) (up : Bool) (a : Int) : ∃ r, clsP ns up a = (fst ns a : Int) :: r := by
  have fl := fst_le ns a
  unfold clsP
  cases up with
  | true =>
    rw [if_pos rfl]
    obtain ⟨m, hm⟩ : ∃ m, ((ns.length + 1 : Int) - (fst ns a : Int)).toNat = m + 1 := ⟨((ns.length + 1 : Int) - (fst ns a : Int)).toNat - 1, by omega⟩
    rw [hm, List.range_succ_eq_map, List.map_cons]
    exact ⟨(List.map Nat.succ (List.range m)).map fun i => (fst ns a : Int) + (i : Nat), by simp⟩
  | false =>
    rw [if_neg Bool.false_ne_true]
    exact ⟨[], rfl⟩
theorem cls_last (ns : List Int) (up : Bool) (a : Int) : ∃ r z, clsP ns up a = r ++ [z] ∧ z ≤ (ns.length : Int) := by
  have fl := fst_le ns a
  unfold clsP
  cases up with
  | true =>
    rw [if_pos rfl]
    obtain ⟨m, hm⟩ : ∃ m, ((ns.length + 1 : Int) - (fst ns a : Int)).toNat = m + 1 := ⟨((ns.length + 1 : Int) - (fst ns a : Int)).toNat - 1, by omega⟩
    rw [hm, List.range_succ, List.map_append]
    exact ⟨_, (fst ns a : Int) + (m : Nat), rfl, by omega⟩
  | false =>
    rw [if_neg Bool.false_ne_true]
    exact ⟨[], _, rfl, by omega⟩
theorem fst_at {ns : List Int} (ok : OkL ns) {a : Int} (h : fst ns a < ns.length) : a < ns[fst ns a] := by
  obtain ⟨_, _, hi⟩ := split_at (age := a) ns ok.up
  refine hi _ ?_
  rw [List.mem_iff_getElem]
  refine ⟨0, by rw [List.length_drop]; omega, ?_⟩
  rw [List.getElem_drop]
  simp
theorem fst_perm {ns ms : List Int} (p : ms.Perm ns) (a : Int) : fst ms a = fst ns a := (p.filter _).length_eq
theorem fst_snoc (ns : List Int) (b a : Int) : fst (ns ++ [b]) a = fst ns a + (if b ≤ a then 1 else 0) := by
  unfold fst
  rw [List.filter_append, List.length_append, List.filter_cons, List.filter_nil]
  by_cases h : b ≤ a
  · rw [if_pos (decide_eq_true h), if_pos h]
    rfl
  · rw [if_neg (by simpa using h), if_neg h]
    rfl
theorem in_map {ns : List Int} {z : Int} : inV (.int z) (ns.map V.int) = decide (z ∈ ns) := by
  unfold inV
  rw [List.any_map, Bool.eq_iff_iff, List.any_eq_true, decide_eq_true_iff]
  constructor
  · rintro ⟨x, hx, e⟩
    have e2 : eqV (.int x) (.int z) = true := e
    have : x = z := by simpa [eqV] using e2
    rw [← this]
    exact hx
  · intro h
    refine ⟨z, h, ?_⟩
    show eqV (.int z) (.int z) = true
    simp [eqV]
theorem flat_ints (ns : List Int) : (ns.map V.int).all flatV = true := by
  rw [List.all_map, List.all_eq_true]
  intro x _
  rfl
def spClsRight (C : Addr) : Sp := fun vs H Q _ => ∃ (T x l : Addr) (ns : List Int) (up : Bool) (wd : Int) (sh : Bool) (age : Int), vs = [.ref T, .ref x, .int age] ∧ H T = some (.tup [.ref l, .bl up, .int wd, .bl sh]) ∧ At C H x l ns up wd sh ∧ (0 ≤ age ∧ age ≤ 299) ∧ ∀ H', Same H H' → Q (.bl true) H'
section
variable {P : Program} {w : World} {K : PySem.W.Frag} {mg : Str → Option Value} {base : Heap} {f : Addr} {fd : FuncData}
/-- the class Rules with its methods -/
structure OwnR (K : PySem.W.Frag) (mg : Str → Option Value) (C : Addr) : Prop where
  r : RulesT K mg C
  ini : ∃ a d dvs, FunD K "__init__" "Rules.__init__" (defArgs sInit) (defBody sInit) (defScope sInit) dvs [] a d ∧ dvs.length = 4 ∧ Mk K C a
  cls : ∃ a d, Fn K "classes_of" "Rules.classes_of" sCls a d ∧ Meth K C "classes_of" a
  len : ∃ a d, Fn K "__len__" "Rules.__len__" sLen a d ∧ PySem.W.findIn K (.ref C) "__len__" = some (some (.ref a)) ∧ PySem.W.isFn K (.ref a) = true
  eq : ∃ a d, Fn K "__eq__" "Rules.__eq__" sEq a d ∧ PySem.W.findIn K (.ref C) "__eq__" = some (some (.ref a)) ∧ PySem.W.isFn K (.ref a) = true
  ne : PySem.W.findIn K (.ref C) "__ne__" = some (some (.builtin "object.__ne__"))
  ob : PySem.W.subIn K (.ref C) (.type "object") = some true
theorem rinit_binds {dvs : List V} (F : FunD K "__init__" "Rules.__init__" (defArgs sInit) (defBody sInit) (defScope sInit) dvs [] f fd) (h : dvs.length = 4) : Binds K fd nInit [] := by
  obtain ⟨ds, rd, b⟩ := F.binds1 (ps := nInit) 5 4 (by intro e; rw [e] at h; cases h) (by rw [h]; rfl) (fun T kV doc pm an cdv ct us its h1 h2 => by
    rw [h] at h2
    match us, its, h1, h2 with
    | [_, _, _, _, _], [_, _, _, _], _, _ => exact ⟨_, rfl, rfl⟩)
  have e : dvs.drop 4 = [] := List.drop_of_length_le (by omega)
  rw [e] at rd
  cases rd
  exact b
abbrev nCR : List Str := ["_law_row", "_law_one", "_law_age", "_law_told", "_law_later"]
theorem scCR : FnScope nCR ["_law_row", "_law_one", "_law_age"] (defScope sClsRight) := ⟨rfl, rfl, rfl, by decide +kernel, rfl, by decide +kernel, by decide +kernel⟩
theorem num_in {lo hi i : Int} (h : lo ≤ i ∧ i ≤ hi) : numIn lo hi (.int i) = true := by
  show (decide (lo ≤ i) && decide (i ≤ hi)) = true
  rw [decide_eq_true h.1, decide_eq_true h.2]
  rfl
def tCR2 (C : Addr) : TS := fun D σ H => ∃ (Tr x t l : Addr) (ns : List Int) (up : Bool) (wd : Int) (sh : Bool) (age : Int), σ = [some (.ref Tr), some (.ref x), some (.int age), some (.ref t), none] ∧ H Tr = some (.tup [.ref l, .bl up, .int wd, .bl sh]) ∧ At C H x l ns up wd sh ∧ H t = some (.lst ((clsP ns up age).map V.int)) ∧
  ∀ H', Same H H' → D.nx [some (.ref Tr), some (.ref x), some (.int age), some (.ref t), none] H'
theorem ok_clsright {C CA : Addr} (F : Fn K "_law_classes_right" "_law_classes_right" sClsRight f fd) (h : Hlp K mg) (o : OwnR K mg C) (ea : ErrT K mg "NoAge" CA) : FnOk P w K mg base L2.CX0 5 f fd ["_law_row", "_law_one", "_law_age"] (spClsRight C) := by
  obtain ⟨aMe, dMe, FMe, mMe⟩ := o.cls
  obtain ⟨aLe, dLe, FLe, lLe, iLe⟩ := o.len
  have R := o.r
  have T := h.fr
  have GMe : FnOk P w K mg base (L2.CX P w) 4 aMe dMe ["self", "age"] (spCls C CA) := ok_cls FMe h R FLe lLe iLe ea
  have GLe : FnOk P w K mg base L2.CX0 1 aLe dLe ["self"] (spLen C) := ok_len FLe T R
  have bMe : Binds K dMe ["self", "age"] [] := FMe.bindsN fun _ _ _ _ _ _ us hl => match us, hl with | [_, _], _ => rfl
  have bLe : Binds K dLe ["self"] [] := FLe.bindsN fun _ _ _ _ _ _ us hl => match us, hl with | [_], _ => rfl
  refine F.ok scCR (fun vs H Q E h => ?_) (fun cdv A outer s H vs Q E hr hh => ?_)
  · obtain ⟨T, x, l, ns, up, wd, sh, age, rfl, _⟩ := h
    rfl
  · obtain ⟨Tr, x, l, ns, up, wd, sh, age, rfl, hT, at_, ⟨g0, g1⟩, q⟩ := hh
    have hr2 : Room 2 (A.deeper _) := hr.mono (by decide)
    refine' ⟨_, PSs.nox (pss_cons (ps_set (i := 3) scCR.nd rfl (.inl rfl) (pe_meth (pv 1) R.cl mMe GMe hr bMe .nil passL (pa_cons (pv 2) pa_nil)))
      (pss_cons (ps_if (PW.pt (pw_or (pt_cmpR (op_eqD hr.units) (pv 3) (pe_lst pa_nil) (nomark _)) (pw_or (pt_cmpR op_ge (pe_ix ix_list (pv 3) (pe_un un_neg pe_int) (fun _ _ => rfl)) (pe_callB (call_lenOwn GLe hr2 lLe iLe bLe pass0) rfl T.len_ boot_len (pa_cons (pv 1) pa_nil)) (nomark _)) (pw_or1 (pt_cmpR op_lt (pe_ix ix_list (pv 3) pe_int (fun _ _ => rfl)) pe_int (nomark _)))))) (pss_one (ps_ret pe_bl)) pss_nil)
      (pss_cons (psBy (t' := tCR2 C) (ps_if (PW.pt (pw_or (PW.pt (pw_and (pt_val (pe_ix ix_tup (pv 0) pe_int (fun _ _ => rfl))) (pw_and1 (pt_cmpR (op_neD hr.units) (pv 3) (pe_listRg rfl rfl T.list_ (prg_2 rfl T.rng_ (pe_ix ix_list (pv 3) pe_int (fun _ _ => rfl)) (pe_callB (call_lenOwn GLe hr2 lLe iLe bLe pass0) rfl T.len_ boot_len (pa_cons (pv 1) pa_nil)))) (nomark _)))))
          (pw_or1 (PW.pt (pw_and (pt_not (pt_val (pe_ix ix_tup (pv 0) pe_int (fun _ _ => rfl)))) (pw_and1 (pt_cmpR op_ne (pe_callB call_len_seq rfl T.len_ boot_len (pa_cons (pv 3) pa_nil)) pe_int (nomark _)))))))) (pss_one (ps_ret pe_bl)) pss_nil) ?w2)
      (pss_cons (ps_set (i := 4) scCR.nd rfl (.inl rfl) (pe_ix ix_list (pe_meth (pv 1) R.cl mMe GMe hr bMe .nil passL (pa_cons (pe_op op_add (pv 2) pe_int) pa_nil)) pe_int (fun _ _ => rfl)))
      (pss_cons (ps_if (pt_cmpR op_ne (pv 4) (pe_op op_add (pe_ix ix_list (pv 3) pe_int (fun _ _ => rfl)) (pe_callTy call_int1 rfl T.int_ (by decide +kernel) (pa_cons (pe_cmpR op_in_seq (pe_op op_add (pv 2) pe_int) (pe_ix ix_tup (pv 0) pe_int (fun _ _ => rfl)) rfl) pa_nil))) (nomark _)) (pss_one (ps_ret pe_bl)) pss_nil)
      (pss_one (ps_ret (pe_or (pe_cmpR op_eq (pe_ix ix_list (pv 3) pe_int (fun _ _ => rfl)) (pe_op op_sub (pe_callB (call_lenOwn GLe hr2 lLe iLe bLe pass0) rfl T.len_ boot_len (pa_cons (pv 1) pa_nil)) pe_int) (nomark _)) (pe_one (pe_cmpR op_lt (pv 2) (pe_ix ix_tup (pe_ix ix_tup (pv 0) pe_int (fun _ _ => rfl)) (pe_ix ix_list (pv 3) pe_int (fun _ _ => rfl)) (fun _ _ => rfl)) (nomark _))))))))))), ?r⟩
    case w2 =>
      rintro D σ H1 ⟨Tr, x, t, l, ns, up, wd, sh, age, rfl, hT, at_, ht, nx⟩
      have i1 : ∀ {a b c d : V}, atI [a, b, c, d] (1 : Int) = some b := fun {a b c d} => at_of (j := 1) rfl rfl
      obtain ⟨dx, hx⟩ := at_.ob
      have okl := at_.ok
      have l4 := okl.len
      have fl := fst_le ns age
      obtain ⟨r1, e1⟩ := cls_head ns up age
      have c0 : atI ((clsP ns up age).map V.int) (0 : Int) = some (.int (fst ns age)) := by
        rw [e1]
        exact at_of (j := 0) rfl rfl
      refine ⟨_, rfl, Tr, _, _, _, rfl, rfl, SqT.of hT, i1, _, rfl, ?_⟩
      cases up with
      | true =>
        refine iteT ?_
        refine ⟨_, rfl, _, rfl, t, _, _, _, rfl, rfl, SqL.of ht, c0, ?_⟩
        refine ⟨_, rfl, x, dx, _, rfl, hx, x, l, ns, true, wd, sh, rfl, at_, fun H2 s2 => ⟨_, rfl, ⟨by omega, by omega⟩, ?_⟩⟩
        refine ⟨_, _, rfl, rfl, RgOk.of_le (by omega) (by omega) (by omega) (by omega), fun r hr' => ?_⟩
        have s3 := up2 (o := .lst (rgV (fst ns age : Int) ((ns.length + 1 : Nat) : Int))) hr'
        have ht3 := s3 _ _ (s2 _ _ ht)
        have ec : clsP ns true age = (List.range (((ns.length + 1 : Nat) : Int) - (fst ns age : Int)).toNat).map fun i => (fst ns age : Int) + (i : Nat) := by
          unfold clsP
          rw [if_pos rfl]
          have e5 : (((ns.length + 1 : Nat)) : Int) = (ns.length : Int) + 1 := by omega
          rw [e5]
        have hr3 : (upd H2 r (.lst (rgV (fst ns age : Int) ((ns.length + 1 : Nat) : Int)))) r = some (.lst ((clsP ns true age).map V.int)) := by
          rw [upd_same, rgV_map', ec]
        refine ⟨.list ((clsP ns true age).map PyData.int), .list ((clsP ns true age).map PyData.int), .lst (SqL.of ht3) (dp_ints _), .lst (SqL.of hr3) (dp_ints _), shaped_list _, shaped_list _, _, rfl, ?_⟩
        have q1 : PyData.eqv (.list ((clsP ns true age).map PyData.int)) (.list ((clsP ns true age).map PyData.int)) = true := by
          have : PyData.eqv (.list ((clsP ns true age).map PyData.int)) (.list ((clsP ns true age).map PyData.int)) = decide (clsP ns true age = clsP ns true age) := by
            rw [← eqv_ints]
            simp only [PyData.eqv]
          rw [this]
          exact decide_eq_true rfl
        rw [q1]
        refine iteF ?_
        have hT3 := s3 _ _ (s2 _ _ hT)
        refine ⟨_, rfl, Tr, _, _, _, rfl, rfl, SqT.of hT3, i1, _, rfl, iteF ?_⟩
        exact nx _ (s2.trans s3)
      | false =>
        refine iteF ?_
        refine ⟨_, rfl, Tr, _, _, _, rfl, rfl, SqT.of hT, i1, _, rfl, iteT ?_⟩
        refine ⟨_, rfl, t, _, rfl, .inl (SqL.of ht), rfl, _, rfl, ?_⟩
        have one : (clsP ns false age).map V.int = [V.int (fst ns age)] := by
          unfold clsP
          rw [if_neg Bool.false_ne_true]
          rfl
        rw [one]
        exact iteF (nx _ (Same.refl _))
    have i0 : ∀ {a b c d : V}, atI [a, b, c, d] (0 : Int) = some a := fun {a b c d} => at_of (j := 0) rfl rfl
    have i1 : ∀ {a b c d : V}, atI [a, b, c, d] (1 : Int) = some b := fun {a b c d} => at_of (j := 1) rfl rfl
    obtain ⟨dx, hx⟩ := at_.ob
    have okl := at_.ok
    have l4 := okl.len
    have fl := fst_le ns age
    have no {m : Str} (h1 : ¬ m = "shares") (h2 : ¬ m = "wind") (h3 : ¬ m = "up") (h4 : ¬ m = "limits") := f_no l up wd sh h1 h2 h3 h4
    refine ⟨_, rfl, x, dx, _, rfl, hx, f_no _ _ _ _ (by decide) (by decide) (by decide) (by decide), _, rfl, x, l, .int age, ns, up, wd, sh, rfl, at_, .int age, fun ag eag a0 a1 H1 t s1 nt ht => ?_, fun e => by rw [num_in ⟨by omega, by omega⟩] at e; cases e⟩
    injection eag with eag
    subst eag
    obtain ⟨r1, e1⟩ := cls_head ns up age
    obtain ⟨r2, z2, e2, z2le⟩ := cls_last ns up age
    obtain ⟨cs, ecs⟩ : ∃ cs, cs = clsP ns up age := ⟨_, rfl⟩
    have e1c : cs = (fst ns age : Int) :: r1 := by rw [ecs, e1]
    have e2c : cs = r2 ++ [z2] := by rw [ecs, e2]
    have clen : cs.length ≤ 5 := by
      rw [ecs]
      exact clsP_len okl up age
    rw [← ecs] at ht
    have c0 : atI (cs.map V.int) (0 : Int) = some (.int (fst ns age)) := by
      rw [e1c]
      exact at_of (j := 0) rfl rfl
    have cl : atI (cs.map V.int) (-1 : Int) = some (.int z2) := by
      rw [e2c, List.map_append]
      exact atI_last _ _
    have at1 := at_.same s1
    have hT1 := s1 _ _ hT
    -- told == []
    refine ⟨_, rfl, Nat.zero_le _, fun z hz => ?_⟩
    have s2 := s1.trans (up2 (o := .lst []) hz)
    have ht2 := (up2 (o := .lst []) hz) _ _ ht
    refine ⟨.list (cs.map PyData.int), .list (([] : List Int).map PyData.int), .lst (SqL.of ht2) (dp_ints _), .lst (SqL.of upd_same) .nil, shaped_list _, shaped_list _, ?_⟩
    have q1 : PyData.eqv (.list (cs.map PyData.int)) (.list (([] : List Int).map PyData.int)) = false := by
      have : PyData.eqv (.list (cs.map PyData.int)) (.list (([] : List Int).map PyData.int)) = decide (cs = []) := by
        rw [← eqv_ints]
        simp only [PyData.eqv]
      rw [this, e1c]
      rfl
    rw [q1]
    refine ⟨_, rfl, iteF ?_⟩
    have at2 := at_.same s2
    obtain ⟨dx2, hx2⟩ := at2.ob
    obtain ⟨H2, eH2⟩ : ∃ G, G = upd H1 z (.lst []) := ⟨_, rfl⟩
    rw [← eH2] at s2 ht2 at2 hx2 ⊢
    refine ⟨_, rfl, _, rfl, t, _, _, _, rfl, rfl, SqL.of ht2, cl, ?_⟩
    refine ⟨_, rfl, x, dx2, _, rfl, hx2, x, l, ns, up, wd, sh, rfl, at2, fun H3 s3 => ⟨_, rfl, ⟨by omega, by omega⟩, ?_⟩⟩
    refine ⟨_, _, rfl, rfl, _, rfl, ?_⟩
    have q2 : decide (z2 ≥ ((ns.length + 1 : Nat) : Int)) = false := decide_eq_false (by omega)
    rw [q2]
    refine iteF ?_
    have ht3 := s3 _ _ ht2
    refine ⟨_, rfl, t, _, _, _, rfl, rfl, SqL.of ht3, c0, _, _, rfl, rfl, _, rfl, ?_⟩
    have q3 : decide ((fst ns age : Int) < 0) = false := decide_eq_false (by omega)
    rw [q3]
    refine iteF ?_
    have s123 := s2.trans s3
    have hT3 := s123 _ _ hT
    have at3 := at_.same s123
    rw [ecs] at ht3
    refine ⟨Tr, x, t, l, ns, up, wd, sh, age, rfl, hT3, at3, ht3, fun H4 s4 => ?_⟩
    have at4 := at3.same s4
    have hT4 := s4 _ _ hT3
    have ht4 := s4 _ _ ht3
    obtain ⟨dx4, hx4⟩ := at4.ob
    rw [← ecs] at ht4
    refine ⟨_, rfl, x, dx4, _, rfl, hx4, f_no _ _ _ _ (by decide) (by decide) (by decide) (by decide), _, rfl, _, _, rfl, rfl, x, l, .int (age + 1), ns, up, wd, sh, rfl, at4, .int _, fun ag eag a0 a1 H5 t5 s5 nt5 ht5 => ?_, fun e => by rw [num_in ⟨by omega, by omega⟩] at e; cases e⟩
    injection eag with eag
    subst eag
    obtain ⟨r5, e5⟩ := cls_head ns up (age + 1)
    have c5 : atI ((clsP ns up (age + 1)).map V.int) (0 : Int) = some (.int (fst ns (age + 1))) := by
      rw [e5]
      exact at_of (j := 0) rfl rfl
    refine ⟨t5, _, _, _, rfl, rfl, SqL.of ht5, c5, ?_⟩
    have hT5 := s5 _ _ hT4
    have at5 := at4.same s5
    have ht5' := s5 _ _ ht4
    obtain ⟨dx5, hx5⟩ := at5.ob
    have fs := fst_succ ns age okl.up
    refine ⟨_, rfl, _, rfl, t, _, _, _, rfl, rfl, SqL.of ht5', c0, _, rfl, _, _, rfl, rfl, _, rfl, Tr, _, _, _, rfl, rfl, SqT.of hT5, i0, l, _, rfl, .inr (SqT.of at5.li), rfl, flat_ints ns, .inr ⟨_, rfl, ?_⟩⟩
    have q6 : (!decide (V.int (fst ns (age + 1) : Nat) = V.int ((fst ns age : Int) + b2i (if false = true then !inV (.int (age + 1)) (ns.map V.int) else inV (.int (age + 1)) (ns.map V.int))))) = false := by
      rw [if_neg Bool.false_ne_true, in_map, fs]
      by_cases c : age + 1 ∈ ns
      · rw [if_pos c, decide_eq_true c]
        simp [b2i]
      · rw [if_neg c, decide_eq_false c]
        simp [b2i]
    refine ⟨_, _, rfl, rfl, rfl, false, congrArg V.bl q6, iteF ?_⟩
    -- the last one, or below its limit
    refine ⟨_, rfl, t, _, _, _, rfl, rfl, SqL.of ht5', c0, _, rfl, x, dx5, _, rfl, hx5, x, l, ns, up, wd, sh, rfl, at5, fun H6 s6 => ⟨_, rfl, ⟨by omega, by omega⟩, ?_⟩⟩
    refine ⟨_, _, rfl, rfl, rfl, _, rfl, ?_⟩
    have all : Same H H6 := (((s123.trans s4).trans s5).trans s6)
    refine ite2 (fun cc => ?_) (fun cc => ?_)
    · exact q H6 all
    · have ne : ¬ ((fst ns age : Int) = ((ns.length + 1 : Nat) : Int) - 1) := fun z => cc (decide_eq_true (congrArg V.int z))
      have lt : fst ns age < ns.length := by omega
      have hT6 := s6 _ _ hT5
      have at6 := at5.same s6
      have ht6 := s6 _ _ ht5'
      refine ⟨_, rfl, _, rfl, Tr, _, _, _, rfl, rfl, SqT.of hT6, i0, _, rfl, t, _, _, _, rfl, rfl, SqL.of ht6, c0, l, _, _, .int (ns[fst ns age]), rfl, rfl, SqT.of at6.li, ?_, _, _, rfl, rfl, ?_⟩
      · refine at_of (j := fst ns age) rfl ?_
        rw [List.getElem?_map, List.getElem?_eq_getElem lt]
        rfl
      · show Q (V.bl (decide (age < ns[fst ns age]))) H6
        rw [decide_eq_true (fst_at okl lt)]
        exact q H6 all
end
end K16
set_option Elab.async false
set_option linter.all false
set_option maxRecDepth 100000
set_option maxHeartbeats 4000000
namespace K16
open PySem PySem.Spec PyProof.Rows L2 Bb
/-- all parameters of Person are given -/
theorem pinit_binds {K : PySem.W.Frag} {f : Addr} {fd : FuncData} {dvs : List V} (F : FunD K "__init__" "Person.__init__" (defArgs sPInit) (defBody sPInit) (defScope sPInit) dvs [] f fd) (h : dvs.length = 2) : Binds K fd nPInit [] := by
  obtain ⟨ds, rd, b⟩ := F.binds1 (ps := nPInit) 5 2 (by intro e; rw [e] at h; cases h) (by rw [h]; rfl) (fun T kV doc pm an cdv ct us its h1 h2 => by
    rw [h] at h2
    match us, its, h1, h2 with
    | [_, _, _, _, _], [_, _], _, _ => exact ⟨_, rfl, rfl⟩)
  have e : dvs.drop 2 = [] := List.drop_of_length_le (by omega)
  rw [e] at rd
  cases rd
  exact b
/-- the class Person with its methods -/
structure OwnP (K : PySem.W.Frag) (mg : Str → Option Value) (C : Addr) : Prop where
  r : PersonT K mg C
  ini : ∃ a d dvs, FunD K "__init__" "Person.__init__" (defArgs sPInit) (defBody sPInit) (defScope sPInit) dvs [] a d ∧ dvs.length = 2 ∧ Mk K C a
  parts : ∃ a d, Fn K "parts" "Person.parts" sPParts a d ∧ Meth K C "parts" a
  age : ∃ a d, Fn K "age_on" "Person.age_on" sPAge a d ∧ Meth K C "age_on" a
  eq : ∃ a d, Fn K "__eq__" "Person.__eq__" sPEq a d ∧ PySem.W.findIn K (.ref C) "__eq__" = some (some (.ref a)) ∧ PySem.W.isFn K (.ref a) = true
  ne : PySem.W.findIn K (.ref C) "__ne__" = some (some (.builtin "object.__ne__"))
  ob : PySem.W.subIn K (.ref C) (.type "object") = some true
abbrev zAnn : Str := "ann"
abbrev zOpen : Str := "open"
abbrev zNo : Str := ""
theorem okAnn {b : Int} (h : -40000 ≤ b ∧ b ≤ 40000) : OkP zAnn b zOpen zNo := ⟨by decide +kernel, h, by decide +kernel, by decide +kernel⟩
/-! made; the turn's things -/
def spMade (C : Addr) : Sp := fun vs H Q _ => ∃ (T l : Addr) (ns : List Int) (up : Bool) (wd : Int) (sh : Bool), vs = [.ref T] ∧ H T = some (.tup [.ref l, .bl up, .int wd, .bl sh]) ∧ H l = some (.tup (ns.map V.int)) ∧ OkL ns ∧ (-99 ≤ wd ∧ wd ≤ 99) ∧
  ∀ x H', H x = none → Same H H' → At C H' x l ns up wd sh → Q (.ref x) H'
structure Tn (C CP : Addr) (H : Hp) (p Tr x y l : Addr) (ns : List Int) (up : Bool) (wd : Int) (sh : Bool) (b : Int) : Prop where
  row : H Tr = some (.tup [.ref l, .bl up, .int wd, .bl sh])
  at_ : At C H x l ns up wd sh
  who : PAt CP H y zAnn b zOpen zNo
  pen : Pen H p
  okw : -99 ≤ wd ∧ wd ≤ 99
  hb : -40000 ≤ b ∧ b ≤ 40000
section
variable {C CP : Addr} {H H' : Hp} {p Tr x y l : Addr} {ns : List Int} {up : Bool} {wd : Int} {sh : Bool} {b : Int}
theorem Tn.same (t : Tn C CP H p Tr x y l ns up wd sh b) (s : Same H H') : Tn C CP H' p Tr x y l ns up wd sh b := ⟨s _ _ t.row, t.at_.same s, t.who.same s, pen_same t.pen s, t.okw, t.hb⟩
theorem Tn.kp (t : Tn C CP H p Tr x y l ns up wd sh b) (k : Kp p H H') : Tn C CP H' p Tr x y l ns up wd sh b := by
  obtain ⟨h1, ⟨⟨dx, h2⟩, h3, h4⟩, ⟨dy, h5⟩, h6, h7, h8⟩ := t
  have n1 : Tr ≠ p := pen_ne h6 h1 (fun _ _ z => by cases z)
  have n2 : x ≠ p := pen_ne h6 h2 (fun _ _ z => by cases z)
  have n3 : l ≠ p := pen_ne h6 h3 (fun _ _ z => by cases z)
  have n4 : y ≠ p := pen_ne h6 h5 (fun _ _ z => by cases z)
  exact ⟨k.keep _ _ h1 n1, ⟨⟨dx, k.keep _ _ h2 n2⟩, k.keep _ _ h3 n3, h4⟩, ⟨dy, k.keep _ _ h5 n4⟩, k.pen, h7, h8⟩
end
theorem int_at {ns : List Int} {z0 : Int} {lo hi : Option Int} {i : Nat} {y : V} (h : ([V.int z0] ++ cutV (ns.map V.int) lo hi)[i]? = some y) : ∃ z, y = .int z := by
  have m := List.mem_of_getElem? h
  rcases List.mem_append.mp m with q | q
  · exact ⟨z0, by simpa using q⟩
  · unfold cutV at q
    have q2 := List.mem_of_mem_drop (List.mem_of_mem_take q)
    obtain ⟨z, _, e⟩ := List.mem_map.mp q2
    exact ⟨z, e.symm⟩
theorem same_kp {G H H' : Hp} {p : Addr} (s : Same G H) (np : G p = none) (k : Kp p H H') : Same G H' := fun b o e => k.keep b o (s b o e) (ne_of_none e np)
/-- all that the law's own def wants of the head -/
structure All (K : PySem.W.Frag) (mg : Str → Option Value) : Prop where
  hlp : Hlp K mg
  ph : Ph K mg
  hl : Hl K mg
  cell : ∃ a d, Fn K "_law_cell" "_law_cell" sCell a d ∧ mg "_law_cell" = some (.ref a)
  pen : ∃ a d, Fn K "_law_pen" "_law_pen" sPen a d ∧ mg "_law_pen" = some (.ref a)
  terms : ∃ a d, Fn K "_law_terms" "_law_terms" sTerms a d ∧ mg "_law_terms" = some (.ref a)
  made : ∃ a d, Fn K "_law_made" "_law_made" sMade a d ∧ mg "_law_made" = some (.ref a)
  cr : ∃ a d, Fn K "_law_classes_right" "_law_classes_right" sClsRight a d ∧ mg "_law_classes_right" = some (.ref a)
section
variable {P : Program} {w : World} {K : PySem.W.Frag} {mg : Str → Option Value} {base : Heap} {f : Addr} {fd : FuncData}
theorem scMade : FnScope ["_law_row"] ["_law_row"] (defScope sMade) := ⟨rfl, rfl, rfl, by decide +kernel, rfl, by decide +kernel, by decide +kernel⟩
theorem ok_made {C fI : Addr} {fdI : FuncData} (F : Fn K "_law_made" "_law_made" sMade f fd) (R : RulesT K mg C) (MK : Mk K C fI) (GI : FnOk P w K mg base L2.CX0 4 fI fdI nInit (spInit C)) (bI : Binds K fdI nInit []) : FnOk P w K mg base L2.CX0 6 f fd ["_law_row"] (spMade C) := by
  refine F.ok scMade (fun vs H Q E h => ?_) (fun cdv A outer s H vs Q E hr hh => ?_)
  · obtain ⟨T, l, ns, up, wd, sh, rfl, _⟩ := h
    rfl
  · obtain ⟨T, l, ns, up, wd, sh, rfl, hT, hl, ok, hw, q⟩ := hh
    refine ⟨_, PSs.nox (pss_one (ps_ret (pe_make MK GI (hr.mono (by decide)) rfl R.gC bI .nil pass0 (pa_cons (pe_ix ix_tup (pv 0) pe_int (fun _ _ => rfl)) (pa_cons (pe_ix ix_tup (pv 0) pe_int (fun _ _ => rfl)) (pa_cons (pe_ix ix_tup (pv 0) pe_int (fun _ _ => rfl)) (pa_cons (pe_ix ix_tup (pv 0) pe_int (fun _ _ => rfl)) pa_nil))))))), ?_⟩
    have i0 : ∀ {a b c d : V}, atI [a, b, c, d] (0 : Int) = some a := fun {a b c d} => at_of (j := 0) rfl rfl
    have i1 : ∀ {a b c d : V}, atI [a, b, c, d] (1 : Int) = some b := fun {a b c d} => at_of (j := 1) rfl rfl
    have i2 : ∀ {a b c d : V}, atI [a, b, c, d] (2 : Int) = some c := fun {a b c d} => at_of (j := 2) rfl rfl
    have i3 : ∀ {a b c d : V}, atI [a, b, c, d] (3 : Int) = some d := fun {a b c d} => at_of (j := 3) rfl rfl
    refine ⟨_, rfl, T, _, 0, _, rfl, rfl, SqT.of hT, i0, _, rfl, T, _, 1, _, rfl, rfl, SqT.of hT, i1, _, rfl, T, _, 2, _, rfl, rfl, SqT.of hT, i2, _, rfl, T, _, 3, _, rfl, rfl, SqT.of hT, i3, fun x dx nx ndx nex => ?_⟩
    have mk0 : Same H (upd (upd H dx (.own x)) x (.ins C dx [])) := Same.made nx ndx fun _ _ e _ => e
    refine ⟨x, dx, l, ns, up, wd, sh, rfl, upd_same, mk0 _ _ hl, ok, hw, fun H3 k3 h3 => ⟨rfl, ?_⟩⟩
    have s3 : Same H H3 := Same.made nx ndx k3
    exact q x H3 nx s3 ⟨⟨dx, h3⟩, s3 _ _ hl, ok⟩
end
end K16
set_option Elab.async false
set_option linter.all false
set_option maxRecDepth 100000
set_option maxHeartbeats 4000000
namespace K16
open PySem PySem.Spec PyProof.Rows L2 Bb
/-! the law's own def -/
abbrev nLaw : List Str := ["_law_script", "_law_cell_here", "_law_pen_here", "_law_row", "_law_since", "_law_one", "_law_who", "_law_ages", "_law_turn", "_law_clock", "_law_age", "_law_bar", "_law_more"]
theorem scLaw : FnScope nLaw ["_law_script"] (defScope sLaw) := ⟨rfl, rfl, rfl, by decide +kernel, rfl, by decide +kernel, by decide +kernel⟩
abbrev σL (a p Tr x y : Addr) (z b : Int) (r : List (Option V)) : L2.St := some (.ref a) :: some (.int z) :: some (.ref p) :: some (.ref Tr) :: some (.int b) :: some (.ref x) :: some (.ref y) :: r
/-- a year's test: nothing is turned -/
def tAge (CP : Addr) : TS := fun D σ H => ∃ (a p Tr x y : Addr) (z b k : Int) (v7 v8 v11 v12 : Option V), σ = σL a p Tr x y z b [v7, v8, some (.int k), some (.int ((k - b) / 365)), v11, v12] ∧ PAt CP H y zAnn b zOpen zNo ∧ (-40000 ≤ b ∧ b ≤ 40000) ∧ (b ≤ k ∧ k ≤ 40000) ∧ D.nx (σL a p Tr x y z b [v7, v8, some (.int k), some (.int ((k - b) / 365)), v11, v12]) H
/-- one limit more -/
def tMore (C CP : Addr) : TS := fun D σ H => ∃ (a p Tr x y l : Addr) (z b k : Int) (ns : List Int) (up : Bool) (wd : Int) (sh : Bool) (v7 v8 v9 v10 v12 : Option V), σ = σL a p Tr x y z b [v7, v8, v9, v10, some (.int k), v12] ∧ Tn C CP H p Tr x y l ns up wd sh b ∧ (1 ≤ k ∧ k ≤ 99) ∧
  ∀ v12' H', Same H H' → D.nx (σL a p Tr x y z b [v7, v8, v9, v10, some (.int k), v12']) H'
def spLaw (K : PySem.W.Frag) : Sp := fun vs H Q _ => ∃ (a : Addr) (ns : List Int), vs = [.ref a] ∧ SqL K H a (ns.map V.int) ∧ ns.length ≤ 63 ∧ ∀ H', Q (.bl true) H'
section
variable {P : Program} {w : World} {K : PySem.W.Frag} {mg : Str → Option Value} {base : Heap} {f : Addr} {fd : FuncData}
theorem ok_law {C CP CA CD : Addr} (F : Fn K "law" "law" sLaw f fd) (h : All K mg) (o : OwnR K mg C) (oP : OwnP K mg CP) (ea : ErrT K mg "NoAge" CA) (ed : ErrT K mg "NoDay" CD) : FnOk P w K mg base L2.CX0 8 f fd ["_law_script"] (spLaw K) := by
  have T := h.hlp.fr
  have R := o.r
  have RP := oP.r
  obtain ⟨aCe, dCe, FCe, gCe⟩ := h.cell
  obtain ⟨aPe, dPe, FPe, gPe⟩ := h.pen
  obtain ⟨aTe, dTe, FTe, gTe⟩ := h.terms
  obtain ⟨aMa, dMa, FMa, gMa⟩ := h.made
  obtain ⟨aCR, dCR, FCR, gCR⟩ := h.cr
  obtain ⟨aDr, dDr, GDr, gDr, kDr, bDr⟩ := h.hl.dr (P := P) (w := w) (base := base)
  obtain ⟨aPk, dPk, GPk, gPk, kPk, bPk⟩ := h.hl.pk (P := P) (w := w) (base := base)
  obtain ⟨aIn, dIn, dvs, FIn, hdv, MK⟩ := o.ini
  obtain ⟨aCl, dCl, FCl, mCl⟩ := o.cls
  obtain ⟨aLe, dLe, FLe, lLe, iLe⟩ := o.len
  obtain ⟨aEq, dEq, FEq, lEq, iEq⟩ := o.eq
  obtain ⟨aPI, dPI, dvP, FPI, hdP, MKP⟩ := oP.ini
  obtain ⟨aAg, dAg, FAg, mAg⟩ := oP.age
  obtain ⟨aPa, dPa, FPa, mPa⟩ := oP.parts
  obtain ⟨aPE, dPE, FPE, lPE, iPE⟩ := oP.eq
  have GCe : FnOk P w K mg base L2.CX0 1 aCe dCe ["_law_script", "_law_k"] (spCell K) := ok_cell FCe T
  have GPe : FnOk P w K mg base L2.CX0 1 aPe dPe ["_law_cell_here"] spPen := ok_pen FPe T
  have GTe : FnOk P w K mg base L2.CX0 3 aTe dTe ["_law_pen_here"] spTerms := ok_terms FTe h.hl
  have GIn : FnOk P w K mg base L2.CX0 4 aIn dIn nInit (spInit C) := ok_init FIn h.hlp R
  have bIn : Binds K dIn nInit [] := rinit_binds FIn hdv
  have GMa : FnOk P w K mg base L2.CX0 6 aMa dMa ["_law_row"] (spMade C) := ok_made FMa R MK GIn bIn
  have GCR : FnOk P w K mg base L2.CX0 5 aCR dCR ["_law_row", "_law_one", "_law_age"] (spClsRight C) := ok_clsright FCR h.hlp o ea
  have GCl : FnOk P w K mg base (L2.CX P w) 4 aCl dCl ["self", "age"] (spCls C CA) := ok_cls FCl h.hlp R FLe lLe iLe ea
  have GLe : FnOk P w K mg base L2.CX0 1 aLe dLe ["self"] (spLen C) := ok_len FLe T R
  have GEq : FnOk P w K mg base L2.CX0 1 aEq dEq ["self", "other"] (spEq C) := ok_eq FEq T R
  have GPI : FnOk P w K mg base L2.CX0 4 aPI dPI nPInit (spPInit CP) := ok_pinit FPI h.ph RP
  have GAg : FnOk P w K mg base (L2.CX P w) 4 aAg dAg ["self", "day"] (spPAge CP CD) := ok_page FAg h.ph RP ed
  have GPE : FnOk P w K mg base L2.CX0 2 aPE dPE ["self", "other"] (spPEq CP) := ok_peq FPE T RP FPa mPa
  have bCe : Binds K dCe ["_law_script", "_law_k"] [] := FCe.bindsN fun _ _ _ _ _ _ us hl => match us, hl with | [_, _], _ => rfl
  have bPe : Binds K dPe ["_law_cell_here"] [] := FPe.bindsN fun _ _ _ _ _ _ us hl => match us, hl with | [_], _ => rfl
  have bTe : Binds K dTe ["_law_pen_here"] [] := FTe.bindsN fun _ _ _ _ _ _ us hl => match us, hl with | [_], _ => rfl
  have bMa : Binds K dMa ["_law_row"] [] := FMa.bindsN fun _ _ _ _ _ _ us hl => match us, hl with | [_], _ => rfl
  have bCR : Binds K dCR ["_law_row", "_law_one", "_law_age"] [] := FCR.bindsN fun _ _ _ _ _ _ us hl => match us, hl with | [_, _, _], _ => rfl
  have bCl : Binds K dCl ["self", "age"] [] := FCl.bindsN fun _ _ _ _ _ _ us hl => match us, hl with | [_, _], _ => rfl
  have bLe : Binds K dLe ["self"] [] := FLe.bindsN fun _ _ _ _ _ _ us hl => match us, hl with | [_], _ => rfl
  have bEq : Binds K dEq ["self", "other"] [] := FEq.bindsN fun _ _ _ _ _ _ us hl => match us, hl with | [_, _], _ => rfl
  have bPI : Binds K dPI nPInit [] := pinit_binds FPI hdP
  have bAg : Binds K dAg ["self", "day"] [] := FAg.bindsN fun _ _ _ _ _ _ us hl => match us, hl with | [_, _], _ => rfl
  have bPE : Binds K dPE ["self", "other"] [] := FPE.bindsN fun _ _ _ _ _ _ us hl => match us, hl with | [_, _], _ => rfl
  refine F.ok scLaw (fun vs H Q E h => ?_) (fun cdv A outer s H vs Q E hr hh => ?_)
  · obtain ⟨a, ns, rfl, _⟩ := h
    rfl
  · obtain ⟨a, ns0, rfl, ha, hn, back⟩ := hh
    let X := (cxOf L2.CX0 P w K mg base nLaw "law" (defScope sLaw) f cdv A outer s H E).nox
    have hr1 : Room 1 X.A := hr.mono (by decide)
    have hr2 : Room 2 X.A := hr.mono (by decide)
    have hr3 : Room 3 X.A := hr.mono (by decide)
    have hr4 : Room 4 X.A := hr.mono (by decide)
    have hr5 : Room 5 X.A := hr.mono (by decide)
    refine' ⟨_, PSs.nox ?d, ?r⟩
    case d =>
      refine' pss_cons (ps_for PassesOwn.never rfl (pi_list (pe_op op_cat (pe_lst (pa_cons (pe_call GCe hr1 rfl gCe FCe.kp bCe .nil pass0 (pa_cons (pv 0) (pa_cons pe_int pa_nil))) pa_nil)) (pe_slice sl_list (pv 0) (po_some pe_int) (po_some pe_int)))) (pg_name (i := 1) scLaw.nd rfl (Or.inl rfl)) ?l1) (pss_one (ps_ret pe_bl))
      case l1 =>
        refine' pss_cons (ps_set (i := 2) scLaw.nd rfl (.inl rfl) (pe_call GPe hr1 rfl gPe FPe.kp bPe .nil pass0 (pa_cons (pv 1) pa_nil)))
          (pss_cons (ps_asg (pe_tup (pa_cons (pe_call GTe hr3 rfl gTe FTe.kp bTe .nil pass0 (pa_cons (pv 2) pa_nil)) (pa_cons (pe_call GPk hr2 rfl gPk kPk bPk .nil pass0 (pa_cons (pv 2) (pa_cons (pe_lst (pa_cons (pe_un un_neg pe_int) (pa_cons pe_int (pa_cons (pe_op op_sub (pe_call GDr hr1 rfl gDr kDr bDr .nil pass0 (pa_cons (pv 2) (pa_cons pe_int pa_nil))) pe_int) pa_nil)))) pa_nil))) pa_nil)))
            (pg_tup rfl (pgs_cons (pg_name (i := 3) scLaw.nd rfl (Or.inr rfl)) (pgs_cons (pg_name (i := 4) scLaw.nd rfl (Or.inl rfl)) pgs_nil))))
          (pss_cons (ps_asg (pe_tup (pa_cons (pe_call GMa (hr.mono (by decide)) rfl gMa FMa.kp bMa .nil pass0 (pa_cons (pv 3) pa_nil)) (pa_cons (pe_make MKP GPI hr5 rfl RP.gC bPI .nil pass0 (pa_cons pe_str (pa_cons (pv 4) (pa_cons pe_str (pa_cons pe_str pa_nil))))) pa_nil)))
            (pg_tup rfl (pgs_cons (pg_name (i := 5) scLaw.nd rfl (Or.inr rfl)) (pgs_cons (pg_name (i := 6) scLaw.nd rfl (Or.inl rfl)) pgs_nil))))
          (pss_cons (ps_set (i := 7) scLaw.nd rfl (.inl rfl) (pe_op op_cat (pe_op op_cat (pe_lst (pa_cons pe_int (pa_cons pe_int (pa_cons (pe_call GDr hr1 rfl gDr kDr bDr .nil pass0 (pa_cons (pv 2) (pa_cons pe_int pa_nil))) pa_nil)))) (pe_callTy call_list_of rfl T.list_ (by decide +kernel) (pa_cons (pe_ix ix_tup (pv 3) pe_int (fun _ _ => rfl)) pa_nil)))
            (pe_lc (own := [("_law_bar", 11)]) (g := gName 11) (tt := tYes) rfl scLaw.nd (pi_tup (pe_ix ix_tup (pv 3) pe_int (fun _ _ => rfl))) (blkOk_by (N := nLaw) (sc := defScope sLaw) (by decide +kernel)) (fun _ _ _ _ _ => pg_name (i := 11) scLaw.nd rfl (Or.inl rfl)) (fun _ _ _ _ _ => pts_nil) (fun _ _ _ _ _ => pe_op op_sub (pv 11) pe_int))))
          (pss_cons (ps_if (PW.pt (pw_or (pt_not (pt_val (pe_callB (cr_all rfl) rfl T.all_ (by decide +kernel) (pa_cons (pe_lc (own := [("_law_age", 10)]) (g := gName 10) (tt := tYes) rfl scLaw.nd (pi_list (pv 7)) (blkOk_by (N := nLaw) (sc := defScope sLaw) (by decide +kernel)) (fun _ _ _ _ _ => pg_name (i := 10) scLaw.nd rfl (Or.inl rfl)) (fun _ _ _ _ _ => pts_nil)
              (fun _ _ _ _ _ => pe_call GCR hr5 rfl gCR FCR.kp bCR .nil pass0 (pa_cons (pv 3) (pa_cons (pv 5) (pa_cons (pv 10) pa_nil))))) pa_nil))))
              (pw_or1 (pt_cmpR op_ne (pe_ix ix_list (pe_meth (pv 5) R.cl mCl GCl hr4 bCl .nil passL (pa_cons pe_int pa_nil)) pe_int (fun _ _ => rfl)) (pe_op op_sub (pe_callB (call_lenOwn GLe hr2 lLe iLe bLe pass0) rfl T.len_ boot_len (pa_cons (pv 5) pa_nil)) pe_int) (nomark _))))) (pss_one (ps_ret pe_bl)) pss_nil)
          (pss_cons (ps_for PassesOwn.never rfl (pi_range1 rfl T.rng_ (pa_cons pe_int pa_nil)) (pg_name (i := 8) scLaw.nd rfl (Or.inl rfl)) ?l2)
          (pss_cons (ps_set (i := 11) scLaw.nd rfl (.inl rfl) (pe_op op_add pe_int (pe_call GDr hr1 rfl gDr kDr bDr .nil pass0 (pa_cons (pv 2) (pa_cons pe_int pa_nil)))))
          (pss_cons (psBy (t' := tMore C CP) (ps_if (PW.pt (pw_and (pt_cmpR op_lt (pe_callB call_len_seq rfl T.len_ boot_len (pa_cons (pe_ix ix_tup (pv 3) pe_int (fun _ _ => rfl)) pa_nil)) pe_int (nomark _)) (pw_and1 (pt_cmpR op_notIn_seq (pv 11) (pe_ix ix_tup (pv 3) pe_int (fun _ _ => rfl)) rfl)))) ?l3 pss_nil) ?w3)
          (pss_one (ps_if (PW.pt (pw_or (pt_cmpR (op_neOwn GPE hr3 lPE iPE oP.ne oP.ob bPE pass0) (pv 6) (pe_make MKP GPI hr5 rfl RP.gC bPI .nil pass0 (pa_cons pe_str (pa_cons (pv 4) (pa_cons pe_str (pa_cons pe_str pa_nil))))) (nomark _)) (pw_or1 (pt_cmpR (op_neOwn GEq hr2 lEq iEq o.ne o.ob bEq pass0) (pv 5) (pe_call GMa (hr.mono (by decide)) rfl gMa FMa.kp bMa .nil pass0 (pa_cons (pv 3) pa_nil)) (nomark _))))) (pss_one (ps_ret pe_bl)) pss_nil)))))))))
        case l2 =>
          refine' pss_cons (ps_set (i := 9) scLaw.nd rfl (.inl rfl) (pe_op op_add (pv 4) (pe_call GDr hr1 rfl gDr kDr bDr .nil pass0 (pa_cons (pv 2) (pa_cons (pe_op op_add (pe_op op_sub pe_int (pv 4)) pe_int) pa_nil)))))
            (pss_cons (ps_set (i := 10) scLaw.nd rfl (.inl rfl) (pe_meth (pv 6) RP.cl mAg GAg hr4 bAg .nil passL (pa_cons (pv 9) pa_nil)))
            (pss_cons (ps_if (PW.pt (pw_or (pt_cmpR op_lt (pv 10) pe_int (nomark _)) (pw_or1 (pt_not (pt_chain op_le op_lt pe_int (pe_op op_sub (pe_op op_sub (pv 9) (pv 4)) (pe_op op_mul pe_int (pv 10))) pe_int))))) (pss_one (ps_ret pe_bl)) pss_nil)
            (pss_cons (psBy (t' := tAge CP) (ps_if (PW.pt (pw_and (pt_cmpR op_lt (pv 9) pe_int (nomark _)) (pw_and1 (pt_not (pt_chain op_le op_le (pv 10) (pe_meth (pv 6) RP.cl mAg GAg hr4 bAg .nil passL (pa_cons (pe_op op_add (pv 9) pe_int) pa_nil)) (pe_op op_add (pv 10) pe_int)))))) (pss_one (ps_ret pe_bl)) pss_nil) ?w1)
            (pss_one (psBy (t' := tAge CP) (ps_if (PW.pt (pw_and (pt_cmpR op_le (pe_op op_add (pv 9) pe_int) pe_int (nomark _)) (pw_and1 (pt_cmpR op_ne (pe_meth (pv 6) RP.cl mAg GAg hr4 bAg .nil passL (pa_cons (pe_op op_add (pv 9) pe_int) pa_nil)) (pe_op op_add (pv 10) pe_int) (nomark _))))) (pss_one (ps_ret pe_bl)) pss_nil) ?w2)))))
          case w1 =>
            rintro D σ H0 ⟨a, p, Tr, x, y, z, b, k, v7, v8, v11, v12, rfl, pat, hb, ⟨k0, k1⟩, nx⟩
            obtain ⟨dy, hy⟩ := id pat
            refine ⟨_, rfl, _, _, rfl, rfl, _, rfl, ?_⟩
            refine ite2 (fun c => ?_) (fun c => ?_)
            · have c' : k < 40000 := of_decide_eq_true c
              refine ⟨_, rfl, _, rfl, y, dy, _, rfl, hy, pf_no _ _ _ _ (by decide +kernel) (by decide +kernel) (by decide +kernel) (by decide +kernel), _, rfl, _, _, rfl, rfl, y, .int (k + 1), zAnn, b, zOpen, zNo, rfl, pat, .int _, hb, fun d ed _ _ => ?_, fun e => by rw [num_in ⟨by omega, by omega⟩] at e; cases e⟩
              injection ed with ed
              subst ed
              refine ⟨_, _, rfl, rfl, _, rfl, ?_⟩
              refine ite2 (fun c2 => ?_) (fun c2 => (c2 (decide_eq_true (by omega))).elim)
              refine ⟨_, rfl, _, _, rfl, rfl, _, _, rfl, rfl, true, congrArg V.bl (decide_eq_true (by omega)), iteF nx⟩
            · exact nx
          case w2 =>
            rintro D σ H0 ⟨a, p, Tr, x, y, z, b, k, v7, v8, v11, v12, rfl, pat, hb, ⟨k0, k1⟩, nx⟩
            obtain ⟨dy, hy⟩ := id pat
            refine ⟨_, rfl, _, _, rfl, rfl, _, _, rfl, rfl, _, rfl, ?_⟩
            refine ite2 (fun c => ?_) (fun c => ?_)
            · have c' : k + 365 ≤ 40000 := of_decide_eq_true c
              refine ⟨_, rfl, y, dy, _, rfl, hy, pf_no _ _ _ _ (by decide +kernel) (by decide +kernel) (by decide +kernel) (by decide +kernel), _, rfl, _, _, rfl, rfl, y, .int (k + 365), zAnn, b, zOpen, zNo, rfl, pat, .int _, hb, fun d ed _ _ => ?_, fun e => by rw [num_in ⟨by omega, by omega⟩] at e; cases e⟩
              injection ed with ed
              subst ed
              have e : (k + 365 - b) / 365 = (k - b) / 365 + 1 := by omega
              refine ⟨_, rfl, _, _, rfl, rfl, rfl, false, ?_, iteF nx⟩
              show V.bl (!decide (V.int ((k + 365 - b) / 365) = V.int ((k - b) / 365 + 1))) = V.bl false
              rw [e]
              simp
            · exact nx
        case l3 =>
          refine' pss_cons (ps_set (i := 12) scLaw.nd rfl (.inl rfl) (pe_make MK GIn hr5 rfl R.gC bIn .nil pass0 (pa_cons (pe_callTy call_tuple_of rfl T.tup_ (by decide +kernel) (pa_cons (pe_callB cr_sortedTI rfl T.srt_ (by decide +kernel) (pa_cons (pe_op op_catC (pe_ix ix_tup (pv 3) pe_int (fun _ _ => rfl)) (pe_tup (pa_cons (pv 11) pa_nil))) pa_nil)) pa_nil)) (pa_cons (pe_ix ix_tup (pv 3) pe_int (fun _ _ => rfl)) (pa_cons (pe_ix ix_tup (pv 3) pe_int (fun _ _ => rfl)) (pa_cons (pe_ix ix_tup (pv 3) pe_int (fun _ _ => rfl)) pa_nil))))))
            (pss_cons (ps_if (PW.pt (pw_or (pt_cmpR op_ne (pe_callB (call_lenOwn GLe hr2 lLe iLe bLe pass0) rfl T.len_ boot_len (pa_cons (pv 12) pa_nil)) (pe_op op_add (pe_callB (call_lenOwn GLe hr2 lLe iLe bLe pass0) rfl T.len_ boot_len (pa_cons (pv 5) pa_nil)) pe_int) (nomark _)) (pw_or1 (pt_cmpR (op_eqOwn GEq hr1 lEq iEq bEq pass0) (pv 12) (pv 5) (nomark _))))) (pss_one (ps_ret pe_bl)) pss_nil)
            (pss_one (ps_if (pt_cmpR op_ne (pe_ix ix_list (pe_meth (pv 12) R.cl mCl GCl hr4 bCl .nil passL (pa_cons (pv 11) pa_nil)) pe_int (fun _ _ => rfl)) (pe_op op_add (pe_ix ix_list (pe_meth (pv 5) R.cl mCl GCl hr4 bCl .nil passL (pa_cons (pv 11) pa_nil)) pe_int (fun _ _ => rfl)) pe_int) (nomark _)) (pss_one (ps_ret pe_bl)) pss_nil)))
        case w3 =>
          rintro D σ H0 ⟨a, p, Tr, x, y, l, z, b, k, ns, up, wd, sh, v7, v8, v9, v10, v12, rfl, tn, ⟨k0, k1⟩, nx⟩
          have i0 : ∀ {a b c d : V}, atI [a, b, c, d] (0 : Int) = some a := fun {a b c d} => at_of (j := 0) rfl rfl
          have i1 : ∀ {a b c d : V}, atI [a, b, c, d] (1 : Int) = some b := fun {a b c d} => at_of (j := 1) rfl rfl
          have i2 : ∀ {a b c d : V}, atI [a, b, c, d] (2 : Int) = some c := fun {a b c d} => at_of (j := 2) rfl rfl
          have i3 : ∀ {a b c d : V}, atI [a, b, c, d] (3 : Int) = some d := fun {a b c d} => at_of (j := 3) rfl rfl
          have okl := tn.at_.ok
          have l4 := okl.len
          have nos : ∀ {l : Addr} {up : Bool} {wd : Int} {sh : Bool}, (flds l up wd sh).lookup ("classes_of" : Str) = none := fun {_ _ _ _} => f_no _ _ _ _ (by decide) (by decide) (by decide) (by decide)
          refine ⟨_, rfl, Tr, _, 0, _, rfl, rfl, SqT.of tn.row, i0, l, _, rfl, .inr (SqT.of tn.at_.li), _, _, rfl, rfl, _, rfl, ?_⟩
          refine ite2 (fun c => ?_) (fun c => nx _ _ (Same.refl _))
          have c1 : (((ns.map V.int).length : Nat) : Int) < 4 := of_decide_eq_true c
          rw [List.length_map] at c1
          refine ⟨_, rfl, _, rfl, Tr, _, 0, _, rfl, rfl, SqT.of tn.row, i0, l, _, rfl, .inr (SqT.of tn.at_.li), rfl, flat_ints ns, _, rfl, ?_⟩
          refine ite2 (fun c => ?_) (fun c => nx _ _ (Same.refl _))
          have c2 : (!inV (.int k) (ns.map V.int)) = true := c
          rw [in_map] at c2
          have nin : k ∉ ns := by simpa using c2
          refine ⟨_, rfl, Tr, _, 0, _, rfl, rfl, SqT.of tn.row, i0, _, rfl, (by show 1 ≤ sizeLine; decide), fun t1 ht1 => ?_⟩
          have s1 := up2 (o := .tup [.int k]) ht1
          refine ⟨l, t1, _, _, rfl, rfl, s1 _ _ tn.at_.li, upd_same, ?_, fun t2 H2 s2 ht2 _ => ?_⟩
          · refine Nat.le_of_lt (small1000 ?_)
            rw [List.length_map]
            show ns.length + 1 ≤ 1000
            omega
          have e2 : ns.map V.int ++ [V.int k] = (ns ++ [k]).map V.int := by simp
          rw [e2] at ht2
          refine ⟨t2, ns ++ [k], rfl, SqT.of ht2, by rw [List.length_append, List.length_singleton]; omega, fun ms t3 perm pw ht3 => ?_⟩
          have s3 := up2 (o := .lst (ms.map V.int)) ht3
          refine ⟨t3, _, rfl, .inl ⟨SqL.of upd_same, fun t4 ht4 => ?_⟩⟩
          have s4 := up2 (o := .tup (ms.map V.int)) ht4
          have s14 := ((s1.trans s2).trans s3).trans s4
          have tn4 := tn.same s14
          have lm : ms.length = ns.length + 1 := by rw [perm.length_eq, List.length_append, List.length_singleton]
          have okm : OkL ms := by
            refine ⟨by omega, fun n hn => ?_, rising_of perm pw ?_⟩
            · rcases List.mem_append.mp (perm.mem_iff.mp hn) with q | q
              · exact okl.rng n q
              · rw [List.mem_singleton.mp q]
                omega
            · rw [List.nodup_append]
              refine ⟨okl.up.imp fun {a b} h => by omega, by simp, ?_⟩
              intro u hu v hv
              rw [List.mem_singleton.mp hv]
              rintro rfl
              exact nin hu
          refine ⟨_, rfl, Tr, _, 1, _, rfl, rfl, SqT.of tn4.row, i1, _, rfl, Tr, _, 2, _, rfl, rfl, SqT.of tn4.row, i2, _, rfl, Tr, _, 3, _, rfl, rfl, SqT.of tn4.row, i3, fun x2 dx2 nx2 ndx2 _ => ?_⟩
          have mk0 : Same _ _ := Same.made (C := C) nx2 ndx2 fun _ _ e _ => e
          refine ⟨x2, dx2, t4, ms, up, wd, sh, rfl, upd_same, mk0 _ _ upd_same, okm, tn.okw, fun H5 k5 h5 => ⟨rfl, ?_⟩⟩
          have s5 := Same.made nx2 ndx2 k5
          have s15 := s14.trans s5
          have tn5 := tn.same s15
          have at5 : At C H5 x2 t4 ms up wd sh := ⟨⟨dx2, h5⟩, s5 _ _ upd_same, okm⟩
          obtain ⟨dx5, hx5⟩ := tn5.at_.ob
          -- len
          refine ⟨_, rfl, x2, dx2, _, rfl, h5, x2, t4, ms, up, wd, sh, rfl, at5, fun H6 s6 => ⟨_, rfl, ⟨by omega, by omega⟩, ?_⟩⟩
          refine ⟨_, rfl, x, dx5, _, rfl, s6 _ _ hx5, x, l, ns, up, wd, sh, rfl, tn5.at_.same s6, fun H7 s7 => ⟨_, rfl, ⟨by omega, by omega⟩, ?_⟩⟩
          have e7 : V.bl (!decide (V.int ((ms.length + 1 : Nat) : Int) = V.int (((ns.length + 1 : Nat) : Int) + 1))) = V.bl false := by
            rw [lm]
            simp
          refine ⟨_, _, rfl, rfl, rfl, false, e7, iteF ?_⟩
          have s67 := s6.trans s7
          have at7 := at5.same s67
          have tn7 := tn5.same s67
          obtain ⟨dx7, hx7⟩ := tn7.at_.ob
          obtain ⟨dx8, hx8⟩ := at7.ob
          refine ⟨_, rfl, _, rfl, x2, x, dx8, dx7, _, _, rfl, rfl, hx8, hx7, x2, x, t4, l, ms, ns, up, up, wd, wd, sh, sh, rfl, at7, tn7.at_, fun e _ _ _ => ?_, fun _ => ⟨false, rfl, _, rfl, iteF ?_⟩⟩
          · exfalso
            rw [e] at lm
            omega
          -- one class further
          have ka : numIn 0 300 (.int k) = true := num_in ⟨by omega, by omega⟩
          refine ⟨_, rfl, x2, dx8, _, rfl, hx8, nos, _, rfl, x2, t4, .int k, ms, up, wd, sh, rfl, at7, .int k, fun ag eag _ _ H8 q8 s8 _ hq8 => ?_, fun e => by rw [ka] at e; cases e⟩
          injection eag with eag
          subst eag
          obtain ⟨r8, e8⟩ := cls_head ms up k
          have c8 : atI ((clsP ms up k).map V.int) (0 : Int) = some (.int (fst ms k)) := by
            rw [e8]
            exact at_of (j := 0) rfl rfl
          refine ⟨q8, _, 0, _, rfl, rfl, SqL.of hq8, c8, ?_⟩
          have tn8 := tn7.same s8
          obtain ⟨dx9, hx9⟩ := tn8.at_.ob
          refine ⟨_, rfl, x, dx9, _, rfl, hx9, nos, _, rfl, x, l, .int k, ns, up, wd, sh, rfl, tn8.at_, .int k, fun ag eag _ _ H9 q9 s9 _ hq9 => ?_, fun e => by rw [ka] at e; cases e⟩
          injection eag with eag
          subst eag
          obtain ⟨r9, e9⟩ := cls_head ns up k
          have c9 : atI ((clsP ns up k).map V.int) (0 : Int) = some (.int (fst ns k)) := by
            rw [e9]
            exact at_of (j := 0) rfl rfl
          refine ⟨q9, _, 0, _, rfl, rfl, SqL.of hq9, c9, _, _, rfl, rfl, rfl, false, ?_, iteF (nx _ _ (((s15.trans s67).trans s8).trans s9))⟩
          show V.bl (!decide (V.int (fst ms k : Nat) = V.int ((fst ns k : Int) + 1))) = V.bl false
          have ef : fst ms k = fst ns k + 1 := by
            rw [fst_perm perm, fst_snoc, if_pos (Int.le_refl k)]
          rw [ef]
          simp
    case r =>
      have i0 : ∀ {a b c d : V}, atI [a, b, c, d] (0 : Int) = some a := fun {a b c d} => at_of (j := 0) rfl rfl
      have i1 : ∀ {a b c d : V}, atI [a, b, c, d] (1 : Int) = some b := fun {a b c d} => at_of (j := 1) rfl rfl
      have i2 : ∀ {a b c d : V}, atI [a, b, c, d] (2 : Int) = some c := fun {a b c d} => at_of (j := 2) rfl rfl
      have i3 : ∀ {a b c d : V}, atI [a, b, c, d] (3 : Int) = some d := fun {a b c d} => at_of (j := 3) rfl rfl
      refine ⟨_, rfl, a, ns0, rfl, ha, hn, fun z0 => ⟨(by show 1 ≤ sizeLine; decide), fun l1 h1 => ?_⟩⟩
      have s1 := up2 (o := .lst [.int z0]) h1
      refine ⟨_, rfl, _, rfl, _, rfl, a, _, rfl, sql_same ha s1, fun l2 h2 => ?_⟩
      have s2 := up2 (o := .lst (cutV (ns0.map V.int) (some 1) (some 5))) h2
      refine ⟨l1, l2, _, _, rfl, rfl, s2 _ _ upd_same, upd_same, ?_, fun l3 h3 => ?_⟩
      · have q1 := cutV_length (ns0.map V.int) (some 1) (some 5)
        rw [List.length_map] at q1
        have q2 : ([V.int z0].length : Nat) = 1 := rfl
        exact Nat.le_of_lt (small1000 (by omega))
      obtain ⟨H0, eH0⟩ : ∃ G, G = upd (upd (upd H l1 (.lst [.int z0])) l2 (.lst (cutV (ns0.map V.int) (some 1) (some 5)))) l3 (.lst ([.int z0] ++ cutV (ns0.map V.int) (some 1) (some 5))) := ⟨_, rfl⟩
      have hL0 : H0 l3 = some (.lst ([.int z0] ++ cutV (ns0.map V.int) (some 1) (some 5))) := by
        rw [eH0]
        exact upd_same
      rw [← eH0]
      refine ⟨l3, rfl, ⟨_, SqL.of hL0⟩, for_list (K := K) (a := l3) (xs := [.int z0] ++ cutV (ns0.map V.int) (some 1) (some 5)) (fun i σ H' => ∃ v1 v2 v3 v4 v5 v6 v7 v8 v9 v10 v11 v12 : Option V, σ = [some (.ref a), v1, v2, v3, v4, v5, v6, v7, v8, v9, v10, v11, v12] ∧ Same H0 H')
        ⟨none, none, none, none, none, none, none, none, none, none, none, none, rfl, Same.refl _⟩ (fun i σ H' _ ⟨_, _, _, _, _, _, _, _, _, _, _, _, _, e⟩ => SqL.of (e _ _ hL0)) ?_ ?_⟩
      · rintro i yv σ Hi hy ⟨v1, v2, v3, v4, v5, v6, v7, v8, v9, v10, v11, v12, rfl, eN⟩
        obtain ⟨z, rfl⟩ := int_at hy
        refine ⟨_, rfl, z, rfl, fun p H1 hp sm1 pn1 => ?_⟩
        refine ⟨_, rfl, p, rfl, pn1, fun Tr l ns up wd sh H2 kp2 nT hT hl okl hw => ?_⟩
        have l4 := okl.len
        refine ⟨_, rfl, _, rfl, _, rfl, p, 70000, rfl, kp2.pen, ⟨by decide, by decide⟩, fun r H3 r0 r1 kp3 => ?_⟩
        refine ⟨_, _, rfl, rfl, (by show 3 ≤ sizeLine; decide), fun L hL => ?_⟩
        have s4 := up2 (o := .lst [.int (-40000), .int 0, .int (r - 40000)]) hL
        have k4 := (kp2.trans kp3).same s4
        refine ⟨p, L, _, rfl, k4.pen, upd_same, pen_ne k4.pen upd_same (fun x f z => by injection z with z; injection z with _ z; injection z with _ z; cases z), ⟨(by show 0 < 3; decide), (by show 3 ≤ 1000; decide)⟩, fun v H5 hv kp5 => ?_⟩
        have k35 := ((Kp.refl kp2.pen).trans kp3).same s4 |>.trans kp5
        obtain ⟨b, rfl, hb⟩ : ∃ b : Int, v = .int b ∧ -40000 ≤ b ∧ b ≤ 40000 := by
          simp only [List.mem_cons, List.not_mem_nil, or_false] at hv
          rcases hv with rfl | rfl | rfl
          · exact ⟨_, rfl, by omega, by omega⟩
          · exact ⟨_, rfl, by omega, by omega⟩
          · exact ⟨_, rfl, by omega, by omega⟩
        have hT5 := k35.keep _ _ hT (pen_ne kp2.pen hT (fun _ _ z => by cases z))
        have hl5 := k35.keep _ _ hl (pen_ne kp2.pen hl (fun _ _ z => by cases z))
        have sI5 : Same Hi H5 := same_kp sm1 hp (kp2.trans k35)
        refine ⟨(by show 2 ≤ sizeLine; decide), fun t0 ht0 => ?_⟩
        have s6 := up2 (o := .tup [.ref Tr, .int b]) ht0
        refine ⟨t0, _, rfl, SqT.of upd_same, rfl, _, _, rfl, _, _, rfl, rfl, ?_⟩
        refine ⟨_, rfl, Tr, l, ns, up, wd, sh, rfl, s6 _ _ hT5, s6 _ _ hl5, okl, hw, fun x H7 nx7 s7 at7 => ?_⟩
        refine ⟨_, rfl, fun y dy ny ndy _ => ?_⟩
        refine ⟨y, dy, zAnn, b, zOpen, zNo, rfl, upd_same, okAnn hb, fun H8 k8 h8 => ⟨rfl, ?_⟩⟩
        have s8 : Same H7 H8 := Same.made ny ndy k8
        have s68 := (s6.trans s7).trans s8
        have tn8 : Tn C CP H8 p Tr x y l ns up wd sh b := ⟨s68 _ _ hT5, at7.same s8, ⟨dy, h8⟩, pen_same k35.pen s68, hw, hb⟩
        have sI8 := sI5.trans s68
        refine ⟨(by show 2 ≤ sizeLine; decide), fun t1 ht1 => ?_⟩
        have s9 := up2 (o := .tup [.ref x, .ref y]) ht1
        refine ⟨t1, _, rfl, SqT.of upd_same, rfl, _, _, rfl, _, _, rfl, rfl, ?_⟩
        have tn9 := tn8.same s9
        have sI9 := sI8.trans s9
        -- the ages
        refine ⟨_, rfl, p, 120, rfl, tn9.pen, ⟨by decide, by decide⟩, fun u H10 u0 u1 kp10 => ?_⟩
        have tn10 := tn9.kp kp10
        have sI10 := same_kp sI9 hp kp10
        refine ⟨(by show 3 ≤ sizeLine; decide), fun g1 hg1 => ?_⟩
        have s11 := up2 (o := .lst [.int 0, .int 299, .int u]) hg1
        have tn11 := tn10.same s11
        refine ⟨_, rfl, Tr, _, 0, _, rfl, rfl, SqT.of tn11.row, i0, l, _, rfl, .inr (SqT.of tn11.at_.li), fun g2 hg2 => ?_⟩
        have s12 := up2 (o := .lst (ns.map V.int)) hg2
        refine ⟨g1, g2, _, _, rfl, rfl, s12 _ _ upd_same, upd_same, ?_, fun g3 hg3 => ?_⟩
        · refine Nat.le_of_lt (small1000 ?_)
          rw [List.length_map]
          show 3 + ns.length ≤ 1000
          omega
        have s13 := up2 (o := .lst ([.int 0, .int 299, .int u] ++ ns.map V.int)) hg3
        have s1013 := (s11.trans s12).trans s13
        obtain ⟨H13, eH13⟩ : ∃ G, G = upd (upd (upd H10 g1 (.lst [.int 0, .int 299, .int u])) g2 (.lst (ns.map V.int))) g3 (.lst ([.int 0, .int 299, .int u] ++ ns.map V.int)) := ⟨_, rfl⟩
        have hg13 : H13 g3 = some (.lst (([0, 299, u] ++ ns).map V.int)) := by
          rw [eH13, upd_same]
          simp
        rw [← eH13] at s1013 ⊢
        have tn13 := tn10.same s1013
        have sI13 := sI10.trans s1013
        refine ⟨_, rfl, Tr, _, 0, _, rfl, rfl, SqT.of tn13.row, i0, l, rfl, ⟨_, SqT.of tn13.at_.li⟩, fun D hD => lc_tup (K := K) (a := l) (xs := ns.map V.int) (fun i H' => Same H13 H' ∧ H' D = some (.lst (((ns.take i).map fun n => n - 1).map V.int)))
          ⟨up2 hD, by rw [List.take_zero]; exact upd_same⟩ (fun i H' _ p => sqt_same (SqT.of tn13.at_.li) p.1) ?_ ?_⟩
        · rintro i yv H' hyv ⟨sm, acc⟩
          obtain ⟨n, hn', rfl⟩ := get_map hyv
          have li := (List.getElem?_eq_some_iff.mp hn').1
          refine ⟨rfl, ?_⟩
          unfold tYes
          dsimp only
          rw [if_pos rfl]
          refine ⟨_, rfl, _, _, rfl, rfl, _, acc, small1000 ?_, same_upd sm hD, ?_⟩
          · rw [List.length_map, List.length_map, List.length_take]
            omega
          · rw [upd_same, take_snoc hn', List.map_append, List.map_append]
            rfl
        rintro H14 ⟨s14, acc⟩
        rw [List.length_map, List.take_length] at acc
        refine ⟨g3, D, _, _, rfl, rfl, s14 _ _ hg13, acc, ?_, fun G hG => ?_⟩
        · refine Nat.le_of_lt (small1000 ?_)
          simp
          omega
        obtain ⟨as, eas⟩ : ∃ as : List Int, as = ([0, 299, u] ++ ns) ++ ns.map fun n => n - 1 := ⟨_, rfl⟩
        have em : ([0, 299, u] ++ ns).map V.int ++ (ns.map fun n => n - 1).map V.int = as.map V.int := by
          rw [eas, List.map_append, List.map_append, List.map_append]
        rw [em]
        have s15 := up2 (o := .lst (as.map V.int)) hG
        obtain ⟨H15, eH15⟩ : ∃ G', G' = upd H14 G (.lst (as.map V.int)) := ⟨_, rfl⟩
        have hG15 : H15 G = some (.lst (as.map V.int)) := by
          rw [eH15]
          exact upd_same
        rw [← eH15] at s15 ⊢
        have tn15 := tn13.same (s14.trans s15)
        have sI15 := sI13.trans (s14.trans s15)
        have las : as.length ≤ 11 := by
          rw [eas]
          simp
          omega
        have has : ∀ n ∈ as, 0 ≤ n ∧ n ≤ 299 := by
          intro n hn'
          rw [eas] at hn'
          rcases List.mem_append.mp hn' with q | q
          · rcases List.mem_append.mp q with q | q
            · simp only [List.mem_cons, List.not_mem_nil, or_false] at q
              omega
            · have := okl.rng n q
              omega
          · obtain ⟨m, hm, rfl⟩ := List.mem_map.mp q
            have := okl.rng m hm
            omega
        -- the classes of each age
        refine ⟨_, rfl, G, rfl, ⟨_, SqL.of hG15⟩, fun D2 hD2 => lc_list (K := K) (a := G) (xs := as.map V.int) (fun i H' => Same H15 H' ∧ H' D2 = some (.lst ((List.replicate i true).map V.bl)))
          ⟨up2 hD2, upd_same⟩ (fun i H' _ p => SqL.of (p.1 _ _ hG15)) ?_ ?_⟩
        · rintro i yv H' hyv ⟨sm, acc2⟩
          obtain ⟨n, hn', rfl⟩ := get_map hyv
          have li := (List.getElem?_eq_some_iff.mp hn').1
          refine ⟨rfl, ?_⟩
          unfold tYes
          dsimp only
          rw [if_pos rfl]
          have tn' := tn15.same sm
          refine ⟨_, rfl, _, rfl, _, rfl, Tr, x, l, ns, up, wd, sh, n, rfl, tn'.row, tn'.at_, has n (List.mem_of_getElem? hn'), fun H'' sm2 => ?_⟩
          refine ⟨_, sm2 _ _ acc2, small1000 (by simp; omega), same_upd (sm.trans sm2) hD2, ?_⟩
          rw [upd_same, List.replicate_succ', List.map_append]
          rfl
        rintro H16 ⟨s16, acc2⟩
        refine ⟨D2, _, rfl, SqL.of acc2, _, rfl, ?_⟩
        have e3 : (List.replicate (as.map V.int).length true).all id = true := by simp
        rw [e3]
        refine iteF ?_
        have tn16 := tn15.same s16
        have sI16 := sI15.trans s16
        have nos : ∀ {l : Addr} {up : Bool} {wd : Int} {sh : Bool}, (flds l up wd sh).lookup ("classes_of" : Str) = none := fun {_ _ _ _} => f_no _ _ _ _ (by decide) (by decide) (by decide) (by decide)
        obtain ⟨dx16, hx16⟩ := tn16.at_.ob
        refine ⟨_, rfl, x, dx16, _, rfl, hx16, nos, x, l, .int 300, ns, up, wd, sh, rfl, tn16.at_, .int 300, fun ag eag _ _ H17 q17 s17 _ hq17 => ?_, fun e => by rw [num_in ⟨by omega, by omega⟩] at e; cases e⟩
        injection eag with eag
        subst eag
        obtain ⟨r17, e17⟩ := cls_head ns up 300
        have c17 : atI ((clsP ns up 300).map V.int) (0 : Int) = some (.int (fst ns 300)) := by
          rw [e17]
          exact at_of (j := 0) rfl rfl
        refine ⟨q17, _, 0, _, rfl, rfl, SqL.of hq17, c17, ?_⟩
        have tn17 := tn16.same s17
        obtain ⟨dx17, hx17⟩ := tn17.at_.ob
        refine ⟨_, rfl, x, dx17, _, rfl, hx17, x, l, ns, up, wd, sh, rfl, tn17.at_, fun H18 s18 => ⟨_, rfl, ⟨by omega, by omega⟩, ?_⟩⟩
        have f300 : fst ns 300 = ns.length := by
          unfold fst
          rw [List.filter_eq_self.mpr]
          intro n hn'
          have := okl.rng n hn'
          exact decide_eq_true (by omega)
        have e18 : V.bl (!decide (V.int (fst ns 300 : Nat) = V.int (((ns.length + 1 : Nat) : Int) - 1))) = V.bl false := by
          rw [f300]
          simp
        refine ⟨_, _, rfl, rfl, rfl, false, e18, iteF ?_⟩
        have tn18 := tn17.same s18
        have sI18 := sI16.trans (s17.trans s18)
        -- six days of the life
        refine ⟨6, rfl, by decide, by decide, for_range (lo := 0) (n := 6) (fun i σ H' => ∃ w8 w9 w10 : Option V, σ = σL a p Tr x y z b [some (.ref G), w8, w9, w10, v11, v12] ∧ Kp p H18 H')
          ⟨v8, v9, v10, rfl, Kp.refl tn18.pen⟩ ?_ ?_⟩
        · rintro i σ H' hi ⟨w8, w9, w10, rfl, kp⟩
          have tn' := tn18.kp kp
          refine ⟨_, rfl, _, rfl, _, rfl, _, _, rfl, rfl, _, _, rfl, rfl, p, _, rfl, tn'.pen, ⟨by omega, by omega⟩, fun c H'' c0 c1 kp2 => ?_⟩
          have tn'' := tn'.kp kp2
          obtain ⟨dy', hy'⟩ := tn''.who
          refine ⟨_, _, rfl, rfl, ?_⟩
          refine ⟨_, rfl, y, dy', _, rfl, hy', pf_no _ _ _ _ (by decide +kernel) (by decide +kernel) (by decide +kernel) (by decide +kernel), _, rfl, y, .int (b + c), zAnn, b, zOpen, zNo, rfl, tn''.who, .int _, hb, fun d ed d0 d1 => ?_, fun e => by rw [num_in ⟨by omega, by omega⟩] at e; cases e⟩
          injection ed with ed
          subst ed
          refine ⟨_, rfl, _, _, rfl, rfl, _, rfl, ?_⟩
          refine ite2 (fun cc => absurd (of_decide_eq_true cc) (by omega)) (fun _ => ?_)
          refine ⟨_, rfl, _, rfl, _, _, rfl, rfl, _, rfl, _, _, rfl, rfl, .inl ⟨by decide, by decide⟩, _, _, rfl, rfl, _, _, rfl, rfl, _, rfl, ?_⟩
          refine ite2 (fun _ => ?_) (fun cc => (cc (decide_eq_true (by omega))).elim)
          refine ⟨_, _, rfl, rfl, true, congrArg V.bl (decide_eq_true (by omega)), iteF ?_⟩
          refine ⟨a, p, Tr, x, y, z, b, b + c, _, _, v11, v12, rfl, tn''.who, hb, ⟨d0, d1⟩, ?_⟩
          refine ⟨a, p, Tr, x, y, z, b, b + c, _, _, v11, v12, rfl, tn''.who, hb, ⟨d0, d1⟩, ?_⟩
          exact ⟨_, _, _, rfl, kp.trans kp2⟩
        · rintro σ H19 ⟨w8, w9, w10, rfl, kp19⟩
          have tn19 := tn18.kp kp19
          have sI19 := same_kp sI18 hp kp19
          refine ⟨_, rfl, p, 99, rfl, tn19.pen, ⟨by decide, by decide⟩, fun c H20 c0 c1 kp20 => ?_⟩
          have tn20 := tn19.kp kp20
          have sI20 := same_kp sI19 hp kp20
          refine ⟨_, _, rfl, rfl, ?_⟩
          refine ⟨a, p, Tr, x, y, l, z, b, 1 + c, ns, up, wd, sh, _, _, _, _, _, rfl, tn20, ⟨by omega, by omega⟩, fun w12 H21 s21 => ?_⟩
          have tn21 := tn20.same s21
          obtain ⟨dy21, hy21⟩ := tn21.who
          refine ⟨_, rfl, _, rfl, fun y2 dy2 ny2 ndy2 _ => ?_⟩
          refine ⟨y2, dy2, zAnn, b, zOpen, zNo, rfl, upd_same, okAnn hb, fun H22 k22 h22 => ⟨rfl, ?_⟩⟩
          have s22 : Same H21 H22 := Same.made ny2 ndy2 k22
          have tn22 := tn21.same s22
          obtain ⟨dy22, hy22⟩ := id tn22.who
          refine ⟨y, y2, dy22, dy2, _, _, rfl, rfl, hy22, h22, y, y2, zAnn, zAnn, b, b, zOpen, zNo, zOpen, zNo, rfl, tn22.who, ⟨dy2, h22⟩, okAnn hb, okAnn hb, fun H23 s23 => ⟨true, congrArg V.bl (decide_eq_true ⟨rfl, rfl, rfl, rfl⟩), false, rfl, iteF ?_⟩⟩
          have tn23 := tn22.same s23
          refine ⟨_, rfl, _, rfl, Tr, l, ns, up, wd, sh, rfl, tn23.row, tn23.at_.li, okl, hw, fun x2 H24 _ s24 at24 => ?_⟩
          have tn24 := tn23.same s24
          obtain ⟨dx24, hx24⟩ := tn24.at_.ob
          obtain ⟨dx25, hx25⟩ := at24.ob
          refine ⟨x, x2, dx24, dx25, _, _, rfl, rfl, hx24, hx25, x, x2, l, l, ns, ns, up, up, wd, wd, sh, sh, rfl, tn24.at_, at24, fun _ _ _ _ => ⟨true, rfl, false, rfl, iteF ?_⟩, fun no => absurd ⟨rfl, rfl, rfl, rfl⟩ no⟩
          exact ⟨_, _, _, _, _, _, _, _, _, _, _, _, rfl, eN.trans (sI20.trans (((s21.trans s22).trans s23).trans s24))⟩
      · rintro σ Hi ⟨v1, v2, v3, v4, v5, v6, v7, v8, v9, v10, v11, v12, rfl, eN⟩
        exact back _
end
end K16
set_option Elab.async false
set_option linter.all false
set_option maxRecDepth 100000
set_option maxHeartbeats 0
namespace K16
open PySem PySem.Spec PyProof.Rows L2 Bb
/-! the head: facts by names, the run -/
def d_is_number : He.DefD := ⟨("is_number", none), "is_number", "is_number", defArgs sIsNum, defBody sIsNum, defScope sIsNum, [], []⟩
def d_is_number_from : He.DefD := ⟨("is_number_from", none), "is_number_from", "is_number_from", defArgs sFrom, defBody sFrom, defScope sFrom, [], []⟩
def d_is_name : He.DefD := ⟨("is_name", none), "is_name", "is_name", defArgs sIsName, defBody sIsName, defScope sIsName, [], []⟩
def d_is_day : He.DefD := ⟨("is_day", none), "is_day", "is_day", defArgs sIsDay, defBody sIsDay, defScope sIsDay, [], []⟩
def d_is_wind : He.DefD := ⟨("is_wind", none), "is_wind", "is_wind", defArgs sIsWind, defBody sIsWind, defScope sIsWind, [], []⟩
def d_is_team : He.DefD := ⟨("is_team", none), "is_team", "is_team", defArgs sIsTeam, defBody sIsTeam, defScope sIsTeam, [], []⟩
def d_are_limits : He.DefD := ⟨("are_limits", none), "are_limits", "are_limits", defArgs sAre, defBody sAre, defScope sAre, [], []⟩
def d__law_cell : He.DefD := ⟨("_law_cell", none), "_law_cell", "_law_cell", defArgs sCell, defBody sCell, defScope sCell, [], []⟩
def d__law_pen : He.DefD := ⟨("_law_pen", none), "_law_pen", "_law_pen", defArgs sPen, defBody sPen, defScope sPen, [], []⟩
def d__law_draw : He.DefD := ⟨("_law_draw", none), "_law_draw", "_law_draw", defArgs sDraw, defBody sDraw, defScope sDraw, [], []⟩
def d__law_pick : He.DefD := ⟨("_law_pick", none), "_law_pick", "_law_pick", defArgs sPick, defBody sPick, defScope sPick, [], []⟩
def d__law_terms : He.DefD := ⟨("_law_terms", none), "_law_terms", "_law_terms", defArgs sTerms, defBody sTerms, defScope sTerms, [], []⟩
def d__law_made : He.DefD := ⟨("_law_made", none), "_law_made", "_law_made", defArgs sMade, defBody sMade, defScope sMade, [], []⟩
def d__law_classes_right : He.DefD := ⟨("_law_classes_right", none), "_law_classes_right", "_law_classes_right", defArgs sClsRight, defBody sClsRight, defScope sClsRight, [], []⟩
def d_law : He.DefD := ⟨("law", none), "law", "law", defArgs sLaw, defBody sLaw, defScope sLaw, [], []⟩
def d_Person___init__ : He.DefD := ⟨("Person", some "__init__"), "__init__", "Person.__init__", defArgs sPInit, defBody sPInit, defScope sPInit, [.str "open", .str ""], []⟩
def d_Person___eq__ : He.DefD := ⟨("Person", some "__eq__"), "__eq__", "Person.__eq__", defArgs sPEq, defBody sPEq, defScope sPEq, [], []⟩
def d_Person_parts : He.DefD := ⟨("Person", some "parts"), "parts", "Person.parts", defArgs sPParts, defBody sPParts, defScope sPParts, [], []⟩
def d_Person_age_on : He.DefD := ⟨("Person", some "age_on"), "age_on", "Person.age_on", defArgs sPAge, defBody sPAge, defScope sPAge, [], []⟩
def d_Rules___init__ : He.DefD := ⟨("Rules", some "__init__"), "__init__", "Rules.__init__", defArgs sInit, defBody sInit, defScope sInit, [.non, .bl true, .int 20, .bl true], []⟩
def d_Rules___eq__ : He.DefD := ⟨("Rules", some "__eq__"), "__eq__", "Rules.__eq__", defArgs sEq, defBody sEq, defScope sEq, [], []⟩
def d_Rules___len__ : He.DefD := ⟨("Rules", some "__len__"), "__len__", "Rules.__len__", defArgs sLen, defBody sLen, defScope sLen, [], []⟩
def d_Rules_classes_of : He.DefD := ⟨("Rules", some "classes_of"), "classes_of", "Rules.classes_of", defArgs sCls, defBody sCls, defScope sCls, [], []⟩
def hfn : List He.DefD := ([d_is_number, d_is_number_from, d_is_name, d_is_day, d_is_wind, d_is_team, d_are_limits, d__law_cell, d__law_pen, d__law_draw, d__law_pick, d__law_terms, d__law_made, d__law_classes_right, d_law, d_Person___init__, d_Person___eq__, d_Person_parts, d_Person_age_on, d_Rules___init__] : List He.DefD) ++ ([d_Rules___eq__, d_Rules___len__, d_Rules_classes_of] : List He.DefD)
def hfa : List He.Fa := ([.glo "is_number", .glo "is_number_from", .glo "is_name", .glo "is_day", .glo "is_wind", .glo "is_team", .glo "are_limits", .glo "_law_cell", .glo "_law_pen", .glo "_law_draw", .glo "_law_pick", .glo "_law_terms", .glo "_law_made", .glo "_law_classes_right", .glo "law", .glo "NoAge", .glo "NoDay", .glo "Person", .glo "Rules", .free "isinstance"] : List He.Fa) ++ ([.free "int", .free "bool", .free "tuple", .free "list", .free "str", .free "len", .free "all", .free "range", .free "enumerate", .free "repr", .free "min", .free "max", .free "sorted", .free "zip", .free "ValueError", .free "LookupError", .int "MOST_LIMITS" 4, .int "LEAST_LIMIT" 1, .int "MOST_LIMIT" 99, .int "MOST_WIND" 99] : List He.Fa) ++ ([.int "MOST_AGE" 300, .int "MOST_DAY" 40000, .int "DAYS_OF_A_YEAR" 365, .int "LONGEST_NAME" 8, .str "LETTERS" "abcdefghijklmnopqrstuvwxyz", .cls "Person", .noat "Person" "name", .noat "Person" "born", .noat "Person" "group", .noat "Person" "team", .meth "Person" "parts", .meth "Person" "age_on", .meth "Person" "__eq__", .mkr "Person", .cls "Rules", .noat "Rules" "limits", .noat "Rules" "up", .noat "Rules" "wind", .noat "Rules" "shares", .meth "Rules" "classes_of"] : List He.Fa) ++ ([.meth "Rules" "__len__", .meth "Rules" "__eq__", .mkr "Rules", .exc "NoAge", .exc "NoDay"] : List He.Fa)
def htf : List He.Defn := []

def insB (K : PySem.W.Frag) (C : Addr) : Bool :=
  He.eqO (PySem.W.findIn K (.ref C) "__class__") (some (some (.builtin "object.__class__"))) && (He.eqO (PySem.W.specialIn K (.builtin "object.__class__") "__get__") (some (some (.builtin "getset_descriptor.__get__"))) && (decide (PySem.W.takesIn K (.builtin "object.__class__") = some true) && (decide (PySem.W.mroIn K C (.type "object") = some true) &&
  (decide (PySem.W.kitOne K (.ref C) (.ref C) = some true) && (He.eqO (PySem.W.findIn K (.ref C) "__ne__") (some (some (.builtin "object.__ne__"))) && decide (PySem.W.subIn K (.ref C) (.type "object") = some true))))))

def hex (K : PySem.W.Frag) : Bool := insB K (He.ga K "Rules") && insB K (He.ga K "Person")
abbrev R : PySem.W.OpenRow := PySem.W.OpenLaw.row PySem.Challenge.rw_bestsbook_k16_whole_ages_and_classes
abbrev hk : PySem.W.Hook := He.hookX 5 hfa hfn [] htf hex
def ob (s : PySem.W.SharedT) : He.AlX := He.obsX 5 hfa hfn [] htf hex (HandSHeadRun.getT s)
theorem ob_eq (s : PySem.W.SharedT) : ob s = hk.obs s.abs := He.obsX_eq (HandSHeadRun.getT_eq s)
def loose : List Str := (["ClubError", "NoRules", "NoAge", "NoPerson", "NoDay", "LETTERS", "LONGEST_NAME", "MOST_DAY", "MOST_WIND", "is_number", "is_number_from", "is_name", "is_day", "is_wind", "MOST_LIMITS", "LEAST_LIMIT", "MOST_LIMIT", "MOST_AGE", "are_limits", "Rules"] : List Str) ++ (["DAYS_OF_A_YEAR", "is_team", "Person", "_law_cell", "_law_pen", "_law_draw", "_law_pick", "_law_terms", "_law_made", "_law_classes_right"] : List Str)
theorem run (w : World) : HandSHeadRun.RunEq R (PySem.W.view R.prog [35]) hk ob 6000 loose w := by
  intro os
  kernel_rfl
end K16
set_option Elab.async false
set_option linter.all false
set_option maxRecDepth 100000
set_option maxHeartbeats 0
namespace K16
open PySem PySem.Spec PyProof.Rows L2 Bb
section
variable {K : PySem.W.Frag} {h : Heap} {mg : Str → Option Value}
abbrev SD (K : PySem.W.Frag) : Prop := He.SaysD hfa hfn K
theorem z_free (X : K.In h) (G : h.Ns mainGlobals mg) (c : SD K) : Free mg := ⟨(He.free_ok X G (c.fact 19 (f := .free "isinstance") rfl)), (He.free_ok X G (c.fact 20 (f := .free "int") rfl)), (He.free_ok X G (c.fact 21 (f := .free "bool") rfl)), (He.free_ok X G (c.fact 22 (f := .free "tuple") rfl)), (He.free_ok X G (c.fact 23 (f := .free "list") rfl)), (He.free_ok X G (c.fact 24 (f := .free "str") rfl)), (He.free_ok X G (c.fact 25 (f := .free "len") rfl)), (He.free_ok X G (c.fact 26 (f := .free "all") rfl)), (He.free_ok X G (c.fact 27 (f := .free "range") rfl)), (He.free_ok X G (c.fact 28 (f := .free "enumerate") rfl)), (He.free_ok X G (c.fact 29 (f := .free "repr") rfl)), (He.free_ok X G (c.fact 30 (f := .free "min") rfl)), (He.free_ok X G (c.fact 31 (f := .free "max") rfl)), (He.free_ok X G (c.fact 32 (f := .free "sorted") rfl)), (He.free_ok X G (c.fact 33 (f := .free "zip") rfl)), (He.free_ok X G (c.fact 34 (f := .free "ValueError") rfl)), (He.free_ok X G (c.fact 35 (f := .free "LookupError") rfl))⟩
theorem z_cons (X : K.In h) (G : h.Ns mainGlobals mg) (c : SD K) : Cons mg := ⟨He.int_ok X G (c.fact 36 (f := .int "MOST_LIMITS" 4) rfl), He.int_ok X G (c.fact 37 (f := .int "LEAST_LIMIT" 1) rfl), He.int_ok X G (c.fact 38 (f := .int "MOST_LIMIT" 99) rfl), He.int_ok X G (c.fact 39 (f := .int "MOST_WIND" 99) rfl), He.int_ok X G (c.fact 40 (f := .int "MOST_AGE" 300) rfl), He.int_ok X G (c.fact 41 (f := .int "MOST_DAY" 40000) rfl), He.int_ok X G (c.fact 42 (f := .int "DAYS_OF_A_YEAR" 365) rfl), He.int_ok X G (c.fact 43 (f := .int "LONGEST_NAME" 8) rfl), He.str_ok X G (c.fact 44 (f := .str "LETTERS" "abcdefghijklmnopqrstuvwxyz") rfl)⟩
theorem z_is_number (X : K.In h) (G : h.Ns mainGlobals mg) (c : SD K) : ∃ a d, Fn K "is_number" "is_number" sIsNum a d ∧ mg "is_number" = some (.ref a) := by
  obtain ⟨fd, F⟩ := c.def_ 0 (d := d_is_number) rfl
  exact ⟨_, fd, F, (He.glo_ok X G (c.fact 0 (f := .glo "is_number") rfl))⟩
theorem z_is_number_from (X : K.In h) (G : h.Ns mainGlobals mg) (c : SD K) : ∃ a d, Fn K "is_number_from" "is_number_from" sFrom a d ∧ mg "is_number_from" = some (.ref a) := by
  obtain ⟨fd, F⟩ := c.def_ 1 (d := d_is_number_from) rfl
  exact ⟨_, fd, F, (He.glo_ok X G (c.fact 1 (f := .glo "is_number_from") rfl))⟩
theorem z_is_name (X : K.In h) (G : h.Ns mainGlobals mg) (c : SD K) : ∃ a d, Fn K "is_name" "is_name" sIsName a d ∧ mg "is_name" = some (.ref a) := by
  obtain ⟨fd, F⟩ := c.def_ 2 (d := d_is_name) rfl
  exact ⟨_, fd, F, (He.glo_ok X G (c.fact 2 (f := .glo "is_name") rfl))⟩
theorem z_is_day (X : K.In h) (G : h.Ns mainGlobals mg) (c : SD K) : ∃ a d, Fn K "is_day" "is_day" sIsDay a d ∧ mg "is_day" = some (.ref a) := by
  obtain ⟨fd, F⟩ := c.def_ 3 (d := d_is_day) rfl
  exact ⟨_, fd, F, (He.glo_ok X G (c.fact 3 (f := .glo "is_day") rfl))⟩
theorem z_is_wind (X : K.In h) (G : h.Ns mainGlobals mg) (c : SD K) : ∃ a d, Fn K "is_wind" "is_wind" sIsWind a d ∧ mg "is_wind" = some (.ref a) := by
  obtain ⟨fd, F⟩ := c.def_ 4 (d := d_is_wind) rfl
  exact ⟨_, fd, F, (He.glo_ok X G (c.fact 4 (f := .glo "is_wind") rfl))⟩
theorem z_is_team (X : K.In h) (G : h.Ns mainGlobals mg) (c : SD K) : ∃ a d, Fn K "is_team" "is_team" sIsTeam a d ∧ mg "is_team" = some (.ref a) := by
  obtain ⟨fd, F⟩ := c.def_ 5 (d := d_is_team) rfl
  exact ⟨_, fd, F, (He.glo_ok X G (c.fact 5 (f := .glo "is_team") rfl))⟩
theorem z_are_limits (X : K.In h) (G : h.Ns mainGlobals mg) (c : SD K) : ∃ a d, Fn K "are_limits" "are_limits" sAre a d ∧ mg "are_limits" = some (.ref a) := by
  obtain ⟨fd, F⟩ := c.def_ 6 (d := d_are_limits) rfl
  exact ⟨_, fd, F, (He.glo_ok X G (c.fact 6 (f := .glo "are_limits") rfl))⟩
theorem z__law_cell (X : K.In h) (G : h.Ns mainGlobals mg) (c : SD K) : ∃ a d, Fn K "_law_cell" "_law_cell" sCell a d ∧ mg "_law_cell" = some (.ref a) := by
  obtain ⟨fd, F⟩ := c.def_ 7 (d := d__law_cell) rfl
  exact ⟨_, fd, F, (He.glo_ok X G (c.fact 7 (f := .glo "_law_cell") rfl))⟩
theorem z__law_pen (X : K.In h) (G : h.Ns mainGlobals mg) (c : SD K) : ∃ a d, Fn K "_law_pen" "_law_pen" sPen a d ∧ mg "_law_pen" = some (.ref a) := by
  obtain ⟨fd, F⟩ := c.def_ 8 (d := d__law_pen) rfl
  exact ⟨_, fd, F, (He.glo_ok X G (c.fact 8 (f := .glo "_law_pen") rfl))⟩
theorem z__law_draw (X : K.In h) (G : h.Ns mainGlobals mg) (c : SD K) : ∃ a d, Fn K "_law_draw" "_law_draw" sDraw a d ∧ mg "_law_draw" = some (.ref a) := by
  obtain ⟨fd, F⟩ := c.def_ 9 (d := d__law_draw) rfl
  exact ⟨_, fd, F, (He.glo_ok X G (c.fact 9 (f := .glo "_law_draw") rfl))⟩
theorem z__law_pick (X : K.In h) (G : h.Ns mainGlobals mg) (c : SD K) : ∃ a d, Fn K "_law_pick" "_law_pick" sPick a d ∧ mg "_law_pick" = some (.ref a) := by
  obtain ⟨fd, F⟩ := c.def_ 10 (d := d__law_pick) rfl
  exact ⟨_, fd, F, (He.glo_ok X G (c.fact 10 (f := .glo "_law_pick") rfl))⟩
theorem z__law_terms (X : K.In h) (G : h.Ns mainGlobals mg) (c : SD K) : ∃ a d, Fn K "_law_terms" "_law_terms" sTerms a d ∧ mg "_law_terms" = some (.ref a) := by
  obtain ⟨fd, F⟩ := c.def_ 11 (d := d__law_terms) rfl
  exact ⟨_, fd, F, (He.glo_ok X G (c.fact 11 (f := .glo "_law_terms") rfl))⟩
theorem z__law_made (X : K.In h) (G : h.Ns mainGlobals mg) (c : SD K) : ∃ a d, Fn K "_law_made" "_law_made" sMade a d ∧ mg "_law_made" = some (.ref a) := by
  obtain ⟨fd, F⟩ := c.def_ 12 (d := d__law_made) rfl
  exact ⟨_, fd, F, (He.glo_ok X G (c.fact 12 (f := .glo "_law_made") rfl))⟩
theorem z__law_classes_right (X : K.In h) (G : h.Ns mainGlobals mg) (c : SD K) : ∃ a d, Fn K "_law_classes_right" "_law_classes_right" sClsRight a d ∧ mg "_law_classes_right" = some (.ref a) := by
  obtain ⟨fd, F⟩ := c.def_ 13 (d := d__law_classes_right) rfl
  exact ⟨_, fd, F, (He.glo_ok X G (c.fact 13 (f := .glo "_law_classes_right") rfl))⟩
theorem z_law (X : K.In h) (G : h.Ns mainGlobals mg) (c : SD K) : ∃ a d, Fn K "law" "law" sLaw a d ∧ mg "law" = some (.ref a) := by
  obtain ⟨fd, F⟩ := c.def_ 14 (d := d_law) rfl
  exact ⟨_, fd, F, (He.glo_ok X G (c.fact 14 (f := .glo "law") rfl))⟩
theorem z_hlp (X : K.In h) (G : h.Ns mainGlobals mg) (c : SD K) : Hlp K mg := ⟨z_is_number X G c, z_is_number_from X G c, z_are_limits X G c, z_is_wind X G c, z_free X G c, z_cons X G c⟩
theorem z_ph (X : K.In h) (G : h.Ns mainGlobals mg) (c : SD K) : Ph K mg := ⟨z_is_number X G c, z_is_number_from X G c, z_is_name X G c, z_is_day X G c, z_is_team X G c, z_free X G c, z_cons X G c⟩
theorem z_hl (X : K.In h) (G : h.Ns mainGlobals mg) (c : SD K) : Hl K mg := ⟨z__law_draw X G c, z__law_pick X G c, z_free X G c⟩
theorem z_all (X : K.In h) (G : h.Ns mainGlobals mg) (c : SD K) : All K mg := ⟨z_hlp X G c, z_ph X G c, z_hl X G c, z__law_cell X G c, z__law_pen X G c, z__law_terms X G c, z__law_made X G c, z__law_classes_right X G c⟩
theorem z_person (X : K.In h) (G : h.Ns mainGlobals mg) (c : SD K) (e : insB K (He.ga K "Person") = true) : OwnP K mg (He.ga K "Person") := by
  obtain ⟨h1, h⟩ := He.ba e
  obtain ⟨h2, h⟩ := He.ba h
  obtain ⟨h3, h⟩ := He.ba h
  obtain ⟨h4, h⟩ := He.ba h
  obtain ⟨h5, h⟩ := He.ba h
  obtain ⟨h6, h7⟩ := He.ba h
  obtain ⟨f0, F0⟩ := (c.def_ 15 (d := d_Person___init__) rfl)
  obtain ⟨f1, F1⟩ := (c.def_ 16 (d := d_Person___eq__) rfl)
  obtain ⟨f2, F2⟩ := (c.def_ 17 (d := d_Person_parts) rfl)
  obtain ⟨f3, F3⟩ := (c.def_ 18 (d := d_Person_age_on) rfl)
  obtain ⟨n1, n2, n3⟩ := He.meth_ok (c.fact 52 (f := .meth "Person" "__eq__") rfl)
  exact ⟨⟨He.cls_ok (c.fact 45 (f := .cls "Person") rfl), He.noat_ok (c.fact 46 (f := .noat "Person" "name") rfl), He.noat_ok (c.fact 47 (f := .noat "Person" "born") rfl), He.noat_ok (c.fact 48 (f := .noat "Person" "group") rfl), He.noat_ok (c.fact 49 (f := .noat "Person" "team") rfl), (He.glo_ok X G (c.fact 17 (f := .glo "Person") rfl)), He.eqO_ok h1, He.eqO_ok h2, of_decide_eq_true h3, of_decide_eq_true h4, of_decide_eq_true h5⟩, ⟨_, f0, _, F0, rfl, He.mkr_ok (c.fact 53 (f := .mkr "Person") rfl)⟩, ⟨_, f2, F2, He.meth_ok (c.fact 50 (f := .meth "Person" "parts") rfl)⟩, ⟨_, f3, F3, He.meth_ok (c.fact 51 (f := .meth "Person" "age_on") rfl)⟩, ⟨_, f1, F1, n1, n2⟩, He.eqO_ok h6, of_decide_eq_true h7⟩
theorem z_own (X : K.In h) (G : h.Ns mainGlobals mg) (c : SD K) (e : insB K (He.ga K "Rules") = true) : OwnR K mg (He.ga K "Rules") := by
  obtain ⟨h1, h⟩ := He.ba e
  obtain ⟨h2, h⟩ := He.ba h
  obtain ⟨h3, h⟩ := He.ba h
  obtain ⟨h4, h⟩ := He.ba h
  obtain ⟨h5, h⟩ := He.ba h
  obtain ⟨h6, h7⟩ := He.ba h
  obtain ⟨f0, F0⟩ := (c.def_ 19 (d := d_Rules___init__) rfl)
  obtain ⟨f1, F1⟩ := (c.def_ 20 (d := d_Rules___eq__) rfl)
  obtain ⟨f2, F2⟩ := (c.def_ 21 (d := d_Rules___len__) rfl)
  obtain ⟨f3, F3⟩ := (c.def_ 22 (d := d_Rules_classes_of) rfl)
  obtain ⟨m1, m2, m3⟩ := He.meth_ok (c.fact 60 (f := .meth "Rules" "__len__") rfl)
  obtain ⟨n1, n2, n3⟩ := He.meth_ok (c.fact 61 (f := .meth "Rules" "__eq__") rfl)
  exact ⟨⟨He.cls_ok (c.fact 54 (f := .cls "Rules") rfl), He.noat_ok (c.fact 55 (f := .noat "Rules" "limits") rfl), He.noat_ok (c.fact 56 (f := .noat "Rules" "up") rfl), He.noat_ok (c.fact 57 (f := .noat "Rules" "wind") rfl), He.noat_ok (c.fact 58 (f := .noat "Rules" "shares") rfl), (He.glo_ok X G (c.fact 18 (f := .glo "Rules") rfl)), He.eqO_ok h1, He.eqO_ok h2, of_decide_eq_true h3, of_decide_eq_true h4, of_decide_eq_true h5⟩, ⟨_, f0, _, F0, rfl, He.mkr_ok (c.fact 62 (f := .mkr "Rules") rfl)⟩, ⟨_, f3, F3, He.meth_ok (c.fact 59 (f := .meth "Rules" "classes_of") rfl)⟩, ⟨_, f2, F2, m1, m2⟩, ⟨_, f1, F1, n1, n2⟩, He.eqO_ok h6, of_decide_eq_true h7⟩
theorem z_ea (X : K.In h) (G : h.Ns mainGlobals mg) (c : SD K) : ErrT K mg "NoAge" (He.ga K "NoAge") := by
  obtain ⟨x1, x2, x3, x4⟩ := He.exc_ok (c.fact 63 (f := .exc "NoAge") rfl)
  exact ⟨(He.glo_ok X G (c.fact 15 (f := .glo "NoAge") rfl)), x1, x2, x3, x4⟩
theorem z_ed (X : K.In h) (G : h.Ns mainGlobals mg) (c : SD K) : ErrT K mg "NoDay" (He.ga K "NoDay") := by
  obtain ⟨x1, x2, x3, x4⟩ := He.exc_ok (c.fact 64 (f := .exc "NoDay") rfl)
  exact ⟨(He.glo_ok X G (c.fact 16 (f := .glo "NoDay") rfl)), x1, x2, x3, x4⟩

theorem z_end {w : World} {fa : Addr} (X : K.In h) (G : h.Ns mainGlobals mg) (hmg : mg ("law" : Str) = some (.ref fa)) (c : He.SaysX hfa hfn [] htf hex w h K) : LawG PySem.Challenge.rw_bestsbook_k16_whole_ages_and_classes w K L2.CX0 8 63 "_law_script" mg fa h := by
  have d := c.t.d
  obtain ⟨a, fd, F, g⟩ := z_law X G d
  have e0 : a = fa := by
    have := g.symm.trans hmg
    injection this with this
    injection this
  subst e0
  have b := FunD.bindsA (ps := ["_law_script"]) F fun _ _ _ _ _ _ us hl => match us, hl with | [_], _ => rfl
  refine ⟨_, [], spLaw K, fun p hp => (by cases hp), fun p hp => (by cases hp), fun p hp => (by cases hp), fun s u => b s [u] rfl, ?_, ?_⟩
  · intro H a' ns hl _ _ hS
    exact ⟨a', ns, rfl, hS, hl, fun _ => rfl⟩
  · intro base KB NB _
    obtain ⟨e1, e2⟩ := He.ba c.more
    exact fnG_of (ok_law F (z_all X G d) (z_own X G d e1) (z_person X G d e2) (z_ea X G d) (z_ed X G d))

end
end K16
open PySem PySem.W PySem.Calls PyProof.Rows
theorem PySem.Challenge.cw_bestsbook_k16_whole_ages_and_classes_holds : PySem.Challenge.rw_bestsbook_k16_whole_ages_and_classes.Holds := by
  w_on; o_law
  refine HandSHeadRun.head_any (r := OpenLaw.row PySem.Challenge.rw_bestsbook_k16_whole_ages_and_classes) (q := view (OpenLaw.row PySem.Challenge.rw_bestsbook_k16_whole_ages_and_classes).prog [35]) (H := K16.hk) (ob := K16.ob) (M := 6000) (loose := K16.loose) (d := HandSHeadRun.topDef (OpenLaw.row PySem.Challenge.rw_bestsbook_k16_whole_ages_and_classes).prog 35) (kwd := []) K16.ob_eq
    (by kernel_rfl) (fun s => by kernel_rfl) K16.run (by kernel_rfl) (by kernel_rfl) (by kernel_rfl) (by rfl) (by first | assumption | decide +kernel) (by decide +kernel) ⟨rfl, rfl, rfl, rfl, rfl, by decide +kernel⟩ ?hw ?hc
  case hw => w_witness2
  case hc =>
    refine Bb.walkG (l := PySem.Challenge.rw_bestsbook_k16_whole_ages_and_classes) (n := 63) (k := 8) (x := "_law_script") (CX := fun _ => L2.CX0) rfl (by decide) (by kernel_rfl) ⟨rfl, by decide, by decide⟩ ?F (fun _ _ _ _ _ z => z)
    intro w mg fa h Y G hmg0
    obtain ⟨K, KX, c⟩ := Y
    have hmg : mg ("law" : PySem.Str) = some (.ref fa) := by
      have e : (HandSHeadRun.topDef (OpenLaw.row PySem.Challenge.rw_bestsbook_k16_whole_ages_and_classes).prog 35).name = ("law" : PySem.Str) := by kernel_rfl
      rw [← e]
      exact hmg0
    exact ⟨K, KX, K16.z_end KX G hmg c⟩
