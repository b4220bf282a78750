import PyProof.Rows.All
import Wide.All
import OpenK.AllK
import Wide.FinOn
import PyProof.EqAt
import PyProof.EqKinds
import PyProof.TupleCall
import PyProof.ReprRoads
import PyProof.InstNe
import HandS.ForMost
import HandS.ForExc
import HandS.EndTab
import HandS.HeadHook4
import HandS.HeadWalk
import HandS.Head0
import HandS.Head1
import HandS.Head2
import HandS.ExcIs
import HandS.HotCalls
import HandS.IsInst
import HandS.Zip
import HandS.Walk
import HandS.TupAny
import HandS.Conv
import HandS.Deep
import HandS.OwnEq
import HandS.SetFor
import HandS.Defaults
import HandS.RaiseMore
import HandS.CallSlots
import KE.GoesMore
import HandS.FStr
import HandS.Style
import HandS.Strs
import KE.KCallOwn
import HandS.Flow
import KE.SortData
import PyProof.Rows.TupIn
import HandS.Lambda
import HandS.SortKw
import KE.SortKeyed
import KE.DataCmp
import HandS.TupLe
import KE.KUnpack
import HandS.StrMore
import HandS.TryOnly
import KE.IntTextLaws
import KE.KExcIs
import PySem.Challenge.RW_bestsbook_k13_texts_that_write_none
import PyProof.StrOps2
import KE.KExcInit
set_option Elab.async false
set_option linter.all false
set_option maxRecDepth 100000
set_option maxHeartbeats 2000000
namespace Bb
open PySem PySem.Spec PyProof.Rows L2

/-! repr of data that holds no dict -/
mutual
theorem dp_nodict {K : PySem.W.Frag} {H : Hp} : ∀ (d : PyData) (v : V), Dp K H v d → d.hasDict = false
  | .none, _, _ => rfl
  | .bool _, _, _ => rfl
  | .int _, _, _ => rfl
  | .str _, _, _ => rfl
  | .list ds, _, h => by
    cases h with
    | lst _ ha => exact dpall_nodict ds _ ha
  | .tuple ds, _, h => by
    cases h with
    | tup _ ha => exact dpall_nodict ds _ ha
  | .dict _, _, h => by cases h
theorem dpall_nodict {K : PySem.W.Frag} {H : Hp} : ∀ (ds : List PyData) (vs : List V), DpAll K H vs ds → PyData.hasDictAll ds = false
  | [], _, _ => rfl
  | d :: ds, _, h => by
    cases h with
    | cons h1 h2 =>
      show (PyData.hasDict d || PyData.hasDictAll ds) = false
      rw [dp_nodict d _ h1, dpall_nodict ds _ h2]
      rfl
end
def rRepr (K : PySem.W.Frag) : List V → Hp → VK → Prop := fun xs H Q => ∃ (x : V) (d : PyData), xs = [x] ∧ Dp K H x d ∧ d.showable = true ∧ d.depth ≤ 60 ∧ d.shown.length ≤ sizeLine ∧ Q (.str d.shown) H
theorem call_repr {X : Cx} (hg : X.A.guards = some []) (hu : X.A.units + 64 < cLine) : CallR X (.builtin "repr") (rRepr X.K) := by
  intro pins s σ H xs us Q I r h
  obtain ⟨x, d, rfl, hd, hs, hde, hz, q⟩ := h
  obtain ⟨u, rfl, ru⟩ := vals1 r
  have nd := dp_nodict d x hd
  obtain ⟨as, rd⟩ := Dp.reads I d x u hd ru
  cases hd with
  | non =>
    cases ru
    exact PySem.P.repr_of_none ⟨.str _, H, I.tok _, ⟨_, rfl⟩, q⟩
  | bl b =>
    cases ru
    exact PySem.P.repr_of_bool ⟨.str _, H, I.tok _, ⟨_, rfl⟩, q⟩
  | int i =>
    obtain ⟨t, rfl⟩ := ru
    exact PySem.P.repr_of_int (of_decide_eq_true hs) ⟨.str _, H, I.tok _, ⟨_, rfl⟩, q⟩
  | str z =>
    obtain ⟨t, rfl⟩ := ru
    exact PySem.P.repr_of_str ⟨.str _, H, I.tok _, ⟨_, rfl⟩, q⟩ hz
  | lst h1 h2 =>
    cases ru
    exact repr_of_reads' rd hs (fun z => by rw [nd] at z; cases z) hg (by omega) (fun _ _ e => e) (fun h' u' tk k => ⟨.str _, H, I.kept k, ⟨_, rfl⟩, q⟩) hz
  | tup h1 h2 =>
    cases ru
    exact repr_of_reads' rd hs (fun z => by rw [nd] at z; cases z) hg (by omega) (fun _ _ e => e) (fun h' u' tk k => ⟨.str _, H, I.kept k, ⟨_, rfl⟩, q⟩) hz
end Bb
set_option Elab.async false
set_option linter.all false
set_option maxRecDepth 100000
set_option maxHeartbeats 2000000
namespace Bb
open PySem PySem.Spec PyProof.Rows L2

/-! a def that is run where no repr is under way -/
structure FnG (P : Program) (w : World) (K : PySem.W.Frag) (mg : Str → Option Value) (base : Heap) (CX : CXT) (k : Nat) (f : Addr) (fd : FuncData) (ps : List Str) (sp : Sp) : Prop where
  args : ∀ vs H Q E, sp vs H Q E → vs.length = ps.length
  go : ∀ (A : Around) (outer : List Env) (s : Shared) (H : Hp) (ar : Args) (us : List Value) (vs : List V) (Q : VK) (E : XK), A.guards = some [] → Room k A → Env0 P w K mg base A outer s H → BindsTo s fd ar (ps.zip us) → Vals vs us → sp vs H Q E →
    codeAny (model P w) A (.call (.ref f) ar) (CR CX outer P w H s Q E) s

section
variable {P : Program} {w : World} {K : PySem.W.Frag} {mg : Str → Option Value} {base : Heap} {x qual : Str} {params : Arguments} {body : List Stmt} {scope : Scope} {dvs : List V} {kws : List (Str × V)} {f : Addr} {fd : FuncData}
theorem fnG {CX : CXT} {N ps : List Str} {k : Nat} {sp : Sp} (F : FunD K x qual params body scope dvs kws f fd) (S : FnScope N ps scope) (len : ∀ vs H Q E, sp vs H Q E → vs.length = ps.length)
    (bd : ∀ (cdv : Value) (A : Around) (outer : List Env) (s : Shared) (H : Hp) (vs : List V) (Q : VK) (E : XK), A.guards = some [] → Room k (A.deeper (envOfC qual scope s.heap.objs.size f cdv)) →
      (∀ c, fd.code = .ref c → cdv = .ref c) → sp vs H Q E →
      ∃ t, PSs (cxOf CX P w K mg base N qual scope f cdv A outer s H E) body t ∧ t { nx := fun _ H' => Q .non H', rt := Q } (start N vs) H) : FnG P w K mg base CX (k + 1) f fd ps sp := by
  obtain ⟨oc, od, dV, kV, doc, pm, an, cdv, ct, osl, rfl, lk, hcd, _, _⟩ := F.ex
  refine ⟨len, fun A outer s H ar us vs Q E gd room env bnd vals h => ?_⟩
  exact LamX.run_ofS (N := N) lk hcd S room env bnd vals (len _ _ _ _ h) fun room' => bd cdv A outer s H vs Q E gd room' (fun c e => e) h
end

section
variable {X : Cx} {CX : CXT} {k : Nat} {f : Addr} {fd : FuncData} {ps : List Str} {sp : Sp} {E : XK} {x : Str} {p pos : Pos} {e : Expr} {es : List Expr} {t : TA}
/-- such a def called by its name, all parameters given -/
theorem pe_callG (F : FnG X.prog X.w X.K X.mg X.base CX k f fd ps sp) (gd : X.A.guards = some []) (hr : Room k X.A) (hg : Gl X x) (hm : X.mg x = some (.ref f)) (hk : PySem.W.keepIn X.K (.ref f) = true) (hb : Binds X.K fd ps []) (hx : Passes CX X E)
    (ha : PA X (e :: es) t) (hdb : (x == ("__debug__" : Str)) = false := by decide) (he : starEach (e :: es) X.env = (false, eval e X.env) :: starEach es X.env := by rfl) (hpl : (backTo pos (starEach es X.env)).any (·.1) = false := by rfl) :
    PE X (.Call (.Name x p) (e :: es) [] pos) (tCall sp [] E t) := by
  constructor
  intro pins s σ H Q I h
  refine wpAny_Call_Name_kw (ld_glob I hg hm ?_ hdb)
  refine PySem.W.callWith_K (h₀ := X.base) I.ok.mod.kin hk ?_ he hpl
  refine thn (ha.run pos pins s σ H _ I h) ?_
  rintro us s1 ⟨vs, H1, I1, r, q⟩
  refine ⟨I1.kIn, ?_⟩
  have q' : sp vs H1 Q E := by
    have z : sp (vs ++ []) H1 Q E := q
    rw [List.append_nil] at z
    exact z
  have hl : us.length = ps.length := by
    rw [← r.length]
    exact F.args _ _ _ _ q'
  have bnd := hb s1 us I1.kIn (by rw [List.append_nil]; exact hl)
  rw [List.append_nil] at bnd
  refine wpAny_call (codeAny_mono (F.go X.A X.stack s1 H1 ⟨us, []⟩ us vs Q E gd hr I1.env0 bnd r q') ?_)
  rintro (er | fl) s' hq
  · exact hx pins σ H1 s1 er s' I1 hq
  · cases fl with
    | ret u => exact I1.after hq
    | next => exact hq.elim
    | brk => exact hq.elim
    | cont => exact hq.elim
end

/-! the end of a law row: the script is read, the tables are written, no repr is under way -/
section
variable {P : Program} {w : World} {K : PySem.W.Frag} {mg mb : Str → Option Value} {a : Addr} {cs : List (Addr × Addr)} {s₁ : Shared} {vs : List Value} {ns : List Int}
abbrev scO (vs : List Value) : Obj := { cls := .type "list", data := .seq vs.toArray }
abbrev emptyO : Obj := { cls := .none, data := .fields #[] }
/-- what is tracked at the start -/
def h0 (K : PySem.W.Frag) (T : List Addr) (a : Addr) (vs : List Value) (ns : List Int) : Hp := fun b =>
  if b ∈ T then some (.tbl #[]) else if b = a ∧ (K.lookup a).isNone = true then some (.frz (scO vs) (.lst (ns.map V.int))) else none
theorem h0_cases (K : PySem.W.Frag) (T : List Addr) (a : Addr) (vs : List Value) (ns : List Int) (b : Addr) :
    (h0 K T a vs ns b = none) ∨ (b ∈ T ∧ h0 K T a vs ns b = some (.tbl #[])) ∨ (b = a ∧ K.lookup a = none ∧ h0 K T a vs ns b = some (.frz (scO vs) (.lst (ns.map V.int)))) := by
  unfold h0
  by_cases h1 : b ∈ T
  · rw [if_pos h1]
    exact .inr (.inl ⟨h1, rfl⟩)
  · rw [if_neg h1]
    by_cases h2 : b = a ∧ (K.lookup a).isNone = true
    · rw [if_pos h2]
      exact .inr (.inr ⟨h2.1, Option.isNone_iff_eq_none.mp h2.2, rfl⟩)
    · rw [if_neg h2]
      exact .inl rfl
theorem law_callG {CX : CXT} {k : Nat} {fa : Addr} {fd : FuncData} {x : Str} {sp : Sp}
    (KX : K.In s₁.heap) (hns : s₁.heap.Ns mainGlobals mg) (hb : s₁.heap.Ns builtinsNs mb) (hbb : ∀ x : Str, x ≠ "__name__" → mb x = bootBuiltins x) (hlim : s₁.heap.NoLimit) (hg : s₁.gens = #[])
    (hT : ∀ p ∈ cs, s₁.heap.get? p.2 = some emptyO) (nT : ∀ p ∈ cs, K.lookup p.2 = none) (C : ∀ p ∈ cs, PySem.W.CodeHd s₁.heap p.1 p.2)
    (hbm : ∃ (bm : Addr) (ob : Obj), mg "__builtins__" = some (.ref bm) ∧ bm ≠ builtinsNs ∧ s₁.heap.get? bm = some ob ∧ ob.cls = .type "module" ∧ ob.dict = some builtinsNs ∧ ob.data = .plain)
    (ha : s₁.heap.get? a = some (scO vs)) (hi : IntsAre vs ns) (hl : ns.length ≤ sizeLine) (hr : Room k callerA)
    (F : ∀ base : Heap, K.In base → base.Ns mainGlobals mg → (∀ p ∈ cs, LamX.TabB base mg p.1 p.2) → FnG P w K mg base CX k fa fd [x] sp) (hbind : ∀ (s : Shared) (u : Value), BindsTo s fd ⟨[u], []⟩ [(x, u)])
    (hsp : ∀ H : Hp, (∀ p ∈ cs, H p.2 = some (.tbl #[])) → SqL K H a (ns.map V.int) → sp [.ref a] H (fun v _ => v = .bl true) fun _ _ _ => False)
    (hCX : ∀ H e s', CX [] H s₁ (fun _ _ _ => False) e s' → False) :
    codeAny (model P w) callerA (.call (.ref fa) ⟨[.ref a], []⟩) (fun r s' => r = .ok (.ret (.bool true)) ∧ OldK s₁.heap s'.heap ∧ s'.os = s₁.os ∧ AllBare s'.gens) s₁ := by
  have tbl : ∀ b ∈ cs.map (·.2), s₁.heap.get? b = some emptyO := by
    intro b hm
    obtain ⟨p, hp, rfl⟩ := List.mem_map.mp hm
    exact hT p hp
  have aT : a ∉ cs.map (·.2) := by
    intro hm
    have z := (tbl a hm).symm.trans ha
    injection z with z
    injection z with z1 z2 z3 z4
    cases z1
  let H : Hp := h0 K (cs.map (·.2)) a vs ns
  have hc : ∀ b, H b = none ∨ (b ∈ cs.map (·.2) ∧ H b = some (.tbl #[])) ∨ (b = a ∧ K.lookup a = none ∧ H b = some (.frz (scO vs) (.lst (ns.map V.int)))) := fun b => h0_cases K _ a vs ns b
  have hH : ∀ p ∈ cs, H p.2 = some (.tbl #[]) := fun p hp => by
    show h0 K _ a vs ns p.2 = _
    unfold h0
    rw [if_pos (List.mem_map.mpr ⟨p, hp, rfl⟩)]
  have lenV : vs.length = ns.length := hi.length
  have rv := vals_ints hi
  have sq : SqL K H a (ns.map V.int) := by
    cases hk : K.lookup a with
    | some o =>
      have e := (KX a o hk).symm.trans ha
      injection e with e
      subst e
      exact .inr ⟨_, vs.toArray, _, hk, rfl, rfl, rfl, by rw [List.size_toArray, lenV]; exact hl, by simpa using rv⟩
    | none =>
      refine .inl (.inr ⟨scO vs, ?_⟩)
      show h0 K _ a vs ns a = _
      unfold h0
      rw [if_neg aT, if_pos ⟨rfl, by rw [hk]; rfl⟩]
  have hok : HOk P w H s₁.heap := by
    intro b u e
    rcases hc b with z | ⟨m, z⟩ | ⟨rfl, _, z⟩
    · rw [z] at e
      cases e
    · rw [z] at e
      cases e
      exact tbl b m
    · rw [z] at e
      cases e
      exact ⟨ha, by rw [List.length_map]; exact hl, vs, _, rv, ha⟩
  -- what is no list and no empty table is not tracked
  have other : ∀ {b : Addr} {o : Obj}, s₁.heap.get? b = some o → o.data ≠ Data.seq vs.toArray 0 → o.data ≠ Data.fields #[] → H b = none := by
    intro b o e n1 n2
    rcases hc b with z | ⟨m, _⟩ | ⟨rfl, _, _⟩
    · exact z
    · have q := (tbl b m).symm.trans e
      injection q with q
      subst q
      exact absurd rfl n2
    · have q := ha.symm.trans e
      injection q with q
      subst q
      exact absurd rfl n1
  have down : ∀ {b : Addr} {o : Obj}, s₁.heap.get? b = some o → o.data ≠ Data.seq vs.toArray 0 → o.data ≠ Data.fields #[] → (hidT s₁.heap H).get? b = some o := fun e n1 n2 => hidT_get e (other e n1 n2)
  have nsD : ∀ {b : Addr} {m : Str → Option Value}, s₁.heap.Ns b m → (hidT s₁.heap H).Ns b m := by
    rintro b m ⟨o, es, ep, e, d, r⟩
    refine ⟨o, es, ep, down e ?_ ?_, d, r⟩
    · rw [d]
      intro q
      cases q
    · rw [d]
      intro q
      cases q
  have kin : K.In (hidT s₁.heap H) := by
    intro b o e
    refine hidT_get (KX b o e) ?_
    rcases hc b with z | ⟨m, _⟩ | ⟨rfl, n, _⟩
    · exact z
    · obtain ⟨p, hp, rfl⟩ := List.mem_map.mp m
      rw [nT p hp] at e
      cases e
    · rw [n] at e
      cases e
  have md : L2.Mod K mg (hidT s₁.heap H) := ⟨kin, nsD hns, ⟨mb, nsD hb, hbb⟩, by
    obtain ⟨mc, e1, e2⟩ := hlim
    exact ⟨mc, nsD e1, e2⟩⟩
  have tabs : ∀ p ∈ cs, LamX.TabB (hidT s₁.heap H) mg p.1 p.2 := by
    intro p hp
    constructor
    · obtain ⟨o, us, file, tf, flags, tg, inF, text, tt, g1, g2, g3, g4, g5⟩ := C p hp
      refine ⟨o, us, file, tf, flags, tg, inF, text, tt, down g1 ?_ ?_, g2, g3, g4, g5⟩
      · rw [g3]
        intro q
        cases q
      · rw [g3]
        intro q
        injection q with q
        rw [q] at g4
        simp at g4
    · obtain ⟨bm, ob, b1, b2, b3, b4, b5, b6⟩ := hbm
      refine ⟨bm, ob, b1, b2, ?_, ?_, down b3 ?_ ?_, b4, b5, b6⟩
      · intro q
        obtain ⟨o, es, ep, e, d, _⟩ := hns
        rw [q, e] at b3
        injection b3 with b3
        rw [← b3, d] at b6
        cases b6
      · intro q
        rw [q, hT p hp] at b3
        injection b3 with b3
        rw [← b3] at b6
        cases b6
      · rw [b6]
        intro q
        cases q
      · rw [b6]
        intro q
        cases q
    · intro z
      obtain ⟨o, es, ep, e, d, _⟩ := hns
      rw [z, hT p hp] at e
      injection e with e
      rw [← e] at d
      cases d
  have env : Env0 P w K mg (hidT s₁.heap H) callerA [] s₁ H :=
    { frames := rfl, mod := md, bs := fun b o e => of_hidT e, bsz := Nat.le_of_eq (hidT_size _ _), funs := True.intro, frf := (fun b z => by cases z), hok := hok, bare := .of_eq hg }
  refine codeAny_mono ((F _ kin (nsD hns) tabs).go callerA [] s₁ H ⟨[.ref a], []⟩ [.ref a] [.ref a] _ _ rfl hr env (hbind s₁ (.ref a)) (.cons rfl .nil) (hsp H hH sq)) ?_
  rintro (er | fl) s' h
  · exact (hCX H er s' h).elim
  · cases fl with
    | next => exact h.elim
    | brk => exact h.elim
    | cont => exact h.elim
    | ret u =>
      obtain ⟨v, H', os, bare, un, hok', r', q⟩ := h
      have q' : v = .bl true := q
      subst q'
      obtain rfl : u = Value.bool true := r'
      have same : ∀ b o, b ∉ cs.map (·.2) → s₁.heap.get? b = some o → s'.heap.get? b = some o := by
        intro b o nb e
        rcases hc b with z | ⟨m, _⟩ | ⟨rfl, _, z⟩
        · exact un.keep b o e z (by simp [frs]) (by simp)
        · exact absurd m nb
        · have z2 := un.frzs _ _ _ z
          obtain ⟨e2, _⟩ := hok' _ _ z2
          rw [ha] at e
          rw [← e]
          exact e2
      have grown : ∀ p ∈ cs, ∃ more : Array Value, s'.heap.get? p.2 = some { cls := .none, data := .fields more } := by
        intro p hp
        obtain ⟨more, z⟩ := un.tbls p.2 #[] (hH p hp)
        exact ⟨_, hok' p.2 _ z⟩
      refine ⟨rfl, ⟨fun b o e => ?_, fun b o e => ?_⟩, os, bare⟩
      · by_cases m : b ∈ cs.map (·.2)
        · obtain ⟨p, hp, rfl⟩ := List.mem_map.mp m
          obtain ⟨more, hm⟩ := grown p hp
          have e' := (hT p hp).symm.trans e
          injection e' with e'
          subst e'
          refine .inr (.inl ⟨((C p hp).tab (hT p hp)).isCodeTable, rfl, #[], more, rfl, ?_⟩)
          rw [Array.empty_append]
          exact hm
        · exact .inl (same b o m e)
      · by_cases m : b ∈ cs.map (·.2)
        · obtain ⟨p, hp, rfl⟩ := List.mem_map.mp m
          obtain ⟨more, hm⟩ := grown p hp
          exact ⟨_, hm⟩
        · exact ⟨o, same b o m e⟩
/-- what a law's facts at the head's heap h come to -/
def LawG (l : PySem.W.OpenLaw) (w : World) (K : PySem.W.Frag) (CX : CXT) (k n : Nat) (x : Str) (mg : Str → Option Value) (fa : Addr) (h : Heap) : Prop :=
  ∃ (fd : FuncData) (cs : List (Addr × Addr)) (sp : Sp), (∀ p ∈ cs, h.get? p.2 = some emptyO) ∧ (∀ p ∈ cs, K.lookup p.2 = none) ∧ (∀ p ∈ cs, PySem.W.CodeHd h p.1 p.2) ∧ (∀ (s : Shared) (u : Value), BindsTo s fd ⟨[u], []⟩ [(x, u)]) ∧
    (∀ (H : Hp) (a : Addr) (ns : List Int), ns.length ≤ n → (∀ z ∈ ns, Builtin.Int.intBits z ≤ 1048576) → (∀ p ∈ cs, H p.2 = some (.tbl #[])) → SqL K H a (ns.map V.int) → sp [.ref a] H (fun v _ => v = .bl true) fun _ _ _ => False) ∧
    ∀ base : Heap, K.In base → base.Ns mainGlobals mg → (∀ p ∈ cs, LamX.TabB base mg p.1 p.2) → FnG l.prog w K mg base CX k fa fd [x] sp
theorem walkG {l : PySem.W.OpenLaw} {n k : Nat} {q : Program} {loose : List Str} {XP : (Str → Option Value) → Heap → Prop} {YP : World → Heap → Prop} {d : DefRec} {CX : World → CXT} {x : Str}
    (hn : l.most = some n) (hn2 : n ≤ sizeLine) (hdf : d.params.defaults = []) (hr : Room k callerA)
    (F : ∀ (w : World) (mg : Str → Option Value) (fa : Addr) (h : Heap), YP w h → h.Ns mainGlobals mg → mg d.name = some (.ref fa) → ∃ K : PySem.W.Frag, K.In h ∧ LawG l w K (CX w) k n x mg fa h)
    (hCX : ∀ (w : World) (H : Hp) (s : Shared) (e : Value) (s' : Shared), CX w [] H s (fun _ _ _ => False) e s' → False) :
    PySem.W.WalkO q loose XP YP l.row.toRowW d [] (fun f vs => PySem.call f vs) := by
  refine Att.attach_callB hn hdf ?_
  intro w s₀ s₁ mg mb fa o pm cd doc a vs ns G Y ho hd hcd hmg hobj hints hlen hbits hg
  obtain ⟨K, KX, fd, cs, sp, c1, c2, c3, c4, c5, c6⟩ := F w mg fa _ Y G.T.g hmg
  exact law_callG KX G.T.g G.T.b G.T.builtins G.T.nolimit hg c1 c2 c3 G.T.bmain hobj hints (Nat.le_trans hlen hn2) hr c6 c4 (fun H hH hS => c5 H a ns hlen hbits hH hS) fun H e s' => hCX w H s₁ e s'
end
end Bb
set_option Elab.async false
set_option linter.all false
set_option maxRecDepth 100000
set_option maxHeartbeats 2000000
namespace Bb
open PySem PySem.Spec PyProof.Rows L2

/-! several clauses, each with a name: try: .. except x as n: .. except y as m: .. -/
abbrev Cl : Type := Value × Nat × (Addr → Value → Option Addr → TS)
/-- what the clauses wish of an exception, from the first on -/
def wAll (K : PySem.W.Frag) (Wout : WX) (D : Ends) : List Cl → WX
  | [] => Wout
  | q :: r => wAs K q.1 q.2.1 q.2.2 (wAll K Wout D r) D
inductive Cls2 (X : Cx) : List ExceptHandler → List Cl → Prop
  | nil : Cls2 X [] []
  | cons {x n : Str} {c : Value} {i : Nat} {ts : Addr → Value → Option Addr → TS} {b : Stmt} {su : List Stmt} {np pos' : Pos} {hds : List ExceptHandler} {l : List Cl} (hi : X.N[i]? = some n) (hl : X.env.kindOf n = some .local) (hc : Names X x c)
      (hsu : ∀ (a : Addr) (oe : Obj) (cls : Value) (d : Option Addr) (pn : List (Addr × Obj)), Zc cls d oe → (∃ vs, oe.data = .fields vs) → PSs (X.suite a ((a, oe) :: pn)) (b :: su) (ts a cls d)) (r : Cls2 X hds l) :
      Cls2 X (.ExceptHandler (some (.Name x np)) (some n) (b :: su) pos' :: hds) ((c, i, ts) :: l)
section
variable {X : Cx} {body : List Stmt} {h₁ : ExceptHandler} {hds : List ExceptHandler} {l : List Cl} {pos : Pos} {tb : WX → TS} {Wout : WX}
theorem ps_try_all (hs : X.stack = X.env :: X.outer) (hf : X.env.frame = some X.env.locals) (hN : X.N.Nodup) (tk : Takes X Wout)
    (hb : ∀ (W : WX) (pn : List (Addr × Obj)) (xe : Value → Shared → Prop), Takes (X.tr pn xe) W → PassesOwn (model X.prog X.w) X.A X.env xe → PSs (X.tr pn xe) body (tb W))
    (hh : Cls2 X (h₁ :: hds) l) : PS X (.Try body (h₁ :: hds) [] [] pos) (fun D σ H => tb (wAll X.K Wout D l) D σ H) := by
  constructor
  intro pins s σ H D I h
  have ok := I.ok
  have fr : X.A.frames = some (X.env :: X.outer) := by
    rw [ok.frames, hs]
  refine wpAny_Try_except ?_
  let land : Value → Shared → Prop := fun e s₁ => wpAny (model X.prog X.w) X.A (noteFrame e X.env)
    (fun _ s₂ => wpAny (model X.prog X.w) X.A (setFlight e none) (fun _ s₃ => wpAny (model X.prog X.w) X.A (handleBy e X.env (h₁ :: hds)) (SP X pins D) X.xe s₃) X.xe s₂) X.xe s₁
  have took : Takes (X.tr (X.pn ++ pins) land) (wAll X.K Wout D l) := by
    rintro u s' ⟨a, B, sI, pins', σ', H', cls, d, rfl, J', nb, up, sky, na, os, ag, wish⟩
    have J : Inv X pins σ' H' sI := J'.ofTry ok
    have over : Sky B (X.env :: X.outer) a (Zc cls d) X.env.locals s'.heap := by
      rw [← hs]
      exact sky
    show wpAny (model X.prog X.w) X.A (noteFrame (.ref a) X.env) _ _ _
    refine Sky.land Zc.steady fr hf over ?_
    intro h3 fl up3
    have J3 : Inv X pins σ' H' { s' with heap := h3 } := J.landed nb fl.1 (up.trans up3) os ag
    obtain ⟨oe, vs, ge, ze, de⟩ := fl.there
    have off : a ∉ frs (X.env :: X.outer) := by
      intro hm
      obtain ⟨_, o', e', hnf⟩ := fl.2.2.1.mem hm
      rw [ge] at e'
      cases e'
      exact hnf _ de
    have offL : a ≠ X.env.locals := by
      intro z
      refine off (List.mem_filterMap.mpr ⟨X.env, List.mem_cons_self, ?_⟩)
      rw [hf, z]
    have offF : a ∉ X.fs := by
      intro hm
      obtain ⟨e, he, q⟩ := List.mem_filterMap.mp hm
      exact off (List.mem_filterMap.mpr ⟨e, List.mem_cons_of_mem _ he, q⟩)
    have inS := J3.suite ge de na offL offF
    have looksT : PySem.W.Looks (model X.prog X.w) h3 (typeOf (.ref a)) cls := by
      intro A Q E s k q
      refine wpAny_typeOf_ref (k _ _ ge) ?_
      rw [ze.1]
      exact q
    -- the clauses, one behind the other
    have go : ∀ {hs' : List ExceptHandler} {l' : List Cl}, Cls2 X hs' l' → wAll X.K Wout D l' cls d σ' H' →
        wpAny (model X.prog X.w) X.A (handleBy (.ref a) X.env hs') (SP X pins D) X.xe { s' with heap := h3 } := by
      intro hs' l' ck
      induction ck with
      | nil =>
        intro w
        refine wpAny_handleBy_nil ?_
        obtain ⟨_, _, _, oe1, vs1, T, oT, ts1, g1, z1, d1, t1, _⟩ := id fl
        unfold PySem.passOn
        refine wpAny_bind (wpAny_field g1 d1 t1 ?_)
        rw [if_neg (by simp)]
        have last : wpAny (model X.prog X.w) X.A (setFlight (.ref a) X.env.frame) (fun _ s4 => wpAny (model X.prog X.w) X.A (throw (.ref a) : Sem Flow) (SP X pins D) X.xe s4) X.xe { s' with heap := h3 } := by
          rw [hf]
          refine HandSPX.setFlight_upZ fl ?_
          intro h4 held up4
          refine wpAny_throw (tk _ _ ⟨a, B, sI, pins, σ', H', cls, d, rfl, J, nb, (up.trans up3).trans up4, .inr (.inr ?_), na, os, ag, w⟩)
          rw [hs]
          exact held
        first
          | exact wpAny_bind (wpAny_pure (wpAny_bind last))
          | exact wpAny_bind last
      | @cons x n c i ts b su np pos' hds2 l2 hi hl hc hsu r ih =>
        intro w
        have w' : wAs X.K c i ts (wAll X.K Wout D l2) D cls d σ' H' := w
        obtain ⟨t, ht, yes, no⟩ := w'
        refine wpAny_handleBy_cons (codeAny_handlers_test ?_) (by intro q; cases q)
        have asked := PySem.W.exm_one (M := model X.prog X.w) J3.kIn looksT ht
        have name : ∀ {Q : Value → Shared → Prop} {E : Value → Shared → Prop}, Q c { s' with heap := h3 } → wpAny (model X.prog X.w) (X.A.mark (some (.ref a))) (eval (.Name x np) X.env) Q E { s' with heap := h3 } := by
          intro Q E q
          rcases hc with ⟨g, db, m | ⟨m, v, nn⟩⟩
          · exact ld_glob (X := X.suite a ((a, oe) :: (X.pn ++ pins))) inS g m q db
          · exact ld_blt (X := X.suite a ((a, oe) :: (X.pn ++ pins))) inS g m v q nn db
        refine name (asked.here ?_)
        cases t with
        | false => exact ih (no rfl)
        | true =>
          refine codeAny_handlers_suite_as ?_
          refine HandSPX.lands_againZ fl ?_
          intro h4 fl4 up4
          have J4 : Inv X pins σ' H' { s' with heap := h4 } := J.landed nb fl4.1 ((up.trans up3).trans up4) os ag
          obtain ⟨oe4, vs4, g4, z4, d4⟩ := fl4.there
          refine store_ok (X := X.suite a ((a, oe4) :: (X.pn ++ pins))) (v := .ref a) (J4.suite g4 d4 na offL offF) hN hi (.inl hl) rfl ?_ (.inr hl)
          intro s5 S5
          refine wpAny_mono ((hsu a oe4 cls d (X.pn ++ pins) z4 ⟨_, d4⟩).run [] s5 _ H' _ S5 (yes rfl a na)) ?_ (fun _ _ z => z.elim)
          have gone : ∀ {s6 : Shared} {σ6 : L2.St} {H6 : Hp} {Q : Shared → Prop}, Inv (X.suite a ((a, oe4) :: (X.pn ++ pins))) [] σ6 H6 s6 → (∀ s7, Inv X pins (σ6.set i none) H6 s7 → Q s7) →
              wpAny (model X.prog X.w) X.A (do bindName X.env n .none; unbindBehindTheSuite X.env n pos') (fun _ s7 => Q s7) X.xe s6 := fun S6 q => gone_ok (S6.unsuite ok) hN hi hl q
          intro f s6 sp
          cases f with
          | next =>
            obtain ⟨σ6, H6, S6, q6⟩ := sp
            exact gone S6 (fun s7 J7 => ⟨_, _, J7, q6⟩)
          | brk =>
            obtain ⟨σ6, H6, S6, q6⟩ := sp
            exact gone S6 (fun s7 J7 => ⟨_, _, J7, q6⟩)
          | cont =>
            obtain ⟨σ6, H6, S6, q6⟩ := sp
            exact gone S6 (fun s7 J7 => ⟨_, _, J7, q6⟩)
          | ret u =>
            obtain ⟨v6, σ6, H6, S6, r6, q6⟩ := sp
            exact gone S6 (fun s7 J7 => ⟨_, _, _, J7, r6, q6⟩)
    exact go hh wish
  refine wpAny_mono ((hb _ (X.pn ++ pins) land took PassesOwn.looking).run [] s σ H D (I.toTry _) h) ?_ (fun e s1 he => he)
  intro f s1 sp
  cases f with
  | next =>
    obtain ⟨σ1, H1, J1, q⟩ := sp
    exact wpAny_execs_nil ⟨σ1, H1, J1.ofTry ok, q⟩
  | brk =>
    obtain ⟨σ1, H1, J1, q⟩ := sp
    exact ⟨σ1, H1, J1.ofTry ok, q⟩
  | cont =>
    obtain ⟨σ1, H1, J1, q⟩ := sp
    exact ⟨σ1, H1, J1.ofTry ok, q⟩
  | ret u =>
    obtain ⟨v1, σ1, H1, J1, r, q⟩ := sp
    exact ⟨v1, σ1, H1, J1.ofTry ok, r, q⟩
end

/-! a def that is handed the exception of an except clause, in the clause's suite -/
section
variable {P : Program} {w : World} {K : PySem.W.Frag} {mg : Str → Option Value} {base : Heap}
/-- called with the exception at a, whose object is oe, it hands back z and leaves all as it was -/
structure FnE (P : Program) (w : World) (K : PySem.W.Frag) (mg : Str → Option Value) (base : Heap) (k : Nat) (f : Addr) (fd : FuncData) (ps : List Str) (D : Addr) (z : V) : Prop where
  one : ps.length = 1
  go : ∀ (A : Around) (outer : List Env) (s : Shared) (H : Hp) (ar : Args) (a : Addr) (oe : Obj) (Q : VK), L2H.RoomH k A → L2H.PinOk outer H s (a, oe) → Zc (.ref D) none oe → (∃ vs, oe.data = .fields vs) → Env0 P w K mg base A outer s H →
    BindsTo s fd ar (ps.zip [.ref a]) → (∀ H', (∀ b o, H b = some o → H' b = some o) → Q z H') → codeAny (model P w) A (.call (.ref f) ar) (CR (fun _ _ _ _ _ _ => False) outer P w H s Q (fun _ _ _ => False)) s
theorem fnE {x qual : Str} {params : Arguments} {body : List Stmt} {scope : Scope} {dvs : List V} {kws : List (Str × V)} {f : Addr} {fd : FuncData} {N : List Str} {p1 : Str} {k : Nat} {D : Addr} {z : V} (F : FunD K x qual params body scope dvs kws f fd) (S : FnScope N [p1] scope)
    (bd : ∀ (cdv : Value) (A : Around) (outer : List Env) (s : Shared) (H : Hp) (a : Addr) (oe : Obj) (Q : VK), L2H.RoomH k (A.deeper (envOfC qual scope s.heap.objs.size f cdv)) → Zc (.ref D) none oe → (∃ vs, oe.data = .fields vs) → (∀ H', (∀ b o, H b = some o → H' b = some o) → Q z H') →
      ∃ t, PSs (L2H.cxH (fun _ _ _ _ _ _ => False) P w K mg base N qual scope f cdv A outer s H (fun _ _ _ => False) (a, oe)) body t ∧ t { nx := fun _ H' => Q .non H', rt := Q } (start N [.ref a]) H) : FnE P w K mg base (k + 1) f fd [p1] D z := by
  obtain ⟨oc, od, dV, kV, doc, pm, an, cdv, ct, osl, rfl, lk, hcd, _, _⟩ := F.ex
  refine ⟨rfl, ?_⟩
  intro A outer s H ar a oe Q room pin hz hd env bnd back
  have kin : K.In s.heap := env.mod.kin.keeps fun b o e => (env.bs b o e).1
  have lim : s.heap.NoLimit := env.mod.nolimit.keeps fun b o e => (env.bs b o e).1
  have kinds : ∀ y ∈ [p1].zip [Value.ref a], scope.names.lookup y.1 = some .local ∨ (scope.names.lookup y.1 = some .cell ∧ ((cellsFrom (s.heap.objs.size + 1) scope.names []).lookup y.1).isSome = true) := by
    rintro ⟨n, v⟩ hy
    rcases S.par n (List.of_mem_zip hy).1 with q | q
    · exact .inl q
    · exact .inr ⟨q, PySem.W.cellsFrom_some _ _ _ (.inl q)⟩
  refine codeAny_call_function room.depth (kin _ _ lk) rfl S.co S.gen rfl (PySem.W.codeRec_of kin hcd) (bnd _ _ _ _ ?_)
  refine wpAny_newFunctionEnv_cells S.kind kinds ?_
  rintro env1 rfl s1 x1
  refine ⟨lim.keeps x1.toInCall.keep, codeAny_func ?_⟩
  obtain ⟨t, ht, hq⟩ := bd cdv A outer s H a oe Q (room.deeper _) hz hd back
  have start1 := L2H.inv_startH (CX := fun _ _ _ _ _ _ => False) (E := fun _ _ _ => False) S pin env (vs := [.ref a]) rfl (.cons rfl .nil) x1
  refine wpAny_mono (ht.run [] s1 (start N [.ref a]) H _ start1 hq) ?_ (fun e s' hx => hx)
  intro fl s' sp
  cases fl with
  | next =>
    obtain ⟨σ', H', J, q⟩ := sp
    exact ⟨V.non, H', J.os, J.bare, J.base, J.hok, rfl, q⟩
  | brk =>
    obtain ⟨_, _, _, q⟩ := sp
    exact q.elim
  | cont =>
    obtain ⟨_, _, _, q⟩ := sp
    exact q.elim
  | ret u =>
    obtain ⟨v, σ', H', J, rv, q⟩ := sp
    exact ⟨v, H', J.os, J.bare, J.base, J.hok, rv, q⟩
end
/-- kind(e) in the suite: e stands in slot i -/
theorem pe_callE {X : Cx} {a : Addr} {oe : Obj} {pn : List (Addr × Obj)} {k : Nat} {f D : Addr} {fd : FuncData} {ps : List Str} {z : V} {x : Str} {p pos : Pos} {e : Expr} (F : FnE X.prog X.w X.K X.mg X.base k f fd ps D z) (hr : L2H.RoomH k X.A) (hg : Gl X x) (hm : X.mg x = some (.ref f)) (hk : PySem.W.keepIn X.K (.ref f) = true)
    (hb : Binds X.K fd ps []) (hz : Zc (.ref D) none oe) (hd : ∃ vs, oe.data = .fields vs) {t : TA} (he : PA (X.suite a ((a, oe) :: pn)) [e] t)
    (hdb : (x == ("__debug__" : Str)) = false := by decide) (hst : starEach [e] X.env = (false, eval e X.env) :: starEach [] X.env := by rfl) (hpl : (backTo pos (starEach [] X.env)).any (·.1) = false := by rfl) :
    PE (X.suite a ((a, oe) :: pn)) (.Call (.Name x p) [e] [] pos) (fun σ H Q => t σ H fun vs H1 => vs = [.ref a] ∧ ∀ H', (∀ b o, H1 b = some o → H' b = some o) → Q z H') := by
  constructor
  intro pins s σ H Q I h
  refine wpAny_Call_Name_kw (ld_glob I hg hm ?_ hdb)
  refine PySem.W.callWith_K (h₀ := X.base) I.ok.mod.kin hk ?_ hst hpl
  refine thn (he.run pos pins s σ H _ I h) ?_
  rintro us s1 ⟨vs, H1, I1, r, rfl, q⟩
  refine ⟨I1.kIn, ?_⟩
  obtain ⟨u, rfl, ru⟩ := vals1 r
  cases ru
  have one : [Value.ref a].length = ps.length := F.one.symm
  have bnd := hb s1 [.ref a] I1.kIn (by rw [List.append_nil]; exact one)
  rw [List.append_nil] at bnd
  have pin1 := I1.pin (a, oe) (List.mem_append_left _ List.mem_cons_self)
  have pinned : L2H.PinOk X.stack H1 s1 (a, oe) := ⟨pin1.1, pin1.2.1, fun hm => (List.mem_cons.mp (I1.stkSub a hm)).elim pin1.2.2.1 pin1.2.2.2.1, pin1.2.2.2.2⟩
  refine wpAny_call (codeAny_mono (F.go _ X.stack s1 H1 ⟨[.ref a], []⟩ a oe Q ⟨hr.dp, hr.un⟩ pinned hz hd I1.env0 bnd q) ?_)
  rintro (er | fl) s' hq
  · exact hq.elim
  · cases fl with
    | ret u => exact I1.after hq
    | next => exact hq.elim
    | brk => exact hq.elim
    | cont => exact hq.elim
end Bb
set_option Elab.async false
set_option linter.all false
set_option maxRecDepth 100000
set_option maxHeartbeats 2000000
namespace Bb
open PySem PySem.Spec PyProof.Rows L2

/-! isinstance of the exception that the caller's suite holds -/
theorem call_isP {X : Cx} {a D : Addr} {oe : Obj} (hp : (a, oe) ∈ X.pn) (C : ExcC X.K D) (hz : Zc (.ref D) none oe) (hf : ∃ vs, oe.data = .fields vs) : CallR X (.builtin "isinstance") (rIsE X.K D a) := by
  intro pins s σ H xs us Q I r h
  obtain ⟨c, cv, b, rfl, hcv, e, q⟩ := h
  obtain ⟨u1, u2, rfl, r1, r2⟩ := vals2 r
  cases r1
  have ec := hcv _ r2
  subst ec
  have there := (I.pin (a, oe) (List.mem_append_left _ hp)).1
  obtain ⟨vs, hv⟩ := hf
  have J : PySem.W.InstAt s.heap a oe D none := by
    obtain ⟨oc, od, oda, osl⟩ := oe
    obtain ⟨h1, h2⟩ := hz
    dsimp only at h1 h2 hv
    subst h1 h2 hv
    exact ⟨there, rfl, rfl, trivial⟩
  refine PySem.W.kia_one (PySem.W.handS_kitx_exc C.hg C.hk C.hs C.hd C.ha C.hn C.ht C.hm) I.kIn J e (fun z => nomatch z) ?_
  intro tk
  exact ⟨.bl b, H, I.kept (t' := tk) (fun _ _ z => z), rfl, q⟩

/-! list.count of flat items -/
def rCntF (K : PySem.W.Frag) : V → List V → Hp → VK → Prop := fun x xs H Q => ∃ (p : Addr) (ys : List V) (y : V), x = .ref p ∧ xs = [y] ∧ SqL K H p ys ∧ flatV y = true ∧ ys.all flatV = true ∧ Q (.int ((ys.countP fun z => eqV z y : Nat) : Int)) H
theorem count_eqU {x : V} : ∀ {xs : List V} {us : List Value}, Vals xs us → xs.all flatV = true → us.countP (eqU x) = xs.countP fun y => eqV y x
  | _, _, .nil, _ => rfl
  | y :: xs, u :: us, .cons r t, f => by
    rw [List.all_cons, Bool.and_eq_true] at f
    rw [List.countP_cons, List.countP_cons, eqU_of r f.1, count_eqU t f.2]
theorem mt_countF {X : Cx} : MtR X "list.count" (rCntF X.K) := by
  intro pins s σ H x xs v us Q I rx rxs h
  obtain ⟨p, ys, y, rfl, rfl, hs, fy, fys, q⟩ := h
  cases rx
  obtain ⟨u, rfl, ru⟩ := vals1 rxs
  obtain ⟨its, rv, ⟨⟨cls, dd, data, sl⟩, n, ho, hc, hdn, hd⟩, hlen⟩ := I.list hs
  dsimp only at hc hd
  subst hc hd
  refine call_meets PySem.F.slot_list_count ⟨_, ho, rfl⟩ PySem.F.entry_list_count (PySem.F.args_list_count_2 _ _) (SeqAt.list_countAt p its.toArray n dd sl u (eqU y)) ⟨ho, ?_, ?_⟩
  · intro z hz
    exact mem_eqAt ru fy rv fys z (by simpa using hz)
  · refine ⟨.int ((ys.countP fun z => eqV z y : Nat) : Int), H, I.tok _, ⟨s.toks, ?_⟩, q⟩
    have e := count_eqU (x := y) rv fys
    show Value.int ((its.toArray.toList.countP (eqU y) : Nat) : Int) s.toks = _
    rw [show its.toArray.toList = its from rfl, e]

/-! len of an own instance; != by an own == -/
section
variable {X : Cx}
theorem call_lenOwn {CX : CXT} {C f : Addr} {fd : FuncData} {ps : List Str} {sp : Sp} {k : Nat} {E : XK} (F : FnOk X.prog X.w X.K X.mg X.base CX k f fd ps sp) (hr : Room (k + 1) X.A) (hs : PySem.W.findIn X.K (.ref C) "__len__" = some (some (.ref f))) (hf : PySem.W.isFn X.K (.ref f) = true)
    (hb : Binds X.K fd ps []) (hx : Passes CX X E) :
    CallR X (.builtin "len") (fun xs H Q => ∃ a dx fs, xs = [.ref a] ∧ H a = some (.ins C dx fs) ∧ sp [.ref a] H (fun v H' => ∃ n : Int, v = .int n ∧ (0 ≤ n ∧ n < 2 ^ 63) ∧ Q (.int n) H') E) := by
  intro pins s σ H xs us Q I r h
  obtain ⟨a, dx, fs, rfl, ha, hsp⟩ := h
  obtain ⟨u, rfl, ru⟩ := vals1 r
  cases ru
  obtain ⟨mA, J, _⟩ := ins_get I.hok ha
  obtain ⟨od, J, _⟩ := J.look
  obtain ⟨m, hF⟩ := I.fr
  refine PySem.W.len_K hF I.ok.mod.kin J hs hf ?_
  have hl := F.len _ _ _ _ hsp
  have bnd := hb s [.ref a] I.kIn (by simpa using hl)
  rw [List.append_nil] at bnd
  refine wpAny_call (codeAny_mono (F.run X.A.in1 X.stack s H ⟨[.ref a], []⟩ [.ref a] [.ref a] _ E hr.in1 I.env0.in1 bnd (.cons rfl .nil) hsp) ?_)
  rintro (er | fl) s' hq
  · exact hx pins σ H s er s' I hq
  · cases fl with
    | ret w' =>
      obtain ⟨z, H', I', rz, n, rfl, hn, q⟩ := I.after hq
      obtain ⟨t, rfl⟩ := rz
      exact ⟨hn, .int n, H', I'.tok _, ⟨_, rfl⟩, q⟩
    | next => exact hq.elim
    | brk => exact hq.elim
    | cont => exact hq.elim
end
namespace Ne
open PySem.W PySem.Calls
section
variable {prog : Program} {w : World} {A : Around} {E : Value → Shared → Prop} {s : Shared} {K : Frag} {x y C f : Addr} {ox oy : Obj} {od od' : Option Obj}
theorem wrap_ty : typeOf (.builtin "object.__ne__") = pure (.type "wrapper_descriptor") := by
  first
    | rfl
    | kernel_rfl
theorem obj_ne {Q : Value → Shared → Prop} (X : K.In s.heap) (I : InstAt s.heap x ox C od) (J : InstAt s.heap y oy C od') (hu : A.units + 1 < cLine) (he : findIn K (.ref C) "__eq__" = some (some (.ref f))) (hf : isFn K (.ref f) = true)
    (hn : findIn K (.ref C) "__ne__" = some (some (.builtin "object.__ne__"))) (hsub : subIn K (.ref C) (.type "object") = some true)
    (h : wpAny (model prog w) A.in1 (call (.ref f) [.ref x, .ref y]) (fun v s' => ∃ b, v = .bool b ∧ Q (.bool (!b)) s') E s) : wpAny (model prog w) A (compareOp .NotEq (.ref x) (.ref y)) Q E s := by
  obtain ⟨hp, g, d, tk, os⟩ := s
  have isO : Looks (model prog w) hp (isInstance (.ref x) (.type "object")) true := I.type.andThen (looks_subIn X hsub)
  -- object.__ne__(x, y)
  have slot : wpAny (model prog w) A (call (.builtin "object.__ne__") [.ref x, .ref y]) (fun v s' => ∃ b, v = .bool b ∧ Q (.bool b) s') E ⟨hp, g, d, tk, os⟩ := by
    refine wpAny_call (codeAny_call_builtin (by decide +kernel) F.cmpEntry_ne ?_)
    refine @check_slot (model prog w) _ _ ⟨hp, g, d, tk, os⟩ "object.__ne__" "object" "__ne__" (.ref x) [.ref y] [] _ F.cmpKind_ne F.cmpSplit_ne isO (F.cmpArgs_ne _ _) ?_
    unfold Builtin.«object.__ne__»
    have eqc : ∀ {R : Option Value → Shared → Prop} {E' : Value → Shared → Prop}, wpAny (model prog w) A.in1 (call (.ref f) [.ref x, .ref y]) (fun v => R (some v)) E' ⟨hp, g, d, tk, os⟩ →
        wpAny (model prog w) A.in1 (callSpecialIfBound? (.ref x) (Str.ofString "__eq__") [.ref y]) R E' ⟨hp, g, d, tk, os⟩ := fun z => ifBound_K X I he hf z
    have rest : ∀ (v : Value) (s' : Shared), (∃ b, v = .bool b ∧ Q (.bool (!b)) s') → wpAny (model prog w) A.in1 (match some v with | some Value.notImplemented => ret .notImplemented | none => ret .notImplemented | some r => do ret (.bool (!(← truthy r))))
        (fun fin s' => match fin with
          | .done f => wants (fun v s' => ∃ b, v = Value.bool b ∧ Q (Value.bool b) s') E (.ok f) s'
          | .again c' => c'.quiet = true ∧ codeAny (model prog w) A c' (wants (fun v s' => ∃ b, v = Value.bool b ∧ Q (Value.bool b) s') E) s') (fun e s' => wants (fun v s' => ∃ b, v = Value.bool b ∧ Q (Value.bool b) s') E (.error e) s') s' := by
      rintro v s' ⟨b, rfl, hq⟩
      refine wpAny_bind (wpAny_truthy_bool (wpAny_pure ?_))
      exact ⟨!b, rfl, hq⟩
    repeat (first
      | with_reducible refine wpAny_cRoomFor hu ?_
      | exact wpAny_bind (m := callSpecialIfBound? (.ref x) (Str.ofString "__eq__") [.ref y]) (eqc (wpAny_mono h (fun v s' hv => rest v s' hv) fun _ _ e => e))
      | wp_step)
  have bs : bindSpecial (.builtin "object.__ne__") (.ref x) = pure (.builtin "object.__ne__", [.ref x]) := by
    unfold bindSpecial
    rw [wrap_ty]
    rfl
  have two : wpAny (model prog w) A (callSpecialIfBound? (.ref x) (Str.ofString "__ne__") [.ref y]) (fun r s' => ∃ b, r = some (Value.bool b) ∧ Q (Value.bool b) s') E ⟨hp, g, d, tk, os⟩ := by
    simp only [callSpecialIfBound?, bindSpecialIfBound?]
    refine wpAny_holding (wpAny_bind (wpAny_bind (wpAny_bind (I.type.here ((looks_findIn X hn).here ?_)))))
    refine wpAny_bind (wpAny_askSetting (wpAny_ite ?_))
    have fin : wpAny (model prog w) A (call (.builtin "object.__ne__") ([.ref x] ++ [.ref y]) >>= fun v => pure (some v)) (fun r s' => ∃ b, r = some (Value.bool b) ∧ Q (Value.bool b) s') E ⟨hp, g, d, tk, os⟩ := by
      refine wpAny_bind (wpAny_mono slot ?_ fun _ _ e => e)
      rintro v s' ⟨b, rfl, hq⟩
      exact wpAny_pure ⟨b, rfl, hq⟩
    split
    · rw [bs]
      exact wpAny_bind (wpAny_pure (wpAny_pure (by exact fin)))
    · rw [bs]
      exact wpAny_tryCatch (wpAny_bind (wpAny_pure (wpAny_pure (by exact fin))))
  have one : wpAny (model prog w) A (tryCompare (.ref x) (Str.ofString "__ne__") (.ref y)) (fun r s' => ∃ v, r = some v ∧ Q v s') E ⟨hp, g, d, tk, os⟩ := by
    unfold tryCompare
    refine wpAny_bind (wpAny_mono two ?_ fun _ _ e => e)
    rintro r s' ⟨b, rfl, hq⟩
    exact wpAny_pure ⟨_, rfl, hq⟩
  show wpAny (model prog w) A (richCompare .NotEq (.ref x) (.ref y)) Q E _
  unfold richCompare
  simp only [oneThing_ref]
  refine wpAny_holding (wpAny_bind (wpAny_cRoomFor (Nat.lt_of_succ_lt hu) ?_))
  refine wpAny_bind (I.type.here (wpAny_bind (J.type.here ?_)))
  rw [show (Value.ref C != Value.ref C) = false from by simp]
  simp only [Bool.false_eq_true, if_false]
  refine wpAny_bind (wpAny_pure ?_)
  simp only [Bool.false_eq_true, if_false]
  refine wpAny_bind (wpAny_mono one ?_ fun _ _ e => e)
  rintro r s' ⟨v, rfl, hq⟩
  exact wpAny_pure hq
end
end Ne
end Bb
set_option Elab.async false
set_option linter.all false
set_option maxRecDepth 100000
set_option maxHeartbeats 2000000
namespace Bb
open PySem PySem.Spec PyProof.Rows L2
open Builtin

/-! ==, != by an own ==: what it answers is told -/
section
variable {X : Cx} {CX : CXT} {C f : Addr} {fd : FuncData} {ps : List Str} {sp : Sp} {k : Nat} {E : XK}
theorem op_neOwn (F : FnOk X.prog X.w X.K X.mg X.base CX k f fd ps sp) (hr : Room (k + 1) X.A) (he : PySem.W.findIn X.K (.ref C) "__eq__" = some (some (.ref f))) (hf : PySem.W.isFn X.K (.ref f) = true)
    (hn : PySem.W.findIn X.K (.ref C) "__ne__" = some (some (.builtin "object.__ne__"))) (hsub : PySem.W.subIn X.K (.ref C) (.type "object") = some true) (hb : Binds X.K fd ps []) (hx : Passes CX X E) :
    OpR X (compareOp .NotEq) (fun x y H Q => ∃ a b dx dy fs gs, x = .ref a ∧ y = .ref b ∧ H a = some (.ins C dx fs) ∧ H b = some (.ins C dy gs) ∧ sp [.ref a, .ref b] H (fun v H' => ∃ t, v = .bl t ∧ Q (.bl (!t)) H') E) := by
  intro pins s σ H x y v u Q I rx ry h
  obtain ⟨a, b, dx, dy, fs, gs, rfl, rfl, ha, hb', hsp⟩ := h
  cases rx
  cases ry
  obtain ⟨mA, J, _⟩ := ins_get I.hok ha
  obtain ⟨od, J, _⟩ := J.look
  obtain ⟨mB, J', _⟩ := ins_get I.hok hb'
  obtain ⟨od', J', _⟩ := J'.look
  have un := hr.units
  refine Ne.obj_ne I.kIn J J' (by omega) he hf hn hsub ?_
  have hl := F.len _ _ _ _ hsp
  have bnd := hb s [.ref a, .ref b] I.kIn (by simpa using hl)
  rw [List.append_nil] at bnd
  refine wpAny_call (codeAny_mono (F.run X.A.in1 X.stack s H ⟨[.ref a, .ref b], []⟩ [.ref a, .ref b] [.ref a, .ref b] _ E hr.in1 I.env0.in1 bnd (.cons rfl (.cons rfl .nil)) hsp) ?_)
  rintro (er | fl) s' hq
  · exact hx pins σ H s er s' I hq
  · cases fl with
    | ret w' =>
      obtain ⟨z, H', I', rz, t, rfl, q⟩ := I.after hq
      cases rz
      exact ⟨t, rfl, .bl (!t), H', I', rfl, q⟩
    | next => exact hq.elim
    | brk => exact hq.elim
    | cont => exact hq.elim
theorem op_eqOwn (F : FnOk X.prog X.w X.K X.mg X.base CX k f fd ps sp) (hr : Room k X.A) (he : PySem.W.findIn X.K (.ref C) "__eq__" = some (some (.ref f))) (hf : PySem.W.isFn X.K (.ref f) = true)
    (hb : Binds X.K fd ps []) (hx : Passes CX X E) :
    OpR X (compareOp .Eq) (fun x y H Q => ∃ a b dx dy fs gs, x = .ref a ∧ y = .ref b ∧ H a = some (.ins C dx fs) ∧ H b = some (.ins C dy gs) ∧ sp [.ref a, .ref b] H (fun v H' => ∃ t, v = .bl t ∧ Q (.bl t) H') E) := by
  intro pins s σ H x y v u Q I rx ry h
  obtain ⟨a, b, dx, dy, fs, gs, rfl, rfl, ha, hb', hsp⟩ := h
  cases rx
  cases ry
  obtain ⟨mA, J, _⟩ := ins_get I.hok ha
  obtain ⟨od, J, _⟩ := J.look
  obtain ⟨mB, J', _⟩ := ins_get I.hok hb'
  obtain ⟨od', J', _⟩ := J'.look
  obtain ⟨m, hF⟩ := I.fr
  show wpAny (model X.prog X.w) X.A (richCompare .Eq (.ref a) (.ref b)) _ _ _
  refine PySem.W.cmp_K (op := .Eq) (tb := .ref C) hr.units0 hF I.ok.mod.kin J J'.type (by simp [PySem.W.notFirst]) he hf ?_
  have hl := F.len _ _ _ _ hsp
  have bnd := hb s [.ref a, .ref b] I.kIn (by simpa using hl)
  rw [List.append_nil] at bnd
  refine wpAny_call (codeAny_mono (F.run X.A X.stack s H ⟨[.ref a, .ref b], []⟩ [.ref a, .ref b] [.ref a, .ref b] _ E hr I.env0 bnd (.cons rfl (.cons rfl .nil)) hsp) ?_)
  rintro (er | fl) s' hq
  · exact hx pins σ H s er s' I hq
  · cases fl with
    | ret w' =>
      obtain ⟨z, H', I', rz, t, rfl, q⟩ := I.after hq
      cases rz
      exact ⟨.bl t, H', I', rfl, q⟩
    | next => exact hq.elim
    | brk => exact hq.elim
    | cont => exact hq.elim
end

/-! enumerate over a tuple -/
def IteT (K : PySem.W.Frag) (a : Addr) : It :=
  ⟨fun i H => ∃ (xs : List V) (x : V), SqT K H a xs ∧ xs[i]? = some x, fun i H v H' => ∃ T x, v = .ref T ∧ H T = none ∧ H' = upd H T (.tup [.int (i : Nat), x]) ∧ ∀ xs, SqT K H a xs → xs[i]? = some x, fun i H => ∃ xs : List V, SqT K H a xs ∧ xs.length ≤ i⟩
theorem tup_ne_iter {h : Heap} {a it : Addr} {items : Array Value} {i : Nat} (t : h.IsTuple a items) (x : h.IsTupleIter it a i) : a ≠ it := by
  rintro rfl
  obtain ⟨o, e, c, _⟩ := t
  obtain ⟨o', e', c', _⟩ := x
  rw [e] at e'
  injection e' with e'
  subst e'
  rw [c] at c'
  exact absurd c' (by decide)
theorem tup_ne_enum {h : Heap} {a e it : Addr} {items : Array Value} {i : Int} {old : Value} (t : h.IsTuple a items) (x : IsEnum h e it i old) : e ≠ a := by
  rintro rfl
  obtain ⟨o, g, c, _⟩ := t
  have g' : h.get? e = _ := x
  rw [g] at g'
  injection g' with g'
  subst g'
  have c' : Value.type "enumerate" = Value.type "tuple" := c
  exact absurd c' (by decide)
theorem turn_enumT {P : Program} {w : World} {K : PySem.W.Frag} {elts : List Expr} {kk : Nat} {tpos : Pos} (a e it : Addr) :
    Turn P w K (.Tuple elts kk tpos) (IteT K a) [e, it] e (fun i h => (∃ old, IsEnum h e it ((i : Nat) : Int) old) ∧ h.IsTupleIter it a i ∧ e ≠ it) where
  mem := by simp
  obj := by
    rintro i h ⟨⟨old, he⟩, ⟨o, ho, hc, hd⟩, _⟩ b hb
    have two : b = e ∨ b = it := by simpa using hb
    rcases two with rfl | rfl
    · exact ⟨_, he, fun v q => nomatch q⟩
    · refine ⟨o, ho, fun v q => ?_⟩
      rw [hd] at q
      cases q
  keep := by
    rintro i h h' ⟨⟨old, he⟩, hi, ne⟩ k
    exact ⟨⟨old, k e (by simp) _ he⟩, hi.at (fun o q => k it (by simp) o q), ne⟩
  item := by
    intro X hP hw hK hc i pins s σ H E I hf st hg
    subst hP hw hK
    obtain ⟨⟨old, he⟩, hit, ne⟩ := st
    obtain ⟨xs, x, hq, hx⟩ := hg
    obtain ⟨its, rv, p, hz⟩ := I.tuple hq
    have pt : s.heap.IsTuple a its.toArray := p
    obtain ⟨u, hu, ru⟩ := rv.get hx
    have szE : e < s.heap.objs.size := Heap.lt_size he
    have szI : it < s.heap.objs.size := by
      obtain ⟨_, q, _⟩ := hit
      exact Heap.lt_size q
    have lt : i < its.toArray.size := by
      have z := (List.getElem?_eq_some_iff.mp hu).1
      simpa using z
    have D : Draws X.prog X.w X.A.in1 it [it, a] its.toArray.size (fun i v => its.toArray[i]? = some v) (fun i h => h.IsTupleIter it a i ∧ h.IsTuple a its.toArray) := Draws.tuple (show X.A.in1.handled = none from I.ok.hd hc) it a (tup_ne_iter pt hit) its.toArray
    refine wpAny_pyNext_enum_itemD D he ⟨hit, pt⟩ lt ne (by simp [ne, tup_ne_enum pt he]) ?_
    intro x' h' tk hx' ho st' hT hsz hk
    have ex : x' = u := by
      have z : its.toArray[i]? = some u := by simpa using hu
      rw [z] at hx'
      exact (Option.some.inj hx').symm
    subst ex
    refine ⟨_, rfl, wpAny_letOwnedTupleGo_enum (s := { s with heap := h', toks := tk + 1 }) ho ?_⟩
    intro h'' he' sb
    have hT2 : h''.get? s.heap.objs.size = some { cls := .type "tuple", data := .seq #[.int i tk, x'] } := (sb.2 _ (Nat.ne_of_gt szE)).trans hT
    have fresh : ObjOk X.prog X.w (upd H s.heap.objs.size (.tup [.int (i : Nat), x])) h'' s.heap.objs.size (.tup [.int (i : Nat), x]) :=
      ⟨(by show 2 ≤ sizeLine; decide), [.int i tk, x'], .cons ⟨_, rfl⟩ (.cons ru .nil), ⟨_, hT2, rfl, _, rfl⟩⟩
    have I1 : Inv X pins σ (upd H s.heap.objs.size (.tup [.int (i : Nat), x])) { s with heap := h'', toks := tk + 1 } := by
      refine I.turnedNew (ch := [e, it]) ?_ hf (Nat.le_refl _) fresh
      intro b ob hb q
      have n1 : b ≠ e := fun z => hb (by simp [z])
      have n2 : b ≠ it := fun z => hb (by simp [z])
      exact (sb.2 b n1).trans (hk b ob n1 n2 q)
    refine ⟨.ref s.heap.objs.size, _, I1, rfl, ⟨_, x, rfl, I.hok.fresh (Nat.le_refl _), rfl, ?_⟩, ⟨⟨x', ?_⟩, st'.1.at (fun o q => (sb.2 it (Ne.symm ne)).trans q), ne⟩, ?_⟩
    · intro ys hy
      rw [I.tuple_inj hy hq]
      exact hx
    · have e1 : ((i + 1 : Nat) : Int) = (i : Int) + 1 := by omega
      rw [e1]
      exact he'
    · intro b hb
      have two : b = e ∨ b = it := by simpa using hb
      have low : b < s.heap.objs.size := by
        rcases two with rfl | rfl
        · exact szE
        · exact szI
      rw [upd_ne (Nat.ne_of_lt low)]
      exact (hf b hb).1
  done := by
    intro X hP hw hK hc i pins s σ H E I hf st hg
    subst hP hw hK
    obtain ⟨⟨old, he⟩, hit, ne⟩ := st
    obtain ⟨xs, hq, hx⟩ := hg
    obtain ⟨its, rv, p, hz⟩ := I.tuple hq
    have pt : s.heap.IsTuple a its.toArray := p
    obtain ⟨f0, f1, f2, f3, f4, f5⟩ := hf it (by simp)
    have hl := rv.length
    have end_ : ∀ {Q : Option Value → Shared → Prop}, (∀ h', Heap.ExtBut it s.heap h' → Q none { s with heap := h' }) → wpAny (model X.prog X.w) X.A (pyNext (.ref e)) Q E s := by
      intro Q hQ
      unfold pyNext
      refine wpAny_bind (wpAny_attempt (wpAny_callSpecial?_slot (name := Str.ofString "__next__") ⟨_, he, rfl⟩ F.slot_enumerate_next (wpAny_call_entry F.slot_enumerate_next ⟨_, he, rfl⟩ F.entry_enumerate_next ?_ (F.args_enumerate_next_1 _))))
      show wpAny _ _ (field (.ref e) 2 >>= _) _ _ _
      refine wpAny_bind (wpAny_field he rfl (x := .ref it) rfl ?_)
      refine wpAny_bind (wpAny_nextOf_tuple_end (I.ok.hd hc) hit pt (by simp; omega) ?_)
      rintro h' x eb ⟨o, ho, hc'⟩
      refine wpAny_bind (wpAny_isInstance (T := "StopIteration") (b := true) ⟨o, ho, hc'⟩ isSubtype_stop ?_)
      exact wpAny_pure (hQ h' eb)
    exact end_ (fun h' eb => ⟨rfl, I.turned (t' := s.toks) (fun b o hb q => eb b o hb q) f0 f1 f3 f4 f5⟩)
  self := by
    rintro A i s Q E ⟨⟨_, he⟩, _⟩ h
    exact wpAny_pyIter_enum he h
theorem walk_enumT {K : PySem.W.Frag} {a : Addr} {xs : List V} : Walk (IteT K a) xs.length (fun H => SqT K H a xs) (YPair (fun i => some (.int (i : Nat))) (fun i => xs[i]?)) := by
  refine ⟨fun i _ hi q => ⟨xs, xs[i], q, by simp [hi]⟩, fun _ q => ⟨xs, q, Nat.le_refl _⟩, ?_⟩
  rintro i H v H' _ q ⟨T, x, h1, h2, h3, h4⟩
  exact ⟨T, .int (i : Nat), x, h1, h2, h3, rfl, h4 xs q⟩
theorem walk_zipT {K : PySem.W.Frag} {a b : Addr} {xs ys : List V} {n : Nat} (hn : n = min xs.length ys.length) : Walk (RZ.ItzT K a b) n (fun H => SqT K H a xs ∧ SqT K H b ys) (YPair (fun i => xs[i]?) (fun i => ys[i]?)) := by
  subst hn
  refine ⟨?_, fun _ q => ⟨xs, ys, q.1, q.2, by omega⟩, ?_⟩
  · intro i _ hi q
    have h1 : i < xs.length := by omega
    have h2 : i < ys.length := by omega
    exact ⟨xs, ys, xs[i], ys[i], q.1, q.2, by simp [h1], by simp [h2]⟩
  · rintro i H v H' _ q ⟨T, x, z, h1, h2, h3, h4, h5⟩
    exact ⟨T, x, z, h1, h2, h3, h4 xs q.1, h5 ys q.2⟩

/-! enumerate(t) is made -/
theorem meets_enumT (l : Addr) (items : Array Value) (n : Nat) (dct : Option Addr) (sl : Array (Option Value)) :
    Meets (Builtin.«enumerate.__new__» ⟨[.type "enumerate", .ref l], []⟩) (fun _ R s => s.heap.get? l = some { cls := .type "tuple", dict := dct, data := .seq items n, slots := sl } ∧
      R (.ok (.ret (.ref (s.heap.push { cls := .type "tuple_iterator", data := .fields #[.ref l, .int 0 0] }).objs.size)))
        { s with heap := (s.heap.push { cls := .type "tuple_iterator", data := .fields #[.ref l, .int 0 0] }).push { cls := .type "enumerate", data := .fields #[.none, .bool false, .ref s.heap.objs.size, rawInt 0, .none, .none] } }) :=
  .of_wp fun prog w A R s h => by
    obtain ⟨hp, g, d, tk, os⟩ := s
    obtain ⟨hl, h⟩ := h
    have hsub := sub_enumerate
    have tup : Heap.IsTuple (Shared.heap ⟨hp, g, d, tk, os⟩) l items := ⟨_, hl, rfl, n, rfl⟩
    wp_walk using AutoSeq1.wpAny_loadPart' hl
    refine wpAny_stack_any fun st => wpAny_pure ?_
    split
    · rename_i c _ _ _ _ _
      cases (c == Value.type "enumerate")
      · wp_walk using AutoSeq1.wpAny_loadPart' hl, wpAny_pyIter_tuple tup
        exact ⟨_, rfl, h⟩
      · wp_walk using AutoSeq1.wpAny_loadPart' hl, wpAny_pyIter_tuple tup
        exact ⟨_, rfl, h⟩
    · wp_walk using AutoSeq1.wpAny_loadPart' hl, wpAny_pyIter_tuple tup
      exact ⟨_, rfl, h⟩
theorem call_enumT {prog : Program} {w : World} {A : Around} {E : Value → Shared → Prop} {s : Shared} {l : Addr} {items : Array Value} {Q : Value → Shared → Prop} (hL : s.heap.IsTuple l items)
    (h : ∀ h', IsEnum h' (s.heap.objs.size + 1) s.heap.objs.size 0 .none → h'.IsTupleIter s.heap.objs.size l 0 → (∀ b o, s.heap.get? b = some o → h'.get? b = some o) → Q (.ref (s.heap.objs.size + 1)) { s with heap := h' }) :
    wpAny (model prog w) A (call (.type "enumerate") [.ref l]) Q E s := by
  obtain ⟨⟨c, dct, dt, sl⟩, hl, hc, n, hd⟩ := hL
  dsimp only at hc hd
  subst hc hd
  refine callType_new F.called_enumerate (by decide) (F.typeCall_enumerate_1 _) (F.newCall_enumerate_1 _) (fun obj => F.args_object_init_2 obj _) F.entry_enumerate_new (meets_enumT l items n dct sl) ⟨hl, ?_⟩
  have hz : (s.heap.push { cls := .type "tuple_iterator", data := .fields #[.ref l, .int 0 0] }).objs.size = s.heap.objs.size + 1 := Heap.size_push ..
  show _ ∧ _
  rw [hz]
  have he : IsEnum ((s.heap.push { cls := .type "tuple_iterator", data := .fields #[.ref l, .int 0 0] }).push { cls := .type "enumerate", data := .fields #[.none, .bool false, .ref s.heap.objs.size, rawInt 0, .none, .none] }) (s.heap.objs.size + 1) s.heap.objs.size 0 .none := by
    have q := Heap.get?_push_size (s.heap.push { cls := .type "tuple_iterator", data := .fields #[.ref l, .int 0 0] }) (o := { cls := .type "enumerate", data := .fields #[.none, .bool false, .ref s.heap.objs.size, rawInt 0, .none, .none] }) rfl
    rw [hz] at q
    exact q
  exact ⟨⟨_, he, rfl⟩, h _ he ⟨_, Heap.get?_push_of_some _ (Heap.get?_push_size _ rfl), rfl, rfl⟩ (fun b o x => Heap.get?_push_of_some _ (Heap.get?_push_of_some _ x))⟩
def iEnumT (K : PySem.W.Frag) (ta : TA) : TI := fun σ H R => ta σ H fun vs H1 => ∃ a xs, vs = [.ref a] ∧ SqT K H1 a xs ∧ R (IteT K a) H1
theorem pi_enumT {X : Cx} {e : Expr} {ta : TA} {p pos tpos : Pos} {elts : List Expr} {kk : Nat} (hg : Gl X "enumerate") (hm : X.mg "enumerate" = none) (ha : PA X [e] ta) (hs : starEach [e] X.env = [(false, eval e X.env)] := by rfl) :
    PI X (.Tuple elts kk tpos) (.Call (.Name "enumerate" p) [e] [] pos) (iEnumT X.K ta) := by
  constructor
  intro pins s σ H R I h
  refine Call_ (ld_blt I hg hm boot_enumerate (PyProof.Rows.callWith_type1 (thn (ha.run pos pins s σ H _ I h) ?_) hs rfl))
  rintro us s1 ⟨vs, H1, I1, r1, a, xs, rfl, hq, q⟩
  obtain ⟨u, rfl, ru⟩ := vals1 r1
  cases ru
  obtain ⟨its, rv, p', hz⟩ := I1.tuple hq
  refine call_enumT (show s1.heap.IsTuple a its.toArray from p') ?_
  intro h' he hit hk
  refine wpAny_pyIter_enum he ?_
  have I2 : Inv X pins σ H1 { s1 with heap := h' } := I1.kept (t' := s1.toks) hk
  refine ⟨s1.heap.objs.size + 1, [s1.heap.objs.size + 1, s1.heap.objs.size], _, _, H1, rfl, I2, turn_enumT a (s1.heap.objs.size + 1) s1.heap.objs.size, ⟨⟨.none, he⟩, hit, Nat.succ_ne_self _⟩, ?_, q⟩
  intro b hb
  have two : b = s1.heap.objs.size + 1 ∨ b = s1.heap.objs.size := by simpa using hb
  have hle : s1.heap.objs.size ≤ b := by
    rcases two with rfl | rfl
    · exact Nat.le_succ _
    · exact Nat.le_refl _
  exact I1.fpOk hle (I1.hok.fresh hle)
end Bb
set_option Elab.async false
set_option linter.all false
set_option maxRecDepth 100000
set_option maxHeartbeats 2000000
namespace Bb
open PySem PySem.Spec PyProof.Rows L2
/-! lists of ints as data -/
theorem dp_ints {K : PySem.W.Frag} {H : Hp} : ∀ ns : List Int, DpAll K H (ns.map V.int) (ns.map PyData.int)
  | [] => .nil
  | n :: ns => .cons (.int n) (dp_ints ns)
theorem eqv_ints : ∀ ns ms : List Int, PyData.eqvAll (ns.map PyData.int) (ms.map PyData.int) = decide (ns = ms)
  | [], [] => rfl
  | [], m :: ms => by simp [PyData.eqvAll]
  | n :: ns, [] => by simp [PyData.eqvAll]
  | n :: ns, m :: ms => by
    have ih := eqv_ints ns ms
    simp only [List.map_cons, PyData.eqvAll, PyData.eqv, ih]
    by_cases h : n = m
    · subst h
      simp
    · simp [h]
theorem lay_ints : ∀ ns : List Int, PyData.canLayAll0 (ns.map PyData.int) = true
  | [] => rfl
  | n :: ns => by
    have ih := lay_ints ns
    simp [PyData.canLayAll0, PyData.canLay0, ih]
theorem depth_ints : ∀ ns : List Int, PyData.depthAll (ns.map PyData.int) = 0
  | [] => rfl
  | n :: ns => by
    have ih := depth_ints ns
    simp [PyData.depthAll, PyData.depth, ih]
theorem shaped_list (ns : List Int) : SeqAt.shaped (.list (ns.map PyData.int)) = true := by
  unfold SeqAt.shaped
  simp [PyData.canLay0, lay_ints, PyData.depth, depth_ints]
theorem shaped_tup (ns : List Int) : SeqAt.shaped (.tuple (ns.map PyData.int)) = true := by
  unfold SeqAt.shaped
  simp [PyData.canLay0, lay_ints, PyData.depth, depth_ints]
theorem show_ints : ∀ ns : List Int, (∀ n ∈ ns, n.natAbs < 10 ^ 18) → PyData.showableAll (ns.map PyData.int) = true
  | [], _ => rfl
  | n :: ns, h => by
    have ih := show_ints ns fun x hx => h x (List.mem_cons_of_mem _ hx)
    have h1 := h n List.mem_cons_self
    have h2 : n.natAbs.log2 < 1920 := by
      by_cases z : n.natAbs = 0
      · rw [z]
        decide
      · exact (Nat.log2_lt z).mpr (Nat.lt_of_lt_of_le h1 (by decide +kernel))
    simp [PyData.showableAll, PyData.showable, ih, h2]
theorem textFrom_le : ∀ (ts : List Str) (k : Nat) (acc : Str), (textFrom k acc ts).length ≤ acc.length + piled ts
  | [], k, acc => Nat.le_add_right _ _
  | t :: r, k, acc => by
    have ih := textFrom_le r (k + 1) (acc ++ (if k > 0 then ", " else "" : String) ++ t)
    show (textFrom (k + 1) (acc ++ (if k > 0 then ", " else "" : String) ++ t) r).length ≤ _
    rw [strLen_append, strLen_append] at ih
    rw [piled_cons]
    have e : (((if k > 0 then ", " else "" : String) : Str)).length ≤ 2 := by
      split <;> decide +kernel
    omega
theorem listText_le (ts : List Str) : (listText ts).length ≤ piled ts + 2 := by
  unfold listText
  rw [strLen_append]
  have h := textFrom_le ts 0 "["
  have e1 : (("[" : String) : Str).length = 1 := by decide +kernel
  have e2 : (("]" : String) : Str).length = 1 := by decide +kernel
  rw [e1] at h
  rw [e2]
  omega
theorem int_shown {i : Int} (h : i.natAbs < 10 ^ 18) : (PyData.int i).shown.length ≤ 19 := by
  have e := int_text_length_le10 (k := 18) (by decide) h
  show (Str.ofString (toString i)).length ≤ 19
  rw [PySem.ofString_length]
  exact e
theorem piled_ints : ∀ ns : List Int, (∀ n ∈ ns, n.natAbs < 10 ^ 18) → piled (PyData.shownAll (ns.map PyData.int)) ≤ 21 * ns.length
  | [], _ => Nat.le_refl _
  | n :: ns, h => by
    have ih := piled_ints ns fun x hx => h x (List.mem_cons_of_mem _ hx)
    have h1 := int_shown (h n List.mem_cons_self)
    rw [List.map_cons]
    show piled ((PyData.int n).shown :: PyData.shownAll (ns.map PyData.int)) ≤ _
    rw [piled_cons, List.length_cons]
    omega
/-- what repr asks of a list of ints -/
theorem repr_ints {K : PySem.W.Frag} {H : Hp} {a : Addr} {ns : List Int} {Q : VK} (h : SqL K H a (ns.map V.int)) (hr : ∀ n ∈ ns, n.natAbs < 10 ^ 18) (hl : ns.length ≤ 1000) (q : Q (.str (PyData.list (ns.map PyData.int)).shown) H) : rRepr K [.ref a] H Q := by
  refine ⟨_, .list (ns.map PyData.int), rfl, .lst h (dp_ints ns), show_ints ns hr, ?_, ?_, q⟩
  · show PyData.depthAll (ns.map PyData.int) + 1 ≤ 60
    rw [depth_ints]
    decide
  · have h1 := listText_le (PyData.shownAll (ns.map PyData.int))
    have h2 := piled_ints ns hr
    show (listText (PyData.shownAll (ns.map PyData.int))).length ≤ sizeLine
    rw [sizeLine_eq]
    omega
theorem repr_txt {K : PySem.W.Frag} {H : Hp} {z : Str} {Q : VK} (hz : (reprText z).length ≤ sizeLine) (q : Q (.str (PyData.str z).shown) H) : rRepr K [.str z] H Q :=
  ⟨_, .str z, rfl, .str z, rfl, Nat.zero_le _, hz, q⟩
/-! t + u, t[lo:hi] of tuples: some tuple, new or not -/
def rCatB (K : PySem.W.Frag) : R2 := fun x y H Q => ∃ a b xs ys, x = .ref a ∧ y = .ref b ∧ SqT K H a xs ∧ SqT K H b ys ∧ xs.length + ys.length ≤ sizeLine ∧ ∀ p H', Same H H' → SqT K H' p (xs ++ ys) → Q (.ref p) H'
theorem op_catB {X : Cx} : OpR X (binaryOp .Add) (rCatB X.K) := by
  intro pins s σ H x y v u Q I rx ry h
  obtain ⟨a, b, xs, ys, rfl, rfl, ha, hb, hz, q⟩ := h
  refine op_catA pins s σ H _ _ v u Q I rx ry ⟨a, b, xs, ys, rfl, rfl, ha, hb, hz, ?_, ?_, ?_⟩
  · rintro rfl
    exact q b H (Same.refl H) hb
  · rintro _ rfl
    exact q a H (Same.refl H) (by rw [List.append_nil]; exact ha)
  · intro _ _ p hp
    refine q p _ (fun c o e => ?_) (SqT.of upd_same)
    rw [upd_ne (ne_of_none e hp)]
    exact e
end Bb
set_option Elab.async false
set_option linter.all false
set_option maxRecDepth 100000
set_option maxHeartbeats 2000000
namespace Bb
open PySem PySem.Spec PyProof.Rows L2
/-! things of any kind as data, dicts with int keys too; Z: the addresses that may change -/
mutual
inductive Da (Z : Addr → Prop) (H : Hp) : V → PyData → Prop
  | non : Da Z H .non .none
  | bl (b : Bool) : Da Z H (.bl b) (.bool b)
  | int (i : Int) : Da Z H (.int i) (.int i)
  | str (x : Str) : Da Z H (.str x) (.str x)
  | lst {a : Addr} {xs : List V} {ds : List PyData} : H a = some (.lst xs) → ¬ Z a → DaAll Z H xs ds → Da Z H (.ref a) (.list ds)
  | tup {a : Addr} {xs : List V} {ds : List PyData} : H a = some (.tup xs) → ¬ Z a → DaAll Z H xs ds → Da Z H (.ref a) (.tuple ds)
  | d0 {a : Addr} : H a = some (.dK []) → ¬ Z a → Da Z H (.ref a) (.dict [])
  | d1 {a : Addr} {i j : Int} : H a = some (.dK [(Sum.inl i, .int j)]) → ¬ Z a → Da Z H (.ref a) (.dict [(.int i, .int j)])
inductive DaAll (Z : Addr → Prop) (H : Hp) : List V → List PyData → Prop
  | nil : DaAll Z H [] []
  | cons {v : V} {vs : List V} {d : PyData} {ds : List PyData} : Da Z H v d → DaAll Z H vs ds → DaAll Z H (v :: vs) (d :: ds)
end
/-- all stays but what Z names -/
def Keeps (Z : Addr → Prop) (H H' : Hp) : Prop := ∀ b o, H b = some o → (∀ xs, o ≠ .tbl xs) → ¬ Z b → H' b = some o
theorem Keeps.refl {Z : Addr → Prop} {H : Hp} : Keeps Z H H := fun _ _ e _ _ => e
theorem Keeps.trans {Z : Addr → Prop} {H H1 H2 : Hp} (a : Keeps Z H H1) (b : Keeps Z H1 H2) : Keeps Z H H2 := fun c o e t n => b c o (a c o e t n) t n
theorem Keeps.of {Z : Addr → Prop} {H H' : Hp} (s : Same H H') : Keeps Z H H' := fun b o e _ _ => s b o e
theorem Keeps.ext {Z : Addr → Prop} {H H' : Hp} (x : LamX.ExtN H H') : Keeps Z H H' := fun b o e n _ => x b o e n
section
variable {Z Z' : Addr → Prop} {H H' : Hp}
mutual
theorem Da.keep (k : Keeps Z H H') : ∀ (d : PyData) (v : V), Da Z H v d → Da Z H' v d
  | .none, _, h => by
    cases h
    exact .non
  | .bool b, _, h => by
    cases h
    exact .bl b
  | .int i, _, h => by
    cases h
    exact .int i
  | .str x, _, h => by
    cases h
    exact .str x
  | .list ds, _, h => by
    cases h with
    | lst e n a => exact .lst (k _ _ e (fun _ z => by cases z) n) n (DaAll.keep k ds _ a)
  | .tuple ds, _, h => by
    cases h with
    | tup e n a => exact .tup (k _ _ e (fun _ z => by cases z) n) n (DaAll.keep k ds _ a)
  | .dict _, _, h => by
    cases h with
    | d0 e n => exact .d0 (k _ _ e (fun _ z => by cases z) n) n
    | d1 e n => exact .d1 (k _ _ e (fun _ z => by cases z) n) n
theorem DaAll.keep (k : Keeps Z H H') : ∀ (ds : List PyData) (vs : List V), DaAll Z H vs ds → DaAll Z H' vs ds
  | [], _, h => by
    cases h
    exact .nil
  | d :: ds, _, h => by
    cases h with
    | cons a b => exact .cons (Da.keep k d _ a) (DaAll.keep k ds _ b)
end
mutual
/-- other addresses that may change: none of the data's -/
theorem Da.zed (n : ∀ b o, H b = some o → ¬ Z b → ¬ Z' b) : ∀ (d : PyData) (v : V), Da Z H v d → Da Z' H v d
  | .none, _, h => by
    cases h
    exact .non
  | .bool b, _, h => by
    cases h
    exact .bl b
  | .int i, _, h => by
    cases h
    exact .int i
  | .str x, _, h => by
    cases h
    exact .str x
  | .list ds, _, h => by
    cases h with
    | lst e z a => exact .lst e (n _ _ e z) (DaAll.zed n ds _ a)
  | .tuple ds, _, h => by
    cases h with
    | tup e z a => exact .tup e (n _ _ e z) (DaAll.zed n ds _ a)
  | .dict _, _, h => by
    cases h with
    | d0 e z => exact .d0 e (n _ _ e z)
    | d1 e z => exact .d1 e (n _ _ e z)
theorem DaAll.zed (n : ∀ b o, H b = some o → ¬ Z b → ¬ Z' b) : ∀ (ds : List PyData) (vs : List V), DaAll Z H vs ds → DaAll Z' H vs ds
  | [], _, h => by
    cases h
    exact .nil
  | d :: ds, _, h => by
    cases h with
    | cons a b => exact .cons (Da.zed n d _ a) (DaAll.zed n ds _ b)
end
theorem DaAll.len : ∀ {ds : List PyData} {vs : List V}, DaAll Z H vs ds → vs.length = ds.length
  | [], _, h => by
    cases h
    rfl
  | d :: ds, _, h => by
    cases h with
    | cons a b =>
      rw [List.length_cons, List.length_cons, b.len]
theorem DaAll.get : ∀ {ds : List PyData} {vs : List V}, DaAll Z H vs ds → ∀ {i : Nat} {v : V}, vs[i]? = some v → ∃ d, ds[i]? = some d ∧ Da Z H v d
  | [], _, h, i, v, e => by
    cases h
    simp at e
  | d :: ds, _, h, i, v, e => by
    cases h with
    | cons a b =>
      cases i with
      | zero =>
        have e' := Option.some.inj e
        subst e'
        exact ⟨d, rfl, a⟩
      | succ i =>
        obtain ⟨d', h1, h2⟩ := b.get (i := i) (v := v) (by simpa using e)
        exact ⟨d', by simpa using h1, h2⟩
theorem DaAll.app : ∀ {ds es : List PyData} {vs us : List V}, DaAll Z H vs ds → DaAll Z H us es → DaAll Z H (vs ++ us) (ds ++ es)
  | [], _, _, _, h, g => by
    cases h
    exact g
  | d :: ds, _, _, _, h, g => by
    cases h with
    | cons a b => exact .cons a (b.app g)
theorem DaAll.take : ∀ {ds : List PyData} {vs : List V}, DaAll Z H vs ds → ∀ n : Nat, DaAll Z H (vs.take n) (ds.take n)
  | [], _, h, n => by
    cases h
    simp
    exact .nil
  | d :: ds, _, h, n => by
    cases h with
    | cons a b =>
      cases n with
      | zero => exact .nil
      | succ n => exact .cons a (b.take n)
theorem DaAll.drop : ∀ {ds : List PyData} {vs : List V}, DaAll Z H vs ds → ∀ n : Nat, DaAll Z H (vs.drop n) (ds.drop n)
  | [], _, h, n => by
    cases h
    simp
    exact .nil
  | d :: ds, _, h, n => by
    cases h with
    | cons a b =>
      cases n with
      | zero => exact .cons a b
      | succ n => exact b.drop n
theorem DaAll.ints : ∀ ns : List Int, DaAll Z H (ns.map V.int) (ns.map PyData.int)
  | [] => .nil
  | n :: ns => .cons (.int n) (DaAll.ints ns)
end
/-! no list within -/
mutual
def noList : PyData → Bool
  | .list _ => false
  | .tuple ds => noLists ds
  | _ => true
def noLists : List PyData → Bool
  | [] => true
  | d :: ds => noList d && noLists ds
end
section
variable {Z : Addr → Prop} {X : Cx} {pins : List (Addr × Obj)} {σ : L2.St} {H : Hp} {s : Shared}
theorem dict_reads {a : Addr} {kvs : List (Int × Int)} (I : Inv X pins σ H s) (h : H a = some (.dK (kvs.map fun p => (Sum.inl p.1, V.int p.2)))) : ∃ as, Reads s.heap (.ref a) (.dict (kvs.map fun p => (PyData.int p.1, PyData.int p.2))) (a :: as) ∧ as = [] ∧ (a == sysModules) = false := by
  obtain ⟨_, hs, vs, kv, o, es, ep, ho, ex, hd, _, pr, _⟩ := dk_of I.hok h
  have key : ∀ (kvs : List (Int × Int)) (vs : List (Key × Value)) (es : List DictEntry), KV (kvs.map fun p => ((Sum.inl p.1 : Key), V.int p.2)) vs → Pairs (mixKind X.prog X.w) es vs →
      ReadsAll s.heap (es.map (·.key)) ((kvs.map fun p => (PyData.int p.1, PyData.int p.2)).map (·.1)) [] ∧ ReadsAll s.heap (es.map (·.val)) ((kvs.map fun p => (PyData.int p.1, PyData.int p.2)).map (·.2)) [] := by
    intro kvs
    induction kvs with
    | nil =>
      intro vs es h1 h2
      cases h1
      cases h2
      exact ⟨.nil, .nil⟩
    | cons p kvs ih =>
      intro vs es h1 h2
      cases h1 with
      | cons e r =>
        cases h2 with
        | cons k v t =>
          obtain ⟨i1, i2⟩ := ih _ _ r t
          obtain ⟨e1, tk, e2⟩ := e
          dsimp only at e1 e2
          rw [← e1] at k
          have k' : keyIs (Sum.inl p.1) _ = true := k
          rcases keyIs_shape k' with ⟨i, t', q1, q2⟩ | ⟨x, t', q1, q2⟩
          · injection q1 with q1
            subst q1
            refine ⟨?_, ?_⟩
            · rw [List.map_cons, q2]
              exact ReadsAll.cons (as := []) (Reads.int _ _) i1
            · rw [List.map_cons, v, e2]
              exact ReadsAll.cons (as := []) (Reads.int _ _) i2
          · cases q1
  obtain ⟨r1, r2⟩ := key kvs vs es.toList kv pr
  exact ⟨[], Reads.dict ho ex.1 hd r1 r2, rfl, hs⟩
mutual
theorem Da.reads (I : Inv X pins σ H s) : ∀ (d : PyData) (v : V) (u : Value), Da Z H v d → RelV v u → ∃ as, Reads s.heap u d as ∧ (noList d = true → ∀ b ∈ as, (b == sysModules) = false)
  | .none, _, _, h, r => by
    cases h
    cases r
    exact ⟨_, Reads.none, fun _ b hb => by cases hb⟩
  | .bool b, _, _, h, r => by
    cases h
    cases r
    exact ⟨_, Reads.bool b, fun _ b hb => by cases hb⟩
  | .int i, _, _, h, r => by
    cases h
    obtain ⟨t, rfl⟩ := r
    exact ⟨_, Reads.int i t, fun _ b hb => by cases hb⟩
  | .str x, _, _, h, r => by
    cases h
    obtain ⟨t, rfl⟩ := r
    exact ⟨_, Reads.str x t, fun _ b hb => by cases hb⟩
  | .list ds, _, _, h, r => by
    cases h with
    | lst hs _ ha =>
      cases r
      obtain ⟨its, rv, ⟨o, n, ho, hc, _, hd⟩, _⟩ := I.list (SqL.of hs)
      obtain ⟨as, hr, _⟩ := DaAll.reads I ds _ its ha rv
      exact ⟨_, Reads.list ho hc hd hr, fun z => by
        unfold noList at z
        cases z⟩
  | .tuple ds, _, _, h, r => by
    cases h with
    | tup hs _ ha =>
      cases r
      obtain ⟨its, rv, ⟨o, ho, hc, n, hd⟩, _⟩ := I.tuple (SqT.of hs)
      obtain ⟨as, hr, q⟩ := DaAll.reads I ds _ its ha rv
      exact ⟨_, Reads.tuple ho hc hd hr, fun z => q (by unfold noList at z; exact z)⟩
  | .dict _, _, _, h, r => by
    cases h with
    | d0 e _ =>
      cases r
      obtain ⟨as, h1, h2, h3⟩ := dict_reads (kvs := []) I e
      subst h2
      exact ⟨_, h1, fun _ b hb => by
        rw [List.mem_singleton.mp hb]
        exact h3⟩
    | @d1 _ i j e _ =>
      cases r
      obtain ⟨as, h1, h2, h3⟩ := dict_reads (kvs := [(i, j)]) I e
      subst h2
      exact ⟨_, h1, fun _ b hb => by
        rw [List.mem_singleton.mp hb]
        exact h3⟩
theorem DaAll.reads (I : Inv X pins σ H s) : ∀ (ds : List PyData) (vs : List V) (us : List Value), DaAll Z H vs ds → Vals vs us → ∃ as, ReadsAll s.heap us ds as ∧ (noLists ds = true → ∀ b ∈ as, (b == sysModules) = false)
  | [], _, _, h, r => by
    cases h
    cases r
    exact ⟨_, ReadsAll.nil, fun _ b hb => by cases hb⟩
  | d :: ds, _, _, h, r => by
    cases h with
    | cons h1 h2 =>
      cases r with
      | cons r1 r2 =>
        obtain ⟨as, q1, n1⟩ := Da.reads I d _ _ h1 r1
        obtain ⟨bs, q2, n2⟩ := DaAll.reads I ds _ _ h2 r2
        refine ⟨_, ReadsAll.cons q1 q2, fun z b hb => ?_⟩
        unfold noLists at z
        rw [Bool.and_eq_true] at z
        rcases List.mem_append.mp hb with m | m
        · exact n1 z.1 b m
        · exact n2 z.2 b m
end
end
mutual
theorem Da.dp {K : PySem.W.Frag} {Z : Addr → Prop} {H : Hp} : ∀ (d : PyData) (v : V), Da Z H v d → d.hasDict = false → Dp K H v d
  | .none, _, h, _ => by
    cases h
    exact .non
  | .bool b, _, h, _ => by
    cases h
    exact .bl b
  | .int i, _, h, _ => by
    cases h
    exact .int i
  | .str x, _, h, _ => by
    cases h
    exact .str x
  | .list ds, _, h, n => by
    cases h with
    | lst e _ a =>
      unfold PyData.hasDict at n
      exact .lst (SqL.of e) (DaAll.dp ds _ a n)
  | .tuple ds, _, h, n => by
    cases h with
    | tup e _ a =>
      unfold PyData.hasDict at n
      exact .tup (SqT.of e) (DaAll.dp ds _ a n)
  | .dict _, _, _, n => by
    unfold PyData.hasDict at n
    cases n
theorem DaAll.dp {K : PySem.W.Frag} {Z : Addr → Prop} {H : Hp} : ∀ (ds : List PyData) (vs : List V), DaAll Z H vs ds → PyData.hasDictAll ds = false → DpAll K H vs ds
  | [], _, h, _ => by
    cases h
    exact .nil
  | d :: ds, _, h, n => by
    cases h with
    | cons a b =>
      unfold PyData.hasDictAll at n
      rw [Bool.or_eq_false_iff] at n
      exact .cons (Da.dp d _ a n.1) (DaAll.dp ds _ b n.2)
end
/-! repr of any such thing, where no repr is under way -/
def rReprA : List V → Hp → VK → Prop := fun xs H Q => ∃ (Z : Addr → Prop) (x : V) (d : PyData), xs = [x] ∧ Da Z H x d ∧ (d.hasDict = true → noList d = true) ∧ d.showable = true ∧ d.depth ≤ 60 ∧ d.shown.length ≤ sizeLine ∧ Q (.str d.shown) H
theorem call_reprA {X : Cx} (hg : X.A.guards = some []) (hu : X.A.units + 64 < cLine) : CallR X (.builtin "repr") rReprA := by
  intro pins s σ H xs us Q I r h
  obtain ⟨Z, x, d, rfl, hd, hn, hs, hde, hz, q⟩ := h
  obtain ⟨u, rfl, ru⟩ := vals1 r
  obtain ⟨as, rd, no⟩ := Da.reads I d x u hd ru
  have hsm : d.hasDict = true → sysModules ∉ as := fun z m => by
    have q := no (hn z) _ m
    simp at q
  cases hd with
  | non =>
    cases ru
    exact PySem.P.repr_of_none ⟨.str _, H, I.tok _, ⟨_, rfl⟩, q⟩
  | bl b =>
    cases ru
    exact PySem.P.repr_of_bool ⟨.str _, H, I.tok _, ⟨_, rfl⟩, q⟩
  | int i =>
    obtain ⟨t, rfl⟩ := ru
    exact PySem.P.repr_of_int (of_decide_eq_true hs) ⟨.str _, H, I.tok _, ⟨_, rfl⟩, q⟩
  | str z =>
    obtain ⟨t, rfl⟩ := ru
    exact PySem.P.repr_of_str ⟨.str _, H, I.tok _, ⟨_, rfl⟩, q⟩ hz
  | lst h1 _ h2 =>
    cases ru
    exact repr_of_reads' rd hs hsm hg (by omega) (fun _ _ e => e) (fun h' u' tk k => ⟨.str _, H, I.kept k, ⟨_, rfl⟩, q⟩) hz
  | tup h1 _ h2 =>
    cases ru
    exact repr_of_reads' rd hs hsm hg (by omega) (fun _ _ e => e) (fun h' u' tk k => ⟨.str _, H, I.kept k, ⟨_, rfl⟩, q⟩) hz
  | d0 h1 _ =>
    cases ru
    exact repr_of_reads' rd hs hsm hg (by omega) (fun _ _ e => e) (fun h' u' tk k => ⟨.str _, H, I.kept k, ⟨_, rfl⟩, q⟩) hz
  | d1 h1 _ =>
    cases ru
    exact repr_of_reads' rd hs hsm hg (by omega) (fun _ _ e => e) (fun h' u' tk k => ⟨.str _, H, I.kept k, ⟨_, rfl⟩, q⟩) hz
end Bb
set_option Elab.async false
set_option linter.all false
set_option maxRecDepth 100000
set_option maxHeartbeats 2000000
namespace Bb
open PySem PySem.Spec PyProof.Rows L2
open Builtin
/-! {x!r} of any such thing -/
section
variable {X : Cx}
def tFmtA (te : TE) : TE := fun σ H Q => te σ H fun x H1 => ∃ (Z : Addr → Prop) (d : PyData), Da Z H1 x d ∧ (d.hasDict = true → noList d = true) ∧ d.showable = true ∧ d.depth ≤ 60 ∧ d.shown.length ≤ sizeLine ∧ Q (.str d.shown) H1
theorem pe_fmtA {e : Expr} {te : TE} {pos : Pos} (hg : X.A.guards = some []) (hu : X.A.units + 64 < cLine) (he : PE X e te) : PE X (.FormattedValue e 114 none pos) (tFmtA te) := by
  refine ⟨fun pins s σ H Q I h => ?_⟩
  refine wpAny_FormattedValue_repr (thn (he.run pins s σ H _ I h) fun v s1 hv => ?_)
  obtain ⟨x, H1, I1, r1, Z, d, hd, hn, hs, hde, hz, q⟩ := hv
  obtain ⟨as, rd, no⟩ := Da.reads I1 d x v hd r1
  have hsm : d.hasDict = true → sysModules ∉ as := fun z m => by
    have q := no (hn z) _ m
    simp at q
  have fin : ∀ {s2 : Shared} {u : Tok}, Inv X pins σ H1 s2 → Inv X pins σ H1 { s2 with toks := s2.toks + 1 } → wpAny (model X.prog X.w) X.A (formatField (.str d.shown u) Str.empty) (EP X pins σ Q) X.xe s2 := fun {s2 u} I2 I3 =>
    wpAny_formatField_str ⟨.str d.shown, H1, I2, ⟨_, rfl⟩, q⟩ ⟨.str d.shown, H1, I3, ⟨_, rfl⟩, q⟩ hz
  cases hd with
  | non =>
    cases r1
    exact pyReprObj_none (fin (I1.tok _) (I1.tok _))
  | bl b =>
    cases r1
    exact pyReprObj_bool (fin (I1.tok _) (I1.tok _))
  | int i =>
    obtain ⟨t, rfl⟩ := r1
    exact pyReprObj_int (of_decide_eq_true hs) (fin (I1.tok _) (I1.tok _))
  | str z =>
    obtain ⟨t, rfl⟩ := r1
    exact pyReprObj_str (fin (I1.tok _) (I1.tok _)) hz
  | lst h1 _ h2 =>
    cases r1
    exact pyReprObj_of_reads rd hs hsm hg (by omega) (fun _ _ e => e) (fun h' u tk k => fin (I1.kept k) ((I1.kept (t' := tk) k).tok _)) hz
  | tup h1 _ h2 =>
    cases r1
    exact pyReprObj_of_reads rd hs hsm hg (by omega) (fun _ _ e => e) (fun h' u tk k => fin (I1.kept k) ((I1.kept (t' := tk) k).tok _)) hz
  | d0 h1 _ =>
    cases r1
    exact pyReprObj_of_reads rd hs hsm hg (by omega) (fun _ _ e => e) (fun h' u tk k => fin (I1.kept k) ((I1.kept (t' := tk) k).tok _)) hz
  | d1 h1 _ =>
    cases r1
    exact pyReprObj_of_reads rd hs hsm hg (by omega) (fun _ _ e => e) (fun h' u tk k => fin (I1.kept k) ((I1.kept (t' := tk) k).tok _)) hz
/-! a context in which no repr is under way, one level within -/
theorem in1_guards {A : Around} (h : A.guards = some []) : A.in1.guards = some [] := h
/-! repr of an own instance, by its own __repr__ -/
theorem call_reprOwn {CX : CXT} {C f : Addr} {fd : FuncData} {ps : List Str} {sp : Sp} {k : Nat} {E : XK} (F : FnG X.prog X.w X.K X.mg X.base CX k f fd ps sp) (gd : X.A.guards = some []) (hr : Room (k + 1) X.A) (hs : PySem.W.findIn X.K (.ref C) "__repr__" = some (some (.ref f))) (hf : PySem.W.isFn X.K (.ref f) = true)
    (hb : Binds X.K fd ps []) (hx : Passes CX X E) :
    CallR X (.builtin "repr") (fun xs H Q => ∃ a dx fs, xs = [.ref a] ∧ H a = some (.ins C dx fs) ∧ sp [.ref a] H (fun v H' => ∃ z : Str, v = .str z ∧ Q (.str z) H') E) := by
  intro pins s σ H xs us Q I r h
  obtain ⟨a, dx, fs, rfl, ha, hsp⟩ := h
  obtain ⟨u, rfl, ru⟩ := vals1 r
  cases ru
  obtain ⟨mA, J, _⟩ := ins_get I.hok ha
  obtain ⟨od, J, _⟩ := J.look
  have un := hr.units
  refine Calls.call_function_entry PySem.F.kind_repr PySem.F.plain_repr PySem.F.entry_repr (PySem.F.args_repr1 _) ?_
  unfold Builtin.«repr»
  refine wpAny_bind (m := oneArg "repr" _) (wpAny_pure ?_)
  refine wpAny_bind (m := cRoomFor _ _) (wpAny_cRoomFor (by show X.A.units + 1 < cLine; omega) ?_)
  refine wpAny_bind (wpAny_bind (J.type.here ((PySem.W.looks_findIn I.kIn hs).here ?_)))
  refine wpAny_bind (m := callSpecialIfBound? (.ref a) (Str.ofString "__repr__")) (PySem.W.ifBound_K (args := []) I.kIn J hs hf ?_)
  have hl := F.args _ _ _ _ hsp
  have bnd := hb s [.ref a] I.kIn (by simpa using hl)
  rw [List.append_nil] at bnd
  refine wpAny_call (codeAny_mono (F.go X.A.in1 X.stack s H ⟨[.ref a], []⟩ [.ref a] [.ref a] _ E (in1_guards gd) hr.in1 I.env0.in1 bnd (.cons rfl .nil) hsp) ?_)
  rintro (er | fl) s' hq
  · exact hx pins σ H s er s' I hq
  · cases fl with
    | ret w' =>
      obtain ⟨z, H', I', rz, n, rfl, q⟩ := I.after hq
      obtain ⟨t, rfl⟩ := rz
      refine wpAny_bind (wpAny_isInstance (T := "str") (b := true) rfl isSubtype_str_str ?_)
      exact wpAny_pure ⟨_, rfl, .str n, H', I', ⟨_, rfl⟩, q⟩
    | next => exact hq.elim
    | brk => exact hq.elim
    | cont => exact hq.elim
end
end Bb
set_option Elab.async false
set_option linter.all false
set_option maxRecDepth 100000
set_option maxHeartbeats 2000000
namespace Bb
open PySem PySem.Spec PyProof.Rows L2
open Builtin
/-! ==, != of an own instance and any such thing -/
def tyNames : List String := ["NoneType", "bool", "int", "str", "list", "tuple", "dict"]
theorem da_looks {M : Model} {X : Cx} {pins : List (Addr × Obj)} {σ : L2.St} {H : Hp} {s : Shared} {Z : Addr → Prop} {x : V} {d : PyData} {u : Value} (I : Inv X pins σ H s) (h : Da Z H x d) (r : RelV x u) : ∃ n, PySem.W.Looks M s.heap (typeOf u) (.type n) ∧ n ∈ tyNames := by
  have ref : ∀ {a : Addr} {o : Obj} {n : String}, s.heap.get? a = some o → o.cls = .type n → PySem.W.Looks M s.heap (typeOf (.ref a)) (.type n) := fun {a o n} e c A Q E s' k q => wpAny_typeOf (v := .ref a) ⟨o, k _ _ e, c⟩ q
  cases h with
  | non =>
    cases r
    exact ⟨_, PySem.W.Looks.of_pure rfl, by decide⟩
  | bl b =>
    cases r
    exact ⟨_, PySem.W.Looks.of_pure rfl, by decide⟩
  | int i =>
    obtain ⟨t, rfl⟩ := r
    exact ⟨_, PySem.W.Looks.of_pure rfl, by decide⟩
  | str z =>
    obtain ⟨t, rfl⟩ := r
    exact ⟨_, PySem.W.Looks.of_pure rfl, by decide⟩
  | lst e _ _ =>
    cases r
    obtain ⟨its, rv, ⟨o, n, ho, hc, _, hd⟩, _⟩ := I.list (SqL.of e)
    exact ⟨_, ref ho hc, by decide⟩
  | tup e _ _ =>
    cases r
    obtain ⟨its, rv, ⟨o, ho, hc, n, hd⟩, _⟩ := I.tuple (SqT.of e)
    exact ⟨_, ref ho hc, by decide⟩
  | d0 e _ =>
    cases r
    obtain ⟨_, hs, vs, kv, o, es, ep, ho, ex, _⟩ := dk_of I.hok e
    exact ⟨_, ref ho ex.1, by decide⟩
  | d1 e _ =>
    cases r
    obtain ⟨_, hs, vs, kv, o, es, ep, ho, ex, _⟩ := dk_of I.hok e
    exact ⟨_, ref ho ex.1, by decide⟩
/-- a value of a built-in type: data, or a list of anything -/
def Bt (H : Hp) (v : V) : Prop := (∃ (Z : Addr → Prop) (d : PyData), Da Z H v d) ∨ ∃ (a : Addr) (xs : List V), v = .ref a ∧ H a = some (.lst xs)
theorem bt_looks {M : Model} {X : Cx} {pins : List (Addr × Obj)} {σ : L2.St} {H : Hp} {s : Shared} {x : V} {u : Value} (I : Inv X pins σ H s) (h : Bt H x) (r : RelV x u) : ∃ n, PySem.W.Looks M s.heap (typeOf u) (.type n) ∧ n ∈ tyNames := by
  rcases h with ⟨Z, d, h⟩ | ⟨a, xs, rfl, e⟩
  · exact da_looks I h r
  · cases r
    obtain ⟨its, rv, ⟨o, n, ho, hc, _, hd⟩, _⟩ := I.list (SqL.of e)
    exact ⟨_, fun A Q E s' k q => wpAny_typeOf (v := .ref a) ⟨o, k _ _ ho, hc⟩ q, by decide⟩
theorem not_sub {K : PySem.W.Frag} {C : Addr} {n : String} (h : n ∈ tyNames) : PySem.W.subIn K (.type n) (.ref C) = some false := by
  simp only [tyNames, List.mem_cons, List.not_mem_nil, or_false] at h
  rcases h with rfl | rfl | rfl | rfl | rfl | rfl | rfl <;> rfl
theorem not_first {K : PySem.W.Frag} {C : Addr} {n : String} (h : n ∈ tyNames) : PySem.W.notFirst K C (.type n) = true := by
  unfold PySem.W.notFirst
  rw [not_sub h]
  simp
section
variable {X : Cx} {CX : CXT} {C f : Addr} {fd : FuncData} {ps : List Str} {sp : Sp} {k : Nat} {E : XK}
theorem op_eqOwnX (F : FnOk X.prog X.w X.K X.mg X.base CX k f fd ps sp) (hr : Room k X.A) (he : PySem.W.findIn X.K (.ref C) "__eq__" = some (some (.ref f))) (hf : PySem.W.isFn X.K (.ref f) = true)
    (hb : Binds X.K fd ps []) (hx : Passes CX X E) :
    OpR X (compareOp .Eq) (fun x y H Q => ∃ (a dx : Addr) (fs : List (Str × V)), x = .ref a ∧ H a = some (.ins C dx fs) ∧ Bt H y ∧ sp [.ref a, y] H (fun v H' => ∃ t, v = .bl t ∧ Q (.bl t) H') E) := by
  intro pins s σ H x y v u Q I rx ry h
  obtain ⟨a, dx, fs, rfl, ha, hd, hsp⟩ := h
  cases rx
  obtain ⟨mA, J, _⟩ := ins_get I.hok ha
  obtain ⟨od, J, _⟩ := J.look
  obtain ⟨n, lk, hn⟩ := bt_looks (M := model X.prog X.w) I hd ry
  obtain ⟨m, hF⟩ := I.fr
  show wpAny (model X.prog X.w) X.A (richCompare .Eq (.ref a) u) _ _ _
  refine PySem.W.cmp_K (op := .Eq) (tb := .type n) hr.units0 hF I.ok.mod.kin J lk (not_first hn) he hf ?_
  have hl := F.len _ _ _ _ hsp
  have bnd := hb s [.ref a, u] I.kIn (by simpa using hl)
  rw [List.append_nil] at bnd
  refine wpAny_call (codeAny_mono (F.run X.A X.stack s H ⟨[.ref a, u], []⟩ [.ref a, u] [.ref a, y] _ E hr I.env0 bnd (.cons rfl (.cons ry .nil)) hsp) ?_)
  rintro (er | fl) s' hq
  · exact hx pins σ H s er s' I hq
  · cases fl with
    | ret w' =>
      obtain ⟨z, H', I', rz, t, rfl, q⟩ := I.after hq
      cases rz
      exact ⟨.bl t, H', I', rfl, q⟩
    | next => exact hq.elim
    | brk => exact hq.elim
    | cont => exact hq.elim
end
namespace Ne
open PySem.W PySem.Calls
section
variable {prog : Program} {w : World} {A : Around} {E : Value → Shared → Prop} {s : Shared} {K : Frag} {x C f : Addr} {ox : Obj} {od : Option Obj}
theorem obj_neX {v : Value} {tb : Value} {Q : Value → Shared → Prop} (X : K.In s.heap) (I : InstAt s.heap x ox C od) (J : Looks (model prog w) s.heap (typeOf v) tb) (htb : tb ≠ .ref C) (hn1 : subIn K tb (.ref C) = some false) (hu : A.units + 1 < cLine) (he : findIn K (.ref C) "__eq__" = some (some (.ref f))) (hf : isFn K (.ref f) = true)
    (hn : findIn K (.ref C) "__ne__" = some (some (.builtin "object.__ne__"))) (hsub : subIn K (.ref C) (.type "object") = some true)
    (h : wpAny (model prog w) A.in1 (call (.ref f) [.ref x, v]) (fun r s' => ∃ b, r = .bool b ∧ Q (.bool (!b)) s') E s) : wpAny (model prog w) A (compareOp .NotEq (.ref x) v) Q E s := by
  obtain ⟨hp, g, d, tk, os⟩ := s
  have isO : Looks (model prog w) hp (isInstance (.ref x) (.type "object")) true := I.type.andThen (looks_subIn X hsub)
  -- object.__ne__(x, y)
  have slot : wpAny (model prog w) A (call (.builtin "object.__ne__") [.ref x, v]) (fun r s' => ∃ b, r = .bool b ∧ Q (.bool b) s') E ⟨hp, g, d, tk, os⟩ := by
    refine wpAny_call (codeAny_call_builtin (by decide +kernel) F.cmpEntry_ne ?_)
    refine @check_slot (model prog w) _ _ ⟨hp, g, d, tk, os⟩ "object.__ne__" "object" "__ne__" (.ref x) [v] [] _ F.cmpKind_ne F.cmpSplit_ne isO (F.cmpArgs_ne _ _) ?_
    unfold Builtin.«object.__ne__»
    have eqc : ∀ {R : Option Value → Shared → Prop} {E' : Value → Shared → Prop}, wpAny (model prog w) A.in1 (call (.ref f) [.ref x, v]) (fun v => R (some v)) E' ⟨hp, g, d, tk, os⟩ →
        wpAny (model prog w) A.in1 (callSpecialIfBound? (.ref x) (Str.ofString "__eq__") [v]) R E' ⟨hp, g, d, tk, os⟩ := fun z => ifBound_K X I he hf z
    have rest : ∀ (r0 : Value) (s' : Shared), (∃ b, r0 = .bool b ∧ Q (.bool (!b)) s') → wpAny (model prog w) A.in1 (match some r0 with | some Value.notImplemented => ret .notImplemented | none => ret .notImplemented | some r => do ret (.bool (!(← truthy r))))
        (fun fin s' => match fin with
          | .done f => wants (fun v s' => ∃ b, v = Value.bool b ∧ Q (Value.bool b) s') E (.ok f) s'
          | .again c' => c'.quiet = true ∧ codeAny (model prog w) A c' (wants (fun v s' => ∃ b, v = Value.bool b ∧ Q (Value.bool b) s') E) s') (fun e s' => wants (fun v s' => ∃ b, v = Value.bool b ∧ Q (Value.bool b) s') E (.error e) s') s' := by
      rintro v s' ⟨b, rfl, hq⟩
      refine wpAny_bind (wpAny_truthy_bool (wpAny_pure ?_))
      exact ⟨!b, rfl, hq⟩
    repeat (first
      | with_reducible refine wpAny_cRoomFor hu ?_
      | exact wpAny_bind (m := callSpecialIfBound? (.ref x) (Str.ofString "__eq__") [v]) (eqc (wpAny_mono h (fun v s' hv => rest v s' hv) fun _ _ e => e))
      | wp_step)
  have bs : bindSpecial (.builtin "object.__ne__") (.ref x) = pure (.builtin "object.__ne__", [.ref x]) := by
    unfold bindSpecial
    rw [wrap_ty]
    rfl
  have two : wpAny (model prog w) A (callSpecialIfBound? (.ref x) (Str.ofString "__ne__") [v]) (fun r s' => ∃ b, r = some (Value.bool b) ∧ Q (Value.bool b) s') E ⟨hp, g, d, tk, os⟩ := by
    simp only [callSpecialIfBound?, bindSpecialIfBound?]
    refine wpAny_holding (wpAny_bind (wpAny_bind (wpAny_bind (I.type.here ((looks_findIn X hn).here ?_)))))
    refine wpAny_bind (wpAny_askSetting (wpAny_ite ?_))
    have fin : wpAny (model prog w) A (call (.builtin "object.__ne__") ([.ref x] ++ [v]) >>= fun v => pure (some v)) (fun r s' => ∃ b, r = some (Value.bool b) ∧ Q (Value.bool b) s') E ⟨hp, g, d, tk, os⟩ := by
      refine wpAny_bind (wpAny_mono slot ?_ fun _ _ e => e)
      rintro v s' ⟨b, rfl, hq⟩
      exact wpAny_pure ⟨b, rfl, hq⟩
    split
    · rw [bs]
      exact wpAny_bind (wpAny_pure (wpAny_pure (by exact fin)))
    · rw [bs]
      exact wpAny_tryCatch (wpAny_bind (wpAny_pure (wpAny_pure (by exact fin))))
  have one : wpAny (model prog w) A (tryCompare (.ref x) (Str.ofString "__ne__") v) (fun r s' => ∃ v, r = some v ∧ Q v s') E ⟨hp, g, d, tk, os⟩ := by
    unfold tryCompare
    refine wpAny_bind (wpAny_mono two ?_ fun _ _ e => e)
    rintro r s' ⟨b, rfl, hq⟩
    exact wpAny_pure ⟨_, rfl, hq⟩
  show wpAny (model prog w) A (richCompare .NotEq (.ref x) v) Q E _
  unfold richCompare
  simp only [oneThing_ref]
  refine wpAny_holding (wpAny_bind (wpAny_cRoomFor (Nat.lt_of_succ_lt hu) ?_))
  refine wpAny_bind (I.type.here (wpAny_bind (J.here ?_)))
  rw [show (Value.ref C != tb) = true from bne_iff_ne.mpr (Ne.symm htb)]
  simp only [if_true]
  refine wpAny_bind ((looks_subIn X hn1).here ?_)
  simp only [Bool.false_eq_true, if_false]
  refine wpAny_bind (wpAny_mono one ?_ fun _ _ e => e)
  rintro r s' ⟨v, rfl, hq⟩
  exact wpAny_pure hq
end
end Ne
section
variable {X : Cx} {CX : CXT} {C f : Addr} {fd : FuncData} {ps : List Str} {sp : Sp} {k : Nat} {E : XK}
theorem op_neOwnX (F : FnOk X.prog X.w X.K X.mg X.base CX k f fd ps sp) (hr : Room (k + 1) X.A) (he : PySem.W.findIn X.K (.ref C) "__eq__" = some (some (.ref f))) (hf : PySem.W.isFn X.K (.ref f) = true)
    (hn : PySem.W.findIn X.K (.ref C) "__ne__" = some (some (.builtin "object.__ne__"))) (hsub : PySem.W.subIn X.K (.ref C) (.type "object") = some true) (hb : Binds X.K fd ps []) (hx : Passes CX X E) :
    OpR X (compareOp .NotEq) (fun x y H Q => ∃ (a dx : Addr) (fs : List (Str × V)), x = .ref a ∧ H a = some (.ins C dx fs) ∧ Bt H y ∧ sp [.ref a, y] H (fun v H' => ∃ t, v = .bl t ∧ Q (.bl (!t)) H') E) := by
  intro pins s σ H x y v u Q I rx ry h
  obtain ⟨a, dx, fs, rfl, ha, hd, hsp⟩ := h
  cases rx
  obtain ⟨mA, J, _⟩ := ins_get I.hok ha
  obtain ⟨od, J, _⟩ := J.look
  obtain ⟨n, lk, hin⟩ := bt_looks (M := model X.prog X.w) I hd ry
  have un := hr.units
  refine Ne.obj_neX I.kIn J lk (fun z => by cases z) (not_sub hin) (by omega) he hf hn hsub ?_
  have hl := F.len _ _ _ _ hsp
  have bnd := hb s [.ref a, u] I.kIn (by simpa using hl)
  rw [List.append_nil] at bnd
  refine wpAny_call (codeAny_mono (F.run X.A.in1 X.stack s H ⟨[.ref a, u], []⟩ [.ref a, u] [.ref a, y] _ E hr.in1 I.env0.in1 bnd (.cons rfl (.cons ry .nil)) hsp) ?_)
  rintro (er | fl) s' hq
  · exact hx pins σ H s er s' I hq
  · cases fl with
    | ret w' =>
      obtain ⟨z, H', I', rz, t, rfl, q⟩ := I.after hq
      cases rz
      exact ⟨t, rfl, .bl (!t), H', I', rfl, q⟩
    | next => exact hq.elim
    | brk => exact hq.elim
    | cont => exact hq.elim
end
end Bb
set_option Elab.async false
set_option linter.all false
set_option maxRecDepth 100000
set_option maxHeartbeats 2000000
namespace Bb
namespace Co
open PySem PySem.SeqAt
open AutoSeq1 (wpAny_loadPart')
open MeetsSeq MeetsSeq2 MeetsSeq3 SeqRoads2
section
variable {prog : Program} {w : World} {A : Around} {R : Result → Shared → Prop}
/-- list.__contains__ where == may be a def's -/
theorem contains_loopG (l : Addr) (items : Array Value) (x : Value) (I : Nat → Shared → Prop) (hl : ∀ i s, I i s → ∃ n, s.heap.get? l = some { cls := .type "list", data := .seq items n })
    (turn : ∀ i (h : i < items.size) s, I i s → wpAny (model prog w) A.in1 (eqBool items[i] x) (fun r s' => (r = true → R (.ok (.ret (.bool true))) s') ∧ (r = false → I (i + 1) s')) (fun e s' => R (.error e) s') s)
    (fin : ∀ s, I items.size s → R (.ok (.ret (.bool false))) s) (k : Nat) :
    ∀ i : Nat, items.size - i = k → i ≤ items.size → ∀ s, I i s →
      wpAny (model prog w) A.in1 (Builtin.«list.__contains__.loop» ⟨[.ref l, x, rawInt i], []⟩) (GQ.FinOf prog w A R) (fun e s' => R (.error e) s') s := by
  induction k with
  | zero =>
    intro i hk hi s h
    obtain ⟨n, hl1⟩ := hl _ _ h
    have hi' : i = items.size := by omega
    have hR : R (.ok (.ret (.bool false))) s := fin s (hi' ▸ h)
    obtain ⟨hp, g, d, tk, os⟩ := s
    wp_walk using wpAny_loadPart' hl1
    have hi1 : items[((i : Nat) : Int).toNat]? = none := by simp; omega
    rw [hi1]
    wp_walk using wpAny_loadPart' hl1
    exact hR
  | succ k ih =>
    intro i hk hi s h
    obtain ⟨n, hl1⟩ := hl _ _ h
    have hlt : i < items.size := by omega
    have ht := turn i hlt s h
    obtain ⟨hp, g, d, tk, os⟩ := s
    wp_walk using wpAny_loadPart' hl1
    have hi1 : items[((i : Nat) : Int).toNat]? = some items[i] := by simp [hlt]
    have hc : ((i : Int) + 1) = ((i + 1 : Nat) : Int) := by omega
    rw [hi1]
    refine wpAny_bind (wpAny_mono ht (fun r s2 h2 => ?_) fun _ _ x => x)
    cases r with
    | true =>
      have h3 := h2.1 rfl
      obtain ⟨hp2, g2, d2, tk2, os2⟩ := s2
      wp_walk
      exact h3
    | false =>
      have hrec := ih (i + 1) (by omega) (by omega) s2 (h2.2 rfl)
      obtain ⟨hp2, g2, d2, tk2, os2⟩ := s2
      wp_walk
      rw [hc]
      exact ⟨plainId_quiet plain_contains_loop _, codeAny_builtin entry_contains_loop (by
        rw [Around.under_plainId plain_contains_loop _]
        exact hrec)⟩
theorem list_containsG (l : Addr) (items : Array Value) (x : Value) (I : Nat → Shared → Prop) (hl : ∀ i s, I i s → ∃ n, s.heap.get? l = some { cls := .type "list", data := .seq items n })
    (turn : ∀ i (h : i < items.size) s, I i s → wpAny (model prog w) A.in1 (eqBool items[i] x) (fun r s' => (r = true → R (.ok (.ret (.bool true))) s') ∧ (r = false → I (i + 1) s')) (fun e s' => R (.error e) s') s)
    (fin : ∀ s, I items.size s → R (.ok (.ret (.bool false))) s) {s : Shared} (h : I 0 s) :
    wpAny (model prog w) A.in1 (Builtin.«list.__contains__» ⟨[.ref l, x], []⟩) (GQ.FinOf prog w A R) (fun e s' => R (.error e) s') s := by
  obtain ⟨n, hl1⟩ := hl _ _ h
  have hrec := contains_loopG (A := A) (R := R) l items x I hl turn fin _ 0 rfl (Nat.zero_le _) s h
  obtain ⟨hp, g, d, tk, os⟩ := s
  wp_walk using wpAny_loadPart' hl1
  exact ⟨plainId_quiet plain_contains_loop _, codeAny_builtin entry_contains_loop (by
    rw [Around.under_plainId plain_contains_loop _]
    exact hrec)⟩
end
section
variable {prog : Program} {w : World} {A : Around} {E : Value → Shared → Prop} {s : Shared}
theorem in_listG {l : Addr} {items : Array Value} {x : Value} {Q : Value → Shared → Prop} (I : Nat → Shared → Prop) (hl : ∀ i s, I i s → ∃ n, s.heap.get? l = some { cls := .type "list", data := .seq items n })
    (turn : ∀ i (h : i < items.size) s, I i s → wpAny (model prog w) A.in1 (eqBool items[i] x) (fun r s' => (r = true → Q (.bool true) s') ∧ (r = false → I (i + 1) s')) E s)
    (fin : ∀ s, I items.size s → Q (.bool false) s) (h : I 0 s) : wpAny (model prog w) A (compareOp .In x (.ref l)) Q E s := by
  obtain ⟨n, hl1⟩ := hl _ _ h
  show wpAny _ A (do return .bool (← contains (.ref l) x)) Q E s
  refine wpAny_bind (wpAny_contains_slot ⟨_, hl1, rfl⟩ F.slot_list_contains (wpAny_mono (GQ.call_here (Q := fun v s' => ∃ b, v = .bool b ∧ Q (.bool b) s') F.slot_list_contains ⟨_, hl1, rfl⟩ F.entry_list_contains (F.args_list_contains_2 _ _) ?_) (fun v s' hv => ?_) fun _ _ e => e))
  · exact list_containsG (R := wants (fun v s' => ∃ b, v = .bool b ∧ Q (.bool b) s') E) l items x I hl (fun i h s hi => wpAny_mono (turn i h s hi) (fun r s' q => ⟨fun e => ⟨_, rfl, q.1 e⟩, q.2⟩) fun _ _ e => e) (fun s hs => ⟨_, rfl, fin s hs⟩) h
  · obtain ⟨b, rfl, hq⟩ := hv
    exact wpAny_truthy_bool (wpAny_pure hq)
end
end Co
open PySem PySem.Spec PyProof.Rows L2
open Builtin
namespace Ne
open PySem.W PySem.Calls
section
variable {prog : Program} {w : World} {A : Around} {E : Value → Shared → Prop} {s : Shared} {K : Frag} {x C f : Addr} {ox : Obj} {od : Option Obj}
/-- None == an own instance: its own == answers -/
theorem none_eq {Q : Value → Shared → Prop} (X : K.In s.heap) (I : InstAt s.heap x ox C od) (hu : A.units < cLine) (he : findIn K (.ref C) "__eq__" = some (some (.ref f))) (hf : isFn K (.ref f) = true) (hsub : subIn K (.ref C) (.type "NoneType") = some false)
    (h : wpAny (model prog w) A (call (.ref f) [.ref x, .none]) (fun r s' => ∃ b, r = .bool b ∧ Q (.bool b) s') E s) : wpAny (model prog w) A (richCompare .Eq .none (.ref x)) Q E s := by
  have hT : s.TypeIs .none "NoneType" := rfl
  unfold richCompare
  simp only [hT.oneThing_none]
  refine wpAny_holding (wpAny_bind (wpAny_cRoomFor hu ?_))
  refine wpAny_bind (wpAny_typeOf hT (wpAny_bind (I.type.here ?_)))
  rw [show (Value.type "NoneType" != Value.ref C) = true from rfl]
  simp only [if_true]
  refine wpAny_bind ((looks_subIn X hsub).here ?_)
  simp only [Bool.false_eq_true, if_false, Bool.not_false, if_true]
  refine wpAny_bind (m := tryCompare .none _ (.ref x)) (wpAny_tryCompare_declines hT PySem.F.slot_NoneType_eq (call_gives PySem.F.slot_NoneType_eq hT PySem.F.entry_NoneType_eq (PySem.F.args_NoneType_eq_2 _ _) (PySem.SeqAt.NoneType___eq___none_ref_0 x) ?_))
  refine ⟨rfl, ?_⟩
  have one : wpAny (model prog w) A (tryCompare (.ref x) (cmpInfo .Eq).2.2 .none) (fun r s' => ∃ v, r = some v ∧ Q v s') E s := by
    unfold tryCompare
    refine wpAny_bind (ifBound_K X I he hf (wpAny_mono h ?_ fun _ _ e => e))
    rintro v s' ⟨b, rfl, hq⟩
    exact wpAny_pure ⟨_, rfl, hq⟩
  refine wpAny_bind (wpAny_mono one ?_ fun _ _ e => e)
  rintro r s' ⟨v, rfl, hq⟩
  exact wpAny_pure hq
end
end Ne
section
variable {X : Cx} {CX : CXT} {C f : Addr} {fd : FuncData} {ps : List Str} {sp : Sp} {k : Nat} {E : XK}
/-- x in [None, y], x and y own instances -/
theorem op_inOwn (F : FnOk X.prog X.w X.K X.mg X.base CX k f fd ps sp) (hr : Room (k + 1) X.A) (he : PySem.W.findIn X.K (.ref C) "__eq__" = some (some (.ref f))) (hf : PySem.W.isFn X.K (.ref f) = true)
    (hno : PySem.W.subIn X.K (.ref C) (.type "NoneType") = some false) (hb : Binds X.K fd ps []) (hx : Passes CX X E) :
    OpR X (compareOp .In) (fun x y H Q => ∃ (a b l dx dy : Addr) (fs gs : List (Str × V)), x = .ref a ∧ y = .ref l ∧ H l = some (.lst [.non, .ref b]) ∧ a ≠ b ∧ H a = some (.ins C dx fs) ∧ H b = some (.ins C dy gs) ∧
      sp [.ref a, .non] H (fun v H' => v = .bl false ∧ H' = H) E ∧ sp [.ref b, .ref a] H (fun v H' => v = .bl true ∧ Q (.bl true) H') E) := by
  intro pins s σ H x y v u Q I rx ry h
  obtain ⟨a, b, l, dx, dy, fs, gs, rfl, rfl, hl, hab, ha, hbb, h1, h2⟩ := h
  cases rx
  cases ry
  have its : ∀ s' : Shared, Inv X pins σ H s' → ∃ n, s'.heap.get? l = some { cls := .type "list", data := .seq #[.none, .ref b] n } := by
    intro s' I'
    obtain ⟨_, it, n, r, _, e⟩ := I'.lstM hl
    cases r with
    | cons r1 r2 =>
      cases r2 with
      | cons r3 r4 =>
        cases r4
        cases r1
        cases r3
        exact ⟨n, e⟩
  have un := hr.units0
  have un2 := hr.units
  refine Co.in_listG (items := #[.none, .ref b]) (fun i s' => i < 2 ∧ Inv X pins σ H s') (fun i s' q => its s' q.2) ?_ (fun s' q => absurd q.1 (Nat.lt_irrefl 2)) ⟨by decide, I⟩
  intro i hi s' hs'
  have I' := hs'.2
  obtain ⟨mA, J, _⟩ := ins_get I'.hok ha
  obtain ⟨od, J, _⟩ := J.look
  obtain ⟨mB, J2, _⟩ := ins_get I'.hok hbb
  obtain ⟨od2, J2, _⟩ := J2.look
  have two : i = 0 ∨ i = 1 := by
    have := hs'.1
    omega
  rcases two with rfl | rfl
  · show wpAny (model X.prog X.w) X.A.in1 (eqBool .none (.ref a)) _ _ s'
    unfold eqBool
    refine wpAny_holding ?_
    refine wpAny_ite_split (fun q => by cases q) (fun _ => ?_)
    refine wpAny_bind (wpAny_mono (Ne.none_eq (Q := fun v s2 => v = .bool false ∧ Inv X pins σ H s2) I'.kIn J (by show X.A.units + 1 < cLine; omega) he hf hno ?_) ?_ fun _ _ e => e)
    · have hl1 := F.len _ _ _ _ h1
      have bnd := hb s' [.ref a, .none] I'.kIn (by simpa using hl1)
      rw [List.append_nil] at bnd
      refine wpAny_call (codeAny_mono (F.run X.A.in1 X.stack s' H ⟨[.ref a, .none], []⟩ [.ref a, .none] [.ref a, .non] _ E hr.in1 I'.env0.in1 bnd (.cons rfl (.cons rfl .nil)) h1) ?_)
      rintro (er | fl) s2 hq
      · exact hx pins σ H s' er s2 I' hq
      · cases fl with
        | ret w' =>
          obtain ⟨z, H2, I2, rz, rfl, rfl⟩ := I'.after hq
          cases rz
          exact ⟨false, rfl, rfl, I2⟩
        | next => exact hq.elim
        | brk => exact hq.elim
        | cont => exact hq.elim
    · rintro v s2 ⟨rfl, I2⟩
      exact wpAny_truthy_bool ⟨fun e => (by cases e), fun _ => ⟨by decide, I2⟩⟩
  · show wpAny (model X.prog X.w) X.A.in1 (eqBool (.ref b) (.ref a)) _ _ s'
    refine GQ.eqBool_refG (Ne.symm hab) ?_
    obtain ⟨m, hF⟩ := I'.fr
    refine PySem.W.cmp_K (op := .Eq) (tb := .ref C) (by show X.A.units + 1 < cLine; omega) hF I'.ok.mod.kin J2 J.type (by simp [PySem.W.notFirst]) he hf ?_
    have hl1 := F.len _ _ _ _ h2
    have bnd := hb s' [.ref b, .ref a] I'.kIn (by simpa using hl1)
    rw [List.append_nil] at bnd
    refine wpAny_call (codeAny_mono (F.run X.A.in1 X.stack s' H ⟨[.ref b, .ref a], []⟩ [.ref b, .ref a] [.ref b, .ref a] _ E hr.in1 I'.env0.in1 bnd (.cons rfl (.cons rfl .nil)) h2) ?_)
    rintro (er | fl) s2 hq
    · exact hx pins σ H s' er s2 I' hq
    · cases fl with
      | ret w' =>
        obtain ⟨z, H2, I2, rz, rfl, q⟩ := I'.after hq
        cases rz
        exact ⟨true, rfl, fun _ => ⟨.bl true, H2, I2, rfl, q⟩, fun e => by cases e⟩
      | next => exact hq.elim
      | brk => exact hq.elim
      | cont => exact hq.elim
end
end Bb
set_option Elab.async false
set_option linter.all false
set_option maxRecDepth 100000
set_option maxHeartbeats 2000000
namespace L2
open PySem PySem.Spec PyProof.Rows
open HT
section
variable {prog : Program} {w : World} {A : Around} {E : Value → Shared → Prop} {s : Shared}
theorem sliceApplied_rev {sl : Addr} {vl vu vs : Value} {n : Nat} {Q : Int × Int × Nat → Shared → Prop} (hs : s.heap.IsSliceOf sl vl vu vs) (pl : IsPart vl none) (pu : IsPart vu none) (ps : IsPart vs (some (-1)))
    (h : Q ((n : Int) - 1, -1, n) s) : wpAny (model prog w) A (Builtin.Slice.sliceApplied (.ref sl) (pure (n : Int))) Q E s := by
  obtain ⟨os, hos, hcs, hds⟩ := id hs
  unfold Builtin.Slice.sliceApplied Builtin.Slice.sliceFields
  refine wpAny_bind (wpAny_bind (wpAny_field hos hds (x := vl) rfl (wpAny_bind (wpAny_field hos hds (x := vu) rfl (wpAny_bind (wpAny_field hos hds (x := vs) rfl (wpAny_pure ?_)))))))
  refine wpAny_bind (slicePart_ ps ?_)
  show wpAny _ _ (if ((-1 : Int) == 0) = true then _ else _) _ _ s
  rw [if_neg (by decide)]
  refine wpAny_bind (slicePart_ pl (wpAny_bind (slicePart_ pu (wpAny_bind (wpAny_pure ?_)))))
  have e1 : Builtin.Slice.sliceAdjust none none (-1) (n : Int) = ((n : Int) - 1, -1) := by
    unfold Builtin.Slice.sliceAdjust
    simp
  show wpAny _ _ (match Builtin.Slice.sliceAdjust none none (-1) (n : Int) with | (lo, hi) => pure (lo, (-1 : Int), Builtin.Slice.slicePlaces lo hi (-1))) _ _ s
  rw [e1]
  have e2 : Builtin.Slice.slicePlaces ((n : Int) - 1) (-1) (-1) = n := by
    unfold Builtin.Slice.slicePlaces
    have h1 : ¬ ((-1 : Int) > 0) := by decide
    simp only [h1, if_false]
    split
    · rw [show (- -1 : Int) = 1 by decide, Int.ediv_one]
      omega
    · omega
  show wpAny _ _ (pure ((n : Int) - 1, (-1 : Int), Builtin.Slice.slicePlaces ((n : Int) - 1) (-1) (-1))) _ _ s
  rw [e2]
  exact wpAny_pure h
theorem pick_rev (xs : Array Value) : ((List.range xs.size).filterMap fun (m : Nat) => xs[((xs.size : Int) - 1 + (m : Int) * (-1)).toNat]?).toArray = xs.toList.reverse.toArray := by
  have e : (fun (m : Nat) => xs[((xs.size : Int) - 1 + (m : Int) * (-1)).toNat]?) = fun m => xs[xs.size - 1 - m]? := by
    funext m
    have : ((xs.size : Int) - 1 + (m : Int) * (-1)).toNat = xs.size - 1 - m := by omega
    rw [this]
  rw [e]
  have h2 : (List.range xs.size).filterMap (fun m => xs[xs.size - 1 - m]?) = ((List.range xs.size).map (fun k => xs.size - 1 - k)).filterMap (xs[·]?) := by
    rw [List.filterMap_map]
    rfl
  rw [h2, PySem.W.krv_range, List.filterMap_reverse, PySem.W.krv_all]
theorem getItem_tuple_rev {t sl : Addr} {items : Array Value} {vl vu vs : Value} {Q : Value → Shared → Prop} (ht : IsTup s.heap t items) (hs : s.heap.IsSliceOf sl vl vu vs) (pl : IsPart vl none) (pu : IsPart vu none) (ps : IsPart vs (some (-1)))
    (h : Q (.ref s.heap.objs.size) { s with heap := s.heap.push { cls := .type "tuple", data := .seq items.toList.reverse.toArray } })
    (hsz : items.size ≤ sizeLine) : wpAny (model prog w) A (getItem (.ref t) (.ref sl)) Q E s := by
  have htake : sizeOk (.seq items.toList.reverse.toArray) := by
    show items.toList.reverse.toArray.size ≤ sizeLine
    rw [List.size_toArray, List.length_reverse, Array.length_toList]
    exact hsz
  obtain ⟨os, hos, hcs, hds⟩ := id hs
  have hTs : s.TypeIs (.ref sl) "slice" := ⟨os, hos, hcs⟩
  unfold getItem
  try with_reducible refine wpAny_holding ?_
  first | refine wpAny_bind (wpAny_pure ?_) | skip
  refine wpAny_bind (wpAny_sequenceKey ht.typeIs (by decide) ?_)
  refine wpAny_bind (wpAny_callSpecial?_slot (name := Str.ofString "__getitem__") ht.typeIs PyProof.Rows.slot_tuple_getitem
    (wpAny_call_entry PyProof.Rows.slot_tuple_getitem ht.typeIs entry_tuple_getitem ?_ (args_tuple_getitem _ _)))
  show wpAny _ _ (Builtin.Tuple.tupleItemsOf (.ref t) >>= _) _ _ s
  refine wpAny_bind (tupleItemsOf_ ht ?_)
  refine wpAny_bind (wpAny_typeOf hTs ?_)
  rw [if_pos (by decide)]
  refine wpAny_bind (sliceApplied_rev hs pl pu ps ?_)
  have hno : ¬ (((items.size : Int) - 1 == 0 && (-1 : Int) == 1 && (items.size) == items.size) = true) := by
    intro q
    rw [Bool.and_eq_true, Bool.and_eq_true] at q
    have q1 := q.1.2
    exact absurd q1 (by decide)
  show wpAny _ _ (if ((items.size : Int) - 1 == 0 && (-1 : Int) == 1 && (items.size) == items.size) = true then _ else _) _ _ s
  rw [if_neg hno, pick_rev]
  first
    | exact wpAny_bind (m := Builtin.Tuple.tupleExact _) (wpAny_newObj_type (wpAny_pure ⟨_, rfl, wpAny_pure h⟩) htake)
    | exact wpAny_bind (m := Builtin.Tuple.tupleExact _) (wpAny_newObj_type (wpAny_bind (wpAny_pure (wpAny_pure ⟨_, rfl, wpAny_pure h⟩))) htake)
    | exact wpAny_bind (wpAny_bind (m := Builtin.Tuple.tupleExact _) (wpAny_newObj_type (wpAny_pure (wpAny_pure ⟨_, rfl, wpAny_pure h⟩)) htake))
    | exact wpAny_bind (wpAny_bind (m := Builtin.Tuple.tupleExact _) (wpAny_newObj_type (wpAny_pure ⟨_, rfl, wpAny_pure h⟩) htake))
end
end L2
namespace Bb
open PySem PySem.Spec PyProof.Rows L2
section
variable {X : Cx}
/-! t[::-1] of a tuple -/
def tRevT (te : TE) : TE := fun σ H Q => te σ H fun x H1 => ∃ a xs, x = .ref a ∧ H1 a = some (.tup xs) ∧ ∀ p, H1 p = none → Q (.ref p) (upd H1 p (.tup xs.reverse))
theorem pe_revT {e : Expr} {te : TE} {k : Nat} {p1 p2 p3 pos : Pos} (he : PE X e te) : PE X (.Subscript e (.Slice none none (some (.UnaryOp .USub (.Constant (.int 1) k p1) p2)) p3) pos) (tRevT te) := by
  refine ⟨fun pins s σ H Q I h => ?_⟩
  refine Subscript_ (thn (he.run pins s σ H _ I h) fun v s1 ⟨x, H1, I1, r1, q1⟩ => ?_)
  obtain ⟨a, xs, ex, hx, q⟩ := q1
  subst ex
  cases r1
  have hst : PO X (some (.UnaryOp .USub (.Constant (.int 1) k p1) p2)) (tPart (tUn (rU fun i => .int (-i)) (tC (.int 1)))) := po_some (pe_un un_neg pe_int)
  refine wpAny_Slice (thn (po_none.run pins s1 σ H1 (fun o H2 => o = none ∧ H2 = H1) I1 ⟨rfl, rfl⟩) fun vl s2 ⟨l, H2, I2, pl, el, e2⟩ => ?_)
  subst el e2
  refine thn (po_none.run pins s2 σ H2 (fun o H3 => o = none ∧ H3 = H2) I2 ⟨rfl, rfl⟩) fun vu s3 ⟨u, H3, I3, pu, eu, e3⟩ => ?_
  subst eu e3
  refine thn (hst.run pins s3 σ H3 (fun o H4 => o = some (-1) ∧ H4 = H3) I3 ⟨1, rfl, -1, rfl, rfl, rfl⟩) fun vs s4 ⟨o, H4, I4, ps, eo, e4⟩ => ?_
  subst eo e4
  have I5 : Inv X pins σ H4 { s4 with heap := s4.heap.push { cls := .type "slice", data := .fields #[vl, vu, vs] } } := I4.kept (t' := s4.toks) fun b ob q => Heap.get?_push_of_some _ q
  obtain ⟨its, r, ht, hz⟩ := I5.tuple (SqT.of hx)
  have hlen := r.length
  show wpAny (model X.prog X.w) X.A (subscriptTail e (.Slice none none (some (.UnaryOp .USub (.Constant (.int 1) k p1) p2)) p3) (.ref a) (.ref s4.heap.objs.size)) (EP X pins σ Q) X.xe { s4 with heap := s4.heap.push { cls := .type "slice", data := .fields #[vl, vu, vs] } }
  refine tail_any (ops := [.ref a, .ref s4.heap.objs.size]) ht.typeIs (PyProof.Rows.slot_tuple_getitem.lookup) ?_ (by with_unfolding_all rfl)
  refine getItem_tuple_rev ht (Heap.IsSliceOf.new _ vl vu vs) pl pu ps ?_ (by rw [List.size_toArray]; omega)
  refine ⟨.ref _, _, I5.laid (t' := s4.toks) (o := .tup xs.reverse) (fun b ob q => Heap.get?_push_of_some _ q) (Nat.le_refl _) ?_, rfl, q _ (I5.hok.fresh (Nat.le_refl _))⟩
  exact ⟨by rw [List.length_reverse]; exact hz, its.reverse, r.reverse, ⟨_, Heap.get?_push_size _ rfl, rfl, 0, by rfl⟩⟩
/-! set(t) of a tuple of ints -/
theorem call_setT (hc : X.calm = true) : CallR X (.type "set") (fun xs H Q => ∃ (l : Addr) (ns : List Int), xs = [.ref l] ∧ SqT X.K H l (ns.map V.int) ∧ ns.length ≤ 60 ∧ ∀ p n, H p = none → n ≤ ns.length → Q (.ref p) (upd H p (SetO X.w p (fun k => decide (k ∈ ns)) n))) := by
  intro pins s σ H xs us Q I r h
  obtain ⟨l, ns, rfl, hq, hn, q⟩ := h
  obtain ⟨u, rfl, ru⟩ := vals1 r
  cases ru
  obtain ⟨its, rv, pt, hz⟩ := I.tuple hq
  have hi : IntsAre its.toArray.toList ns := ints_of_vals rv
  refine call_set_tupI ns (I.ok.hd hc) (show s.heap.IsTuple l its.toArray from pt) hi (by unfold scanBound; omega) fun h' tk c R1 hcn k => ?_
  exact ⟨.ref s.heap.objs.size, _, I.laid (t' := tk) k (Nat.le_refl _) (setO_new R1), rfl, q _ c (I.hok.fresh (Nat.le_refl _)) hcn⟩
end
end Bb
set_option Elab.async false
set_option linter.all false
set_option maxRecDepth 100000
set_option maxHeartbeats 2000000
namespace Bb
open PySem PySem.Spec PyProof.Rows L2
/-! kinds of data -/
def dInt : PyData → Bool
  | .int _ => true
  | .bool _ => true
  | _ => false
def dBool : PyData → Bool
  | .bool _ => true
  | _ => false
def dTup : PyData → Bool
  | .tuple _ => true
  | _ => false
def dStr : PyData → Bool
  | .str _ => true
  | _ => false
def dList : PyData → Bool
  | .list _ => true
  | _ => false
theorem kitE {a b : String} {r r' : Bool} (h : kitB a b = some r) (e : r = r') : kitB a b = some r' := by
  rw [← e]
  exact h
structure TyD (K : PySem.W.Frag) (H : Hp) (x : V) (d : PyData) (n : String) : Prop where
  ty : TyX K H x (.type n)
  i : kitB n "int" = some (dInt d)
  b : kitB n "bool" = some (dBool d)
  t : kitB n "tuple" = some (dTup d)
  s : kitB n "str" = some (dStr d)
  l : kitB n "list" = some (dList d)
theorem Da.ty {K : PySem.W.Frag} {Z : Addr → Prop} {H : Hp} {x : V} {d : PyData} (h : Da Z H x d) : ∃ n, TyD K H x d n := by
  cases h with
  | non => exact ⟨_, .base .non, kitE (r := false) (by decide +kernel) rfl, kitE (r := false) (by decide +kernel) rfl, kitE (r := false) (by decide +kernel) rfl, kitE (r := false) (by decide +kernel) rfl, kitE (r := false) (by decide +kernel) rfl⟩
  | bl b => exact ⟨_, .base (.bl b), kitE (r := true) (by decide +kernel) rfl, kitE (r := true) (by decide +kernel) rfl, kitE (r := false) (by decide +kernel) rfl, kitE (r := false) (by decide +kernel) rfl, kitE (r := false) (by decide +kernel) rfl⟩
  | int i => exact ⟨_, .base (.int i), kitE (r := true) (by decide +kernel) rfl, kitE (r := false) (by decide +kernel) rfl, kitE (r := false) (by decide +kernel) rfl, kitE (r := false) (by decide +kernel) rfl, kitE (r := false) (by decide +kernel) rfl⟩
  | str z => exact ⟨_, .base (.str z), kitE (r := false) (by decide +kernel) rfl, kitE (r := false) (by decide +kernel) rfl, kitE (r := false) (by decide +kernel) rfl, kitE (r := true) (by decide +kernel) rfl, kitE (r := false) (by decide +kernel) rfl⟩
  | lst h _ _ => exact ⟨_, .base (.lst h), kitE (r := false) (by decide +kernel) rfl, kitE (r := false) (by decide +kernel) rfl, kitE (r := false) (by decide +kernel) rfl, kitE (r := false) (by decide +kernel) rfl, kitE (r := true) (by decide +kernel) rfl⟩
  | tup h _ _ => exact ⟨_, .base (.tup h), kitE (r := false) (by decide +kernel) rfl, kitE (r := false) (by decide +kernel) rfl, kitE (r := true) (by decide +kernel) rfl, kitE (r := false) (by decide +kernel) rfl, kitE (r := false) (by decide +kernel) rfl⟩
  | d0 h _ => exact ⟨_, .base (.dK h), kitE (r := false) (by decide +kernel) rfl, kitE (r := false) (by decide +kernel) rfl, kitE (r := false) (by decide +kernel) rfl, kitE (r := false) (by decide +kernel) rfl, kitE (r := false) (by decide +kernel) rfl⟩
  | d1 h _ => exact ⟨_, .base (.dK h), kitE (r := false) (by decide +kernel) rfl, kitE (r := false) (by decide +kernel) rfl, kitE (r := false) (by decide +kernel) rfl, kitE (r := false) (by decide +kernel) rfl, kitE (r := false) (by decide +kernel) rfl⟩
/-! slices and sums of tuples: where they are new, where not -/
theorem same_up {H : Hp} {p : Addr} {o : HO} (h : H p = none) : Same H (upd H p o) := fun b u e => by
  rw [upd_ne (ne_of_none e h)]
  exact e
section
variable {X : Cx}
def rSlC : V → Option Int → Option Int → Hp → VK → Prop := fun x lo hi H Q => ∃ a xs, x = .ref a ∧ H a = some (.tup xs) ∧ ∀ p H', Same H H' → H' p = some (.tup (cutV xs lo hi)) → (p = a ∨ H p = none) → Q (.ref p) H'
theorem cut_whole {xs : List V} {lo hi : Option Int} (h : HT.sIx xs.length 0 lo = 0 ∧ HT.sIx xs.length xs.length hi = xs.length) : cutV xs lo hi = xs := by
  unfold cutV
  rw [h.1, h.2]
  simp
theorem sl_tupC : SlR X rSlC := by
  intro pins s σ H x v vl vu lo hi sl Q I rx hs pl pu h
  obtain ⟨a, xs, rfl, hx, q⟩ := h
  refine sl_tupA pins s σ H _ v vl vu lo hi sl Q I rx hs pl pu ⟨a, xs, rfl, SqT.of hx, fun wh => ?_, fun _ p hp => ?_⟩
  · exact q a H (Same.refl H) (by rw [cut_whole wh]; exact hx) (.inl rfl)
  · exact q p _ (same_up hp) upd_same (.inr hp)
def rCatC : R2 := fun x y H Q => ∃ a b xs ys, x = .ref a ∧ y = .ref b ∧ H a = some (.tup xs) ∧ H b = some (.tup ys) ∧ xs.length + ys.length ≤ sizeLine ∧ ∀ p H', Same H H' → H' p = some (.tup (xs ++ ys)) → (p = a ∨ p = b ∨ H p = none) → Q (.ref p) H'
theorem op_catC : OpR X (binaryOp .Add) rCatC := by
  intro pins s σ H x y v u Q I rx ry h
  obtain ⟨a, b, xs, ys, rfl, rfl, ha, hb, hz, q⟩ := h
  refine op_catA pins s σ H _ _ v u Q I rx ry ⟨a, b, xs, ys, rfl, rfl, SqT.of ha, SqT.of hb, hz, ?_, ?_, ?_⟩
  · rintro rfl
    exact q b H (Same.refl H) hb (.inr (.inl rfl))
  · rintro _ rfl
    exact q a H (Same.refl H) (by rw [List.append_nil]; exact ha) (.inl rfl)
  · intro _ _ p hp
    exact q p _ (same_up hp) upd_same (.inr (.inr hp))
end
theorem cut_from (xs : List V) (k : Nat) : cutV xs (some (k : Int)) none = xs.drop k := by
  unfold cutV
  rw [HT.sIx_nat, HT.sIx_none]
  by_cases h : k ≤ xs.length
  · rw [Nat.min_eq_left h, List.take_of_length_le (by simp)]
  · rw [Nat.min_eq_right (by omega), List.drop_of_length_le (Nat.le_refl _), List.drop_of_length_le (by omega)]
    simp
theorem cut_to (xs : List V) (k : Nat) : cutV xs none (some (k : Int)) = xs.take k := by
  unfold cutV
  rw [HT.sIx_nat, HT.sIx_none]
  by_cases h : k ≤ xs.length
  · rw [Nat.min_eq_left h]
    simp
  · rw [Nat.min_eq_right (by omega), List.take_of_length_le (show xs.length ≤ k by omega)]
    simp
/-- what the laws' things are: small enough to be shown -/
structure Sm (d : PyData) : Prop where
  sh : d.showable = true
  dp : d.depth ≤ 4
  ln : d.shown.length ≤ 200
  nl : d.hasDict = true → noList d = true
  ly : ∀ ds, d = .tuple ds → PyData.canLayAll0 ds = true
theorem Sm.int {i : Int} (h : i.natAbs < 10 ^ 40) : Sm (.int i) := by
  refine ⟨?_, Nat.zero_le _, ?_, fun z => (by cases z), fun ds z => (by cases z)⟩
  · show decide (i.natAbs.log2 < 1920) = true
    apply decide_eq_true
    by_cases z : i.natAbs = 0
    · rw [z]
      decide
    · exact (Nat.log2_lt z).mpr (Nat.lt_of_lt_of_le h (by decide +kernel))
  · have e := int_text_length_le10 (k := 40) (by decide) h
    show (Str.ofString (toString i)).length ≤ 200
    rw [PySem.ofString_length]
    omega
theorem Sm.bl (b : Bool) : Sm (.bool b) := by
  refine ⟨rfl, Nat.zero_le _, ?_, fun z => (by cases z), fun ds z => (by cases z)⟩
  cases b <;> decide +kernel
theorem Sm.non : Sm .none := ⟨rfl, Nat.zero_le _, by decide +kernel, fun z => (by cases z), fun ds z => (by cases z)⟩
theorem tupleText_le (ts : List Str) : (tupleText ts).length ≤ piled ts + 3 := by
  unfold tupleText
  rw [strLen_append, strLen_append]
  have e1 : (("(" : String) : Str).length = 1 := by decide +kernel
  have e2 : (((if ts.length == 1 then ",)" else ")" : String) : Str)).length ≤ 2 := by
    split <;> decide +kernel
  rw [e1]
  by_cases h : ts = []
  · subst h
    have e3 : (Str.join ", " []).length = 0 := by decide +kernel
    omega
  · have := join_length_add ts h
    omega
theorem Sm.ints {ns : List Int} (hr : ∀ n ∈ ns, n.natAbs < 10 ^ 18) (hl : ns.length ≤ 8) : Sm (.tuple (ns.map PyData.int)) := by
  have nd : ∀ ns : List Int, PyData.hasDictAll (ns.map PyData.int) = false := by
    intro ns
    induction ns with
    | nil => rfl
    | cons n ns ih =>
      show (PyData.hasDict (.int n) || PyData.hasDictAll (ns.map PyData.int)) = false
      rw [ih]
      rfl
  refine ⟨show_ints ns hr, ?_, ?_, fun z => ?_, fun ds z => ?_⟩
  · show PyData.depthAll (ns.map PyData.int) + 1 ≤ 4
    rw [depth_ints]
    decide
  · have h1 := tupleText_le (PyData.shownAll (ns.map PyData.int))
    have h2 := piled_ints ns hr
    show (tupleText (PyData.shownAll (ns.map PyData.int))).length ≤ 200
    omega
  · have z2 : PyData.hasDictAll (ns.map PyData.int) = true := z
    rw [nd] at z2
    cases z2
  · injection z with z
    rw [← z]
    exact lay_ints ns
end Bb
set_option Elab.async false
set_option linter.all false
set_option maxRecDepth 100000
set_option maxHeartbeats 2000000
namespace Bb
open PySem PySem.Spec PyProof.Rows L2
/-! min, max of a tuple of ints -/
section
variable {prog : Program} {w : World} {A : Around} {E : Value → Shared → Prop} {s : Shared} {l : Addr} {its : List Value} {ns : List Int} {Q : Value → Shared → Prop} {xs : Array (Int × Tok)}
theorem iter_intTup {Q : Value → Shared → Prop} (hl : s.heap.IsTuple l (intItems xs))
    (h : ∀ s₂ : Shared, s₂ = { s with heap := s.heap.push { cls := .type "tuple_iterator", data := .fields #[.ref l, .int 0 0] } } →
      (s₂.heap.IsTupleIter s.heap.objs.size l 0 ∧ s₂.heap.IsTuple l (intItems xs)) → (∀ b ∈ [s.heap.objs.size, l], b < s₂.heap.objs.size) → l ≠ s.heap.objs.size → Q (.ref s.heap.objs.size) s₂) :
    wpAny (model prog w) A (pyIter (.ref l)) Q E s := by
  have hlt : l < s.heap.objs.size := by
    obtain ⟨_, e, _⟩ := hl
    exact Heap.lt_size e
  refine wpAny_pyIter_tuple hl (h _ rfl ⟨⟨_, Heap.get?_push_size _ rfl, rfl, rfl⟩, hl.push _⟩ (fun b hb => ?_) (Nat.ne_of_lt hlt))
  show b < (s.heap.push _).objs.size
  rw [Heap.size_push]
  rcases List.mem_cons.mp hb with rfl | hb
  · exact Nat.lt_succ_self _
  · rcases List.mem_cons.mp hb with rfl | hb
    · exact Nat.lt_succ_of_lt hlt
    · cases hb
theorem old_keptT {h' : Heap} (hk : ∀ b o, b ∉ [s.heap.objs.size] → (s.heap.push { cls := .type "tuple_iterator", data := .fields #[.ref l, .int 0 0] }).get? b = some o → h'.get? b = some o) :
    ∀ b o, s.heap.get? b = some o → h'.get? b = some o := fun b o e => by
  refine hk b o (fun hm => ?_) (Heap.get?_push_of_some _ e)
  have := Heap.lt_size e
  have z : b = s.heap.objs.size := by simpa using hm
  exact absurd z (Nat.ne_of_lt this)
theorem min_intTup (hh : A.handled = none) (hl : s.heap.IsTuple l (intItems xs)) (hne : 0 < xs.size)
    (h : ∀ v h' tk, (intItems xs)[argBest (fun i j => decide (numAt xs i < numAt xs j)) (xs.size - 1)]? = some v → (∀ b o, s.heap.get? b = some o → h'.get? b = some o) → Q v { s with heap := h', toks := tk }) :
    wpAny (model prog w) A (call (.builtin "min") [.ref l]) Q E s := by
  refine call_min_walk (iter_intTup hl fun s₂ e st hfp hlI => ?_)
  subst e
  refine ⟨_, _, _, _, _, _, _, rfl, Walks.tuple (A := A.in1) hh _ l hlI (intItems xs), st, hfp, by simpa [intItems] using hne, CmpOf.ints_lt (numAt xs) (fun _ _ => intItems_at), fun v h' tk hP hk => ?_⟩
  exact h v h' tk (by simpa [intItems] using hP) (old_keptT hk)
theorem max_intTup (hh : A.handled = none) (hl : s.heap.IsTuple l (intItems xs)) (hne : 0 < xs.size)
    (h : ∀ v h' tk, (intItems xs)[argBest (fun i j => decide (numAt xs i > numAt xs j)) (xs.size - 1)]? = some v → (∀ b o, s.heap.get? b = some o → h'.get? b = some o) → Q v { s with heap := h', toks := tk }) :
    wpAny (model prog w) A (call (.builtin "max") [.ref l]) Q E s := by
  refine call_max_walk (iter_intTup hl fun s₂ e st hfp hlI => ?_)
  subst e
  refine ⟨_, _, _, _, _, _, _, rfl, Walks.tuple (A := A.in1) hh _ l hlI (intItems xs), st, hfp, by simpa [intItems] using hne, CmpOf.ints_gt (numAt xs) (fun _ _ => intItems_at), fun v h' tk hP hk => ?_⟩
  exact h v h' tk (by simpa [intItems] using hP) (old_keptT hk)
theorem min_rawT (hh : A.handled = none) (hl : s.heap.IsTuple l its.toArray) (hi : IntsAre its ns) (hne : 0 < ns.length)
    (h : ∀ h' tk M t', (∀ b o, s.heap.get? b = some o → h'.get? b = some o) → M ∈ ns → (∀ a, a ∈ ns → M ≤ a) → Q (.int M t') { s with heap := h', toks := tk }) : wpAny (model prog w) A (call (.builtin "min") [.ref l]) Q E s := by
  obtain ⟨xs, e⟩ := hi.allInts.items
  have hn : numsOf (intItems xs).toList = ns := by rw [← e]; exact hi.numsOf
  rw [nums_intItems] at hn
  subst hn
  rw [e] at hl
  have hsz : 0 < xs.size := by simpa using hne
  refine min_intTup hh hl hsz fun v h' tk hv hk => ?_
  obtain ⟨t, rfl⟩ := intItems_at hv
  obtain ⟨h1, h2⟩ := argBest_lt (numAt xs) (xs.size - 1)
  refine h h' tk _ t hk ?_ fun a ha => ?_
  · rw [numAt_eq]; exact PySem.getD_mem (by rw [List.length_map, Array.length_toList]; omega)
  · obtain ⟨j, hj, rfl⟩ := mem_getD ha
    rw [List.length_map, Array.length_toList] at hj
    rw [← numAt_eq]; exact h2 j (by omega)
theorem max_rawT (hh : A.handled = none) (hl : s.heap.IsTuple l its.toArray) (hi : IntsAre its ns) (hne : 0 < ns.length)
    (h : ∀ h' tk M t', (∀ b o, s.heap.get? b = some o → h'.get? b = some o) → M ∈ ns → (∀ a, a ∈ ns → a ≤ M) → Q (.int M t') { s with heap := h', toks := tk }) : wpAny (model prog w) A (call (.builtin "max") [.ref l]) Q E s := by
  obtain ⟨xs, e⟩ := hi.allInts.items
  have hn : numsOf (intItems xs).toList = ns := by rw [← e]; exact hi.numsOf
  rw [nums_intItems] at hn
  subst hn
  rw [e] at hl
  have hsz : 0 < xs.size := by simpa using hne
  refine max_intTup hh hl hsz fun v h' tk hv hk => ?_
  obtain ⟨t, rfl⟩ := intItems_at hv
  obtain ⟨h1, h2⟩ := argBest_gt (numAt xs) (xs.size - 1)
  refine h h' tk _ t hk ?_ fun a ha => ?_
  · rw [numAt_eq]; exact PySem.getD_mem (by rw [List.length_map, Array.length_toList]; omega)
  · obtain ⟨j, hj, rfl⟩ := mem_getD ha
    rw [List.length_map, Array.length_toList] at hj
    rw [← numAt_eq]; exact h2 j (by omega)
end
section
variable {X : Cx}
/-- min(xs), max(xs), xs a list or a tuple of ints -/
def rMinS (K : PySem.W.Frag) : List V → Hp → VK → Prop := fun vs H Q => ∃ (a : Addr) (ns : List Int), vs = [V.ref a] ∧ (SqL K H a (ns.map V.int) ∨ SqT K H a (ns.map V.int)) ∧ 0 < ns.length ∧ ∀ m, m ∈ ns → (∀ y, y ∈ ns → m ≤ y) → Q (.int m) H
def rMaxS (K : PySem.W.Frag) : List V → Hp → VK → Prop := fun vs H Q => ∃ (a : Addr) (ns : List Int), vs = [V.ref a] ∧ (SqL K H a (ns.map V.int) ∨ SqT K H a (ns.map V.int)) ∧ 0 < ns.length ∧ ∀ m, m ∈ ns → (∀ y, y ∈ ns → y ≤ m) → Q (.int m) H
theorem cr_minS (hc : X.calm = true) : CallR X (.builtin "min") (rMinS X.K) := by
  intro pins s σ H vs us Q I r h
  obtain ⟨a, ns, rfl, hs, hne, q⟩ := h
  rcases hs with hs | hs
  · exact cr_min hc pins s σ H _ us Q I r ⟨a, ns, rfl, hs, hne, q⟩
  · obtain ⟨its, rv, hl, _⟩ := I.tuple hs
    rw [Vals.ref1 r]
    exact min_rawT (I.ok.hd hc) (show s.heap.IsTuple a its.toArray from hl) rv.ints hne fun h' tk m t' hk h1 h2 => ⟨.int _, H, I.kept hk, ⟨_, rfl⟩, q m h1 h2⟩
theorem cr_maxS (hc : X.calm = true) : CallR X (.builtin "max") (rMaxS X.K) := by
  intro pins s σ H vs us Q I r h
  obtain ⟨a, ns, rfl, hs, hne, q⟩ := h
  rcases hs with hs | hs
  · exact cr_max hc pins s σ H _ us Q I r ⟨a, ns, rfl, hs, hne, q⟩
  · obtain ⟨its, rv, hl, _⟩ := I.tuple hs
    rw [Vals.ref1 r]
    exact max_rawT (I.ok.hd hc) (show s.heap.IsTuple a its.toArray from hl) rv.ints hne fun h' tk m t' hk h1 h2 => ⟨.int _, H, I.kept hk, ⟨_, rfl⟩, q m h1 h2⟩
end
end Bb
set_option Elab.async false
set_option linter.all false
set_option maxRecDepth 100000
set_option maxHeartbeats 2000000
namespace Bb
open PySem PySem.Spec PyProof.Rows L2
/-! a reading that is first made weaker -/
theorem psBy {X : Cx} {stm : Stmt} {t t' : TS} (h : PS X stm t) (w : ∀ D σ H, t' D σ H → t D σ H) : PS X stm t' := ⟨fun pins s σ H D I q => h.run pins s σ H D I (w D σ H q)⟩
theorem peBy {X : Cx} {e : Expr} {t t' : TE} (h : PE X e t) (w : ∀ σ H Q, t' σ H Q → t σ H Q) : PE X e t' := ⟨fun pins s σ H Q I q => h.run pins s σ H Q I (w σ H Q q)⟩
/-- what is run anywhere is run where no repr is under way -/
theorem fnG_of {P : Program} {w : World} {K : PySem.W.Frag} {mg : Str → Option Value} {base : Heap} {CX : CXT} {k : Nat} {f : Addr} {fd : FuncData} {ps : List Str} {sp : Sp} (F : FnOk P w K mg base CX k f fd ps sp) : FnG P w K mg base CX k f fd ps sp :=
  ⟨F.len, fun A outer s H ar us vs Q E _ room env b v q => F.run A outer s H ar us vs Q E room env b v q⟩
/-! sorted of a tuple of ints -/
section
variable {P0 : Program} {w0 : World} {A0 : Around} {E0 : Value → Shared → Prop} {st : Shared}
theorem collect_tup {t : Addr} {us : List Value} {Q0 : List Value → Shared → Prop} (ht : st.heap.IsTuple t us.toArray) (hz : us.length ≤ sizeLine)
    (q : Q0 us { st with heap := (st.heap.push (seqObj "list" #[] 0)).update st.heap.objs.size (Obj.mapSeq (· ++ us.toArray)) }) : wpAny (model P0 w0) A0 (collect (.ref t)) Q0 E0 st := by
  obtain ⟨ob, e1, e2, k, e3⟩ := id ht
  unfold collect
  refine wpAny_bind (wpAny_runValue (codeAny_builtin entry_proto_collect' ?_))
  show wpAny (model P0 w0) _ (newList [] >>= fun l => again (.builtin "list.__iadd__" ⟨[l, .ref t], []⟩)) _ _ st
  refine wpAny_bind (wpAny_newList (wpAny_pure ⟨plainId_quiet PySem.F.plain_list_iadd _, codeAny_builtin entry_list_iadd' ?_⟩))
  have g0 : (st.heap.push (seqObj "list" #[] 0)).get? st.heap.objs.size = some (seqObj "list" #[] 0) := Heap.get?_push_size _ rfl
  have g1 : (st.heap.push (seqObj "list" #[] 0)).get? t = some ob := Heap.get?_push_of_some _ e1
  show wpAny (model P0 w0) _ (Builtin.List.listExtendWith (.ref st.heap.objs.size) (.ref t) (.ref st.heap.objs.size)) _ _ { st with heap := st.heap.push (seqObj "list" #[] 0) }
  unfold Builtin.List.listExtendWith
  refine wpAny_bind (wpAny_typeOf (T := "tuple") ⟨ob, g1, e2⟩ ?_)
  have yes : (Builtin.List.listSameRef (.ref st.heap.objs.size) (.ref t) || Value.type "tuple" == Value.type "list" || Value.type "tuple" == Value.type "tuple") = true := by
    have z : (Value.type "tuple" == Value.type "tuple") = true := by rfl
    rw [z, Bool.or_true]
  rw [if_pos yes]
  refine wpAny_bind (listItems_at g1 e3 ?_)
  refine wpAny_bind (listItems_at g0 rfl ?_)
  rw [if_neg (by simp)]
  refine wpAny_bind (listUpdate_at g0 rfl ?_ (Nat.zero_le _) (by
    show (#[] ++ us.toArray).size ≤ sizeLine + 1
    have z : (#[] ++ us.toArray).size = us.length := by simp
    rw [z]
    omega))
  refine wpAny_pure ?_
  have g2 := get?_update_seq (h := st.heap.push (seqObj "list" #[] 0)) g0 (fun xs => xs ++ us.toArray)
  show wpAny (model P0 w0) A0 (load st.heap.objs.size >>= fun o => match o.data with | .seq xs _ => pure xs.toList | _ => unsupported "internal:collect") Q0 E0 { st with heap := (st.heap.push (seqObj "list" #[] 0)).update st.heap.objs.size (Obj.mapSeq (· ++ us.toArray)) }
  refine wpAny_bind (wpAny_load g2 ?_)
  have e : ((#[] : Array Value) ++ us.toArray).toList = us := by simp
  show wpAny (model P0 w0) A0 (pure ((#[] : Array Value) ++ us.toArray).toList) Q0 E0 _
  rw [e]
  exact wpAny_pure q
theorem sorted_intsT {t : Addr} {us : List Value} {ks : List Int} {Q0 : Value → Shared → Prop} (ht : st.heap.IsTuple t us.toArray) (hi : IntsAre us ks) (h64 : us.length < 64)
    (q : ∀ (zs : Array Value) (ks' : List Int), IntsAre zs.toList ks' → ks'.Perm ks → ks'.Pairwise (· ≤ ·) → Q0 (.ref (st.heap.objs.size + 1)) { st with heap := sortedAll st.heap us zs }) :
    wpAny (model P0 w0) A0 (call (.builtin "sorted") [.ref t]) Q0 E0 st := by
  refine Calls.call_function_entry kind_sorted plain_sorted entry_sorted (args_sorted1 _) ?_
  unfold Builtin.«sorted»
  refine wpAny_bind (m := checkCount "sorted" 1 1 _) (wpAny_pure (wpAny_bind (collect_tup ht (by rw [sizeLine_eq]; omega) (wpAny_bind (wpAny_newList ?_)))))
  obtain ⟨h1, eh1⟩ : ∃ h1, h1 = (st.heap.push (seqObj "list" #[] 0)).update st.heap.objs.size (Obj.mapSeq (· ++ us.toArray)) := ⟨_, rfl⟩
  have n1 : h1.objs.size = st.heap.objs.size + 1 := by
    rw [eh1, Heap.size_update, size_push']
  have g3 : (h1.push (seqObj "list" us.toArray 0)).get? (st.heap.objs.size + 1) = some (seqObj "list" us.toArray 0) := by
    rw [← n1]
    exact Heap.get?_push_size _ rfl
  have fin : wpAny (model P0 w0) A0.in1 (holding [.ref (st.heap.objs.size + 1)] (call (.builtin "list.sort") [.ref (st.heap.objs.size + 1)] []) >>= fun _ => ret (.ref (st.heap.objs.size + 1))) (fun v s' => ∃ w', v = .done (.ret w') ∧ Q0 w' s') E0 { st with heap := h1.push (seqObj "list" us.toArray 0) } := by
    refine wpAny_bind (wpAny_holding (wpAny_call_entry slot_list_sort ⟨_, g3, rfl⟩ entry_list_sort (list_sort_tree g3 hi h64 fun zs ks' a b c => ⟨_, rfl, ?_⟩) (args_list_sort _)))
    refine wpAny_pure ⟨_, rfl, ?_⟩
    have z := q zs ks' a b c
    rw [eh1]
    exact z
  have fin' := fin
  rw [← n1] at fin'
  rw [eh1] at fin'
  exact fin'
end
def rSortTI (K : PySem.W.Frag) : List V → Hp → VK → Prop := fun vs H Q => ∃ (a : Addr) (ns : List Int), vs = [V.ref a] ∧ SqT K H a (ns.map V.int) ∧ ns.length < 64 ∧ ∀ (ms : List Int) (p : Addr), ms.Perm ns → ms.Pairwise (· ≤ ·) → H p = none → Q (.ref p) (upd H p (.lst (ms.map V.int)))
theorem cr_sortedTI {X : Cx} : CallR X (.builtin "sorted") (rSortTI X.K) := by
  intro pins s σ H vs us Q I r h
  obtain ⟨a, ns, rfl, hs, h64, q⟩ := h
  obtain ⟨its, rv, hl, _⟩ := I.tuple hs
  rw [Vals.ref1 r]
  have hi := rv.ints
  refine sorted_intsT hl hi (by rw [hi.length]; exact h64) fun out ms h1 h2 h3 => ?_
  obtain ⟨ep, e⟩ := sortedAll_at s.heap its out
  have hz : (ms.map V.int).length ≤ sizeLine := by
    rw [List.length_map, h2.length_eq]
    exact small64 h64
  exact ⟨.ref _, upd H (s.heap.objs.size + 1) (.lst (ms.map V.int)), I.laid (t' := s.toks) (fun _ _ => sortedAll_old) (Nat.le_succ _) ⟨hz, out.toList, ep, vals_of_ints h1, e⟩, rfl, q ms _ h2 h3 (I.hok.fresh (Nat.le_succ _))⟩
end Bb
set_option Elab.async false
set_option linter.all false
set_option maxRecDepth 100000
set_option maxHeartbeats 2000000
namespace Bb
open PySem PySem.Spec PyProof.Rows L2
/-! repr of any data: the table of modules is no list -/
def SysAt (h : Heap) : Prop := ∃ mm : Str → Option Value, h.Ns sysModules mm
section
variable {Z : Addr → Prop} {X : Cx} {pins : List (Addr × Obj)} {σ : L2.St} {H : Hp} {s : Shared}
theorem not_sys (I : Inv X pins σ H s) (sy : SysAt X.base) {a : Addr} {o : Obj} {xs : Array Value} {n : Nat} (e : s.heap.get? a = some o) (d : o.data = .seq xs n) : (a == sysModules) = false := by
  obtain ⟨mm, ob, es, ep, e1, e2, _⟩ := sy
  cases z : a == sysModules with
  | false => rfl
  | true =>
    have ea : a = sysModules := by simpa using z
    obtain ⟨e3, _⟩ := I.env0.bs _ _ e1
    rw [← ea, e] at e3
    injection e3 with e3
    rw [← e3, d] at e2
    cases e2
mutual
theorem Da.readsB (I : Inv X pins σ H s) (sy : SysAt X.base) : ∀ (d : PyData) (v : V) (u : Value), Da Z H v d → RelV v u → ∃ as, Reads s.heap u d as ∧ ∀ b ∈ as, (b == sysModules) = false
  | .none, _, _, h, r => by
    cases h
    cases r
    exact ⟨_, Reads.none, fun b hb => by cases hb⟩
  | .bool b, _, _, h, r => by
    cases h
    cases r
    exact ⟨_, Reads.bool b, fun b hb => by cases hb⟩
  | .int i, _, _, h, r => by
    cases h
    obtain ⟨t, rfl⟩ := r
    exact ⟨_, Reads.int i t, fun b hb => by cases hb⟩
  | .str x, _, _, h, r => by
    cases h
    obtain ⟨t, rfl⟩ := r
    exact ⟨_, Reads.str x t, fun b hb => by cases hb⟩
  | .list ds, _, _, h, r => by
    cases h with
    | lst hs _ ha =>
      cases r
      obtain ⟨its, rv, ⟨o, n, ho, hc, nd, hd⟩, _⟩ := I.list (SqL.of hs)
      obtain ⟨as, hr, q⟩ := DaAll.readsB I sy ds _ its ha rv
      refine ⟨_, Reads.list ho hc hd hr, fun b hb => ?_⟩
      rcases List.mem_cons.mp hb with rfl | hb
      · exact not_sys I sy ho hd
      · exact q b hb
  | .tuple ds, _, _, h, r => by
    cases h with
    | tup hs _ ha =>
      cases r
      obtain ⟨its, rv, ⟨o, ho, hc, n, hd⟩, _⟩ := I.tuple (SqT.of hs)
      obtain ⟨as, hr, q⟩ := DaAll.readsB I sy ds _ its ha rv
      exact ⟨_, Reads.tuple ho hc hd hr, q⟩
  | .dict _, _, _, h, r => by
    cases h with
    | d0 e _ =>
      cases r
      obtain ⟨as, h1, h2, h3⟩ := dict_reads (kvs := []) I e
      subst h2
      exact ⟨_, h1, fun b hb => by
        rw [List.mem_singleton.mp hb]
        exact h3⟩
    | @d1 _ i j e _ =>
      cases r
      obtain ⟨as, h1, h2, h3⟩ := dict_reads (kvs := [(i, j)]) I e
      subst h2
      exact ⟨_, h1, fun b hb => by
        rw [List.mem_singleton.mp hb]
        exact h3⟩
theorem DaAll.readsB (I : Inv X pins σ H s) (sy : SysAt X.base) : ∀ (ds : List PyData) (vs : List V) (us : List Value), DaAll Z H vs ds → Vals vs us → ∃ as, ReadsAll s.heap us ds as ∧ ∀ b ∈ as, (b == sysModules) = false
  | [], _, _, h, r => by
    cases h
    cases r
    exact ⟨_, ReadsAll.nil, fun b hb => by cases hb⟩
  | d :: ds, _, _, h, r => by
    cases h with
    | cons h1 h2 =>
      cases r with
      | cons r1 r2 =>
        obtain ⟨as, q1, n1⟩ := Da.readsB I sy d _ _ h1 r1
        obtain ⟨bs, q2, n2⟩ := DaAll.readsB I sy ds _ _ h2 r2
        refine ⟨_, ReadsAll.cons q1 q2, fun b hb => ?_⟩
        rcases List.mem_append.mp hb with m | m
        · exact n1 b m
        · exact n2 b m
end
end
/-- what can be shown -/
structure Sh (d : PyData) : Prop where
  sh : d.showable = true
  dp : d.depth ≤ 60
  ln : d.shown.length ≤ sizeLine
def rReprB : List V → Hp → VK → Prop := fun xs H Q => ∃ (Z : Addr → Prop) (x : V) (d : PyData), xs = [x] ∧ Da Z H x d ∧ Sh d ∧ Q (.str d.shown) H
theorem call_reprB {X : Cx} (hg : X.A.guards = some []) (hu : X.A.units + 64 < cLine) (sy : SysAt X.base) : CallR X (.builtin "repr") rReprB := by
  intro pins s σ H xs us Q I r h
  obtain ⟨Z, x, d, rfl, hd, ⟨hs, hde, hz⟩, q⟩ := h
  obtain ⟨u, rfl, ru⟩ := vals1 r
  obtain ⟨as, rd, no⟩ := Da.readsB I sy d x u hd ru
  have hsm : d.hasDict = true → sysModules ∉ as := fun _ m => by
    have q := no _ m
    simp at q
  cases hd with
  | non =>
    cases ru
    exact PySem.P.repr_of_none ⟨.str _, H, I.tok _, ⟨_, rfl⟩, q⟩
  | bl b =>
    cases ru
    exact PySem.P.repr_of_bool ⟨.str _, H, I.tok _, ⟨_, rfl⟩, q⟩
  | int i =>
    obtain ⟨t, rfl⟩ := ru
    exact PySem.P.repr_of_int (of_decide_eq_true hs) ⟨.str _, H, I.tok _, ⟨_, rfl⟩, q⟩
  | str z =>
    obtain ⟨t, rfl⟩ := ru
    exact PySem.P.repr_of_str ⟨.str _, H, I.tok _, ⟨_, rfl⟩, q⟩ hz
  | lst h1 _ h2 =>
    cases ru
    exact repr_of_reads' rd hs hsm hg (by omega) (fun _ _ e => e) (fun h' u' tk k => ⟨.str _, H, I.kept k, ⟨_, rfl⟩, q⟩) hz
  | tup h1 _ h2 =>
    cases ru
    exact repr_of_reads' rd hs hsm hg (by omega) (fun _ _ e => e) (fun h' u' tk k => ⟨.str _, H, I.kept k, ⟨_, rfl⟩, q⟩) hz
  | d0 h1 _ =>
    cases ru
    exact repr_of_reads' rd hs hsm hg (by omega) (fun _ _ e => e) (fun h' u' tk k => ⟨.str _, H, I.kept k, ⟨_, rfl⟩, q⟩) hz
  | d1 h1 _ =>
    cases ru
    exact repr_of_reads' rd hs hsm hg (by omega) (fun _ _ e => e) (fun h' u' tk k => ⟨.str _, H, I.kept k, ⟨_, rfl⟩, q⟩) hz
/-! the end of a law row, the table of modules told -/
section
variable {P : Program} {w : World} {K : PySem.W.Frag} {mg mb : Str → Option Value} {a : Addr} {cs : List (Addr × Addr)} {s₁ : Shared} {vs : List Value} {ns : List Int}
theorem law_callM {CX : CXT} {k : Nat} {fa : Addr} {fd : FuncData} {x : Str} {sp : Sp}
    (KX : K.In s₁.heap) (hns : s₁.heap.Ns mainGlobals mg) (hb : s₁.heap.Ns builtinsNs mb) (hbb : ∀ x : Str, x ≠ "__name__" → mb x = bootBuiltins x) (hlim : s₁.heap.NoLimit) (hg : s₁.gens = #[])
    (hT : ∀ p ∈ cs, s₁.heap.get? p.2 = some emptyO) (nT : ∀ p ∈ cs, K.lookup p.2 = none) (C : ∀ p ∈ cs, PySem.W.CodeHd s₁.heap p.1 p.2)
    (hbm : ∃ (bm : Addr) (ob : Obj), mg "__builtins__" = some (.ref bm) ∧ bm ≠ builtinsNs ∧ s₁.heap.get? bm = some ob ∧ ob.cls = .type "module" ∧ ob.dict = some builtinsNs ∧ ob.data = .plain)
    (hsy : SysAt s₁.heap) (ha : s₁.heap.get? a = some (scO vs)) (hi : IntsAre vs ns) (hl : ns.length ≤ sizeLine) (hr : Room k callerA)
    (F : ∀ base : Heap, K.In base → base.Ns mainGlobals mg → SysAt base → (∀ p ∈ cs, LamX.TabB base mg p.1 p.2) → FnG P w K mg base CX k fa fd [x] sp) (hbind : ∀ (s : Shared) (u : Value), BindsTo s fd ⟨[u], []⟩ [(x, u)])
    (hsp : ∀ H : Hp, (∀ p ∈ cs, H p.2 = some (.tbl #[])) → SqL K H a (ns.map V.int) → sp [.ref a] H (fun v _ => v = .bl true) fun _ _ _ => False)
    (hCX : ∀ H e s', CX [] H s₁ (fun _ _ _ => False) e s' → False) :
    codeAny (model P w) callerA (.call (.ref fa) ⟨[.ref a], []⟩) (fun r s' => r = .ok (.ret (.bool true)) ∧ OldK s₁.heap s'.heap ∧ s'.os = s₁.os ∧ AllBare s'.gens) s₁ := by
  have tbl : ∀ b ∈ cs.map (·.2), s₁.heap.get? b = some emptyO := by
    intro b hm
    obtain ⟨p, hp, rfl⟩ := List.mem_map.mp hm
    exact hT p hp
  have aT : a ∉ cs.map (·.2) := by
    intro hm
    have z := (tbl a hm).symm.trans ha
    injection z with z
    injection z with z1 z2 z3 z4
    cases z1
  let H : Hp := h0 K (cs.map (·.2)) a vs ns
  have hc : ∀ b, H b = none ∨ (b ∈ cs.map (·.2) ∧ H b = some (.tbl #[])) ∨ (b = a ∧ K.lookup a = none ∧ H b = some (.frz (scO vs) (.lst (ns.map V.int)))) := fun b => h0_cases K _ a vs ns b
  have hH : ∀ p ∈ cs, H p.2 = some (.tbl #[]) := fun p hp => by
    show h0 K _ a vs ns p.2 = _
    unfold h0
    rw [if_pos (List.mem_map.mpr ⟨p, hp, rfl⟩)]
  have lenV : vs.length = ns.length := hi.length
  have rv := vals_ints hi
  have sq : SqL K H a (ns.map V.int) := by
    cases hk : K.lookup a with
    | some o =>
      have e := (KX a o hk).symm.trans ha
      injection e with e
      subst e
      exact .inr ⟨_, vs.toArray, _, hk, rfl, rfl, rfl, by rw [List.size_toArray, lenV]; exact hl, by simpa using rv⟩
    | none =>
      refine .inl (.inr ⟨scO vs, ?_⟩)
      show h0 K _ a vs ns a = _
      unfold h0
      rw [if_neg aT, if_pos ⟨rfl, by rw [hk]; rfl⟩]
  have hok : HOk P w H s₁.heap := by
    intro b u e
    rcases hc b with z | ⟨m, z⟩ | ⟨rfl, _, z⟩
    · rw [z] at e
      cases e
    · rw [z] at e
      cases e
      exact tbl b m
    · rw [z] at e
      cases e
      exact ⟨ha, by rw [List.length_map]; exact hl, vs, _, rv, ha⟩
  -- what is no list and no empty table is not tracked
  have other : ∀ {b : Addr} {o : Obj}, s₁.heap.get? b = some o → o.data ≠ Data.seq vs.toArray 0 → o.data ≠ Data.fields #[] → H b = none := by
    intro b o e n1 n2
    rcases hc b with z | ⟨m, _⟩ | ⟨rfl, _, _⟩
    · exact z
    · have q := (tbl b m).symm.trans e
      injection q with q
      subst q
      exact absurd rfl n2
    · have q := ha.symm.trans e
      injection q with q
      subst q
      exact absurd rfl n1
  have down : ∀ {b : Addr} {o : Obj}, s₁.heap.get? b = some o → o.data ≠ Data.seq vs.toArray 0 → o.data ≠ Data.fields #[] → (hidT s₁.heap H).get? b = some o := fun e n1 n2 => hidT_get e (other e n1 n2)
  have nsD : ∀ {b : Addr} {m : Str → Option Value}, s₁.heap.Ns b m → (hidT s₁.heap H).Ns b m := by
    rintro b m ⟨o, es, ep, e, d, r⟩
    refine ⟨o, es, ep, down e ?_ ?_, d, r⟩
    · rw [d]
      intro q
      cases q
    · rw [d]
      intro q
      cases q
  have kin : K.In (hidT s₁.heap H) := by
    intro b o e
    refine hidT_get (KX b o e) ?_
    rcases hc b with z | ⟨m, _⟩ | ⟨rfl, n, _⟩
    · exact z
    · obtain ⟨p, hp, rfl⟩ := List.mem_map.mp m
      rw [nT p hp] at e
      cases e
    · rw [n] at e
      cases e
  have md : L2.Mod K mg (hidT s₁.heap H) := ⟨kin, nsD hns, ⟨mb, nsD hb, hbb⟩, by
    obtain ⟨mc, e1, e2⟩ := hlim
    exact ⟨mc, nsD e1, e2⟩⟩
  have tabs : ∀ p ∈ cs, LamX.TabB (hidT s₁.heap H) mg p.1 p.2 := by
    intro p hp
    constructor
    · obtain ⟨o, us, file, tf, flags, tg, inF, text, tt, g1, g2, g3, g4, g5⟩ := C p hp
      refine ⟨o, us, file, tf, flags, tg, inF, text, tt, down g1 ?_ ?_, g2, g3, g4, g5⟩
      · rw [g3]
        intro q
        cases q
      · rw [g3]
        intro q
        injection q with q
        rw [q] at g4
        simp at g4
    · obtain ⟨bm, ob, b1, b2, b3, b4, b5, b6⟩ := hbm
      refine ⟨bm, ob, b1, b2, ?_, ?_, down b3 ?_ ?_, b4, b5, b6⟩
      · intro q
        obtain ⟨o, es, ep, e, d, _⟩ := hns
        rw [q, e] at b3
        injection b3 with b3
        rw [← b3, d] at b6
        cases b6
      · intro q
        rw [q, hT p hp] at b3
        injection b3 with b3
        rw [← b3] at b6
        cases b6
      · rw [b6]
        intro q
        cases q
      · rw [b6]
        intro q
        cases q
    · intro z
      obtain ⟨o, es, ep, e, d, _⟩ := hns
      rw [z, hT p hp] at e
      injection e with e
      rw [← e] at d
      cases d
  have env : Env0 P w K mg (hidT s₁.heap H) callerA [] s₁ H :=
    { frames := rfl, mod := md, bs := fun b o e => of_hidT e, bsz := Nat.le_of_eq (hidT_size _ _), funs := True.intro, frf := (fun b z => by cases z), hok := hok, bare := .of_eq hg }
  refine codeAny_mono ((F _ kin (nsD hns) (let ⟨mm, e⟩ := hsy; ⟨mm, nsD e⟩) tabs).go callerA [] s₁ H ⟨[.ref a], []⟩ [.ref a] [.ref a] _ _ rfl hr env (hbind s₁ (.ref a)) (.cons rfl .nil) (hsp H hH sq)) ?_
  rintro (er | fl) s' h
  · exact (hCX H er s' h).elim
  · cases fl with
    | next => exact h.elim
    | brk => exact h.elim
    | cont => exact h.elim
    | ret u =>
      obtain ⟨v, H', os, bare, un, hok', r', q⟩ := h
      have q' : v = .bl true := q
      subst q'
      obtain rfl : u = Value.bool true := r'
      have same : ∀ b o, b ∉ cs.map (·.2) → s₁.heap.get? b = some o → s'.heap.get? b = some o := by
        intro b o nb e
        rcases hc b with z | ⟨m, _⟩ | ⟨rfl, _, z⟩
        · exact un.keep b o e z (by simp [frs]) (by simp)
        · exact absurd m nb
        · have z2 := un.frzs _ _ _ z
          obtain ⟨e2, _⟩ := hok' _ _ z2
          rw [ha] at e
          rw [← e]
          exact e2
      have grown : ∀ p ∈ cs, ∃ more : Array Value, s'.heap.get? p.2 = some { cls := .none, data := .fields more } := by
        intro p hp
        obtain ⟨more, z⟩ := un.tbls p.2 #[] (hH p hp)
        exact ⟨_, hok' p.2 _ z⟩
      refine ⟨rfl, ⟨fun b o e => ?_, fun b o e => ?_⟩, os, bare⟩
      · by_cases m : b ∈ cs.map (·.2)
        · obtain ⟨p, hp, rfl⟩ := List.mem_map.mp m
          obtain ⟨more, hm⟩ := grown p hp
          have e' := (hT p hp).symm.trans e
          injection e' with e'
          subst e'
          refine .inr (.inl ⟨((C p hp).tab (hT p hp)).isCodeTable, rfl, #[], more, rfl, ?_⟩)
          rw [Array.empty_append]
          exact hm
        · exact .inl (same b o m e)
      · by_cases m : b ∈ cs.map (·.2)
        · obtain ⟨p, hp, rfl⟩ := List.mem_map.mp m
          obtain ⟨more, hm⟩ := grown p hp
          exact ⟨_, hm⟩
        · exact ⟨o, same b o m e⟩
/-- what a law's facts at the head's heap h come to -/
def LawM (l : PySem.W.OpenLaw) (w : World) (K : PySem.W.Frag) (CX : CXT) (k n : Nat) (x : Str) (mg : Str → Option Value) (fa : Addr) (h : Heap) : Prop :=
  ∃ (fd : FuncData) (cs : List (Addr × Addr)) (sp : Sp), (∀ p ∈ cs, h.get? p.2 = some emptyO) ∧ (∀ p ∈ cs, K.lookup p.2 = none) ∧ (∀ p ∈ cs, PySem.W.CodeHd h p.1 p.2) ∧ (∀ (s : Shared) (u : Value), BindsTo s fd ⟨[u], []⟩ [(x, u)]) ∧
    (∀ (H : Hp) (a : Addr) (ns : List Int), ns.length ≤ n → (∀ z ∈ ns, Builtin.Int.intBits z ≤ 1048576) → (∀ p ∈ cs, H p.2 = some (.tbl #[])) → SqL K H a (ns.map V.int) → sp [.ref a] H (fun v _ => v = .bl true) fun _ _ _ => False) ∧
    ∀ base : Heap, K.In base → base.Ns mainGlobals mg → SysAt base → (∀ p ∈ cs, LamX.TabB base mg p.1 p.2) → FnG l.prog w K mg base CX k fa fd [x] sp
theorem walkM {l : PySem.W.OpenLaw} {n k : Nat} {q : Program} {loose : List Str} {XP : (Str → Option Value) → Heap → Prop} {YP : World → Heap → Prop} {d : DefRec} {CX : World → CXT} {x : Str}
    (hn : l.most = some n) (hn2 : n ≤ sizeLine) (himp : importsNone q = true) (hdf : d.params.defaults = []) (hr : Room k callerA)
    (F : ∀ (w : World) (mg : Str → Option Value) (fa : Addr) (h : Heap), YP w h → h.Ns mainGlobals mg → mg d.name = some (.ref fa) → ∃ K : PySem.W.Frag, K.In h ∧ LawM l w K (CX w) k n x mg fa h)
    (hCX : ∀ (w : World) (H : Hp) (s : Shared) (e : Value) (s' : Shared), CX w [] H s (fun _ _ _ => False) e s' → False) :
    PySem.W.WalkO q loose XP YP l.row.toRowW d [] (fun f vs => PySem.call f vs) := by
  refine Att.attach_callB hn hdf ?_
  intro w s₀ s₁ mg mb fa o pm cd doc a vs ns G Y ho hd hcd hmg hobj hints hlen hbits hg
  obtain ⟨K, KX, fd, cs, sp, c1, c2, c3, c4, c5, c6⟩ := F w mg fa _ Y G.T.g hmg
  exact law_callM KX G.T.g G.T.b G.T.builtins G.T.nolimit hg c1 c2 c3 G.T.bmain (let ⟨mm, e, _⟩ := (G.T.seer himp).mods; ⟨mm, e⟩) hobj hints (Nat.le_trans hlen hn2) hr c6 c4 (fun H hH hS => c5 H a ns hlen hbits hH hS) fun H e s' => hCX w H s₁ e s'
end
end Bb
set_option Elab.async false
set_option linter.all false
set_option maxRecDepth 100000
set_option maxHeartbeats 2000000
namespace Bb
open PySem PySem.Spec PyProof.Rows L2 PySem.SeqAt
/-! a dict is no text -/
theorem dict_declines (l : Addr) (o : Obj) (hc : o.cls = .type "dict") (b : Str) (u : Tok) :
    Meets (Builtin.«dict.__eq__» ⟨[.ref l, .str b u], []⟩) (fun _ R s => s.heap.get? l = some o ∧ R (.ok (.ret .notImplemented)) s) :=
  .of_wp fun prog w A R s h => by
    obtain ⟨hl, h⟩ := h
    have hT : s.TypeIs (.ref l) "dict" := ⟨o, hl, hc⟩
    have hn := PySem.F.sub_str_dict
    wp_walk using wpAny_typeOf hT
    exact ⟨_, rfl, h⟩
theorem str_declines_dict (b : Str) (u : Tok) (l : Addr) (c : Value) (es : Array DictEntry) (n : Nat) (dd : Option Addr) (sl : Array (Option Value)) :
    Meets (Builtin.«str.__eq__» ⟨[.str b u, .ref l], []⟩) (fun _ R s => s.heap.get? l = some { cls := c, dict := dd, data := .dict es n, slots := sl } ∧ R (.ok (.ret .notImplemented)) s) :=
  .of_wp fun prog w A R s h => by
    obtain ⟨hp, g, d, tk, os⟩ := s
    obtain ⟨hl, h⟩ := h
    wp_walk using wpAny_loadPart' hl, wpAny_load hl
    exact ⟨_, rfl, h⟩
theorem rc_dict_str {A : Around} {s : Shared} {l : Addr} {dd : Option Addr} {es : Array DictEntry} {n : Nat} {sl : Array (Option Value)} (ho : s.heap.get? l = some { cls := .type "dict", dict := dd, data := .dict es n, slots := sl }) (b : Str) (u : Tok) (hu : A.units < cLine) : RcAt A s (.ref l) (.str b u) false := fun prog w E Q h => by
  have d1 : ∀ Q' : Value → Shared → Prop, Q' .notImplemented s → wpAny (model prog w) A (call (.builtin "dict.__eq__") [.ref l, .str b u]) Q' E s :=
    fun _ hq => call_meets PySem.F.slot_dict_eq ⟨_, ho, rfl⟩ PySem.F.entry_dict_eq (PySem.F.args_dict_eq_2 _ _) (dict_declines l _ rfl b u) ⟨ho, hq⟩
  have d2 : ∀ Q' : Value → Shared → Prop, Q' .notImplemented s → wpAny (model prog w) A (call (.builtin "str.__eq__") [.str b u, .ref l]) Q' E s :=
    fun _ hq => call_meets PySem.F.slot_str_eq_refl (typeIs_str s b u) PySem.F.entry_str_eq (PySem.F.args_str_eq_2 _ _) (str_declines_dict b u l _ es n dd sl) ⟨ho, hq⟩
  exact rc_eq_decline_or (k := false) ⟨_, ho, rfl⟩ (typeIs_str s b u) (by decide) (by rw [isSubtype_type]; kernel_rfl) PySem.F.slot_dict_eq PySem.F.slot_str_eq_refl d1 d2 (fun _ hq => wpAny_of_eq (rfl : isSame (.ref l) (.str b u) = pure false) hq) (.inr hu) h
/-- x == z, z a text, x any data -/
def isTxt (z : Str) : PyData → Bool
  | .str y => decide (y = z)
  | _ => false
def rEqZ : R2 := fun x y H Q => ∃ (Z : Addr → Prop) (d : PyData) (z : Str), Da Z H x d ∧ y = .str z ∧ Q (.bl (isTxt z d)) H
theorem op_eqZ {X : Cx} (hu : X.A.units < cLine) : OpR X (compareOp .Eq) rEqZ := by
  intro pins s σ H x y v u Q I rx ry h
  obtain ⟨Z, d, z, hd, rfl, q⟩ := h
  obtain ⟨t, rfl⟩ := ry
  have fin : ∀ {b : Bool}, RcAt X.A s v (.str z t) b → b = isTxt z d → wpAny (model X.prog X.w) X.A (compareOp .Eq v (.str z t)) (EP X pins σ Q) X.xe s := fun {b} r e => by
    subst e
    exact r X.prog X.w X.xe _ ⟨.bl _, H, I, rfl, q⟩
  cases hd with
  | non =>
    cases rx
    exact fin (RcAt.none_str z t) rfl
  | bl b =>
    cases rx
    exact fin (RcAt.bool_str b z t) rfl
  | int i =>
    obtain ⟨t2, rfl⟩ := rx
    exact fin (RcAt.int_str i t2 z t) rfl
  | str y =>
    obtain ⟨t2, rfl⟩ := rx
    refine fin (RcAt.str_str y t2 z t) ?_
    show (y == z) = decide (y = z)
    rw [Bool.eq_iff_iff]
    simp
  | lst h1 _ h2 =>
    cases rx
    obtain ⟨its, rv, hl, _⟩ := I.list (SqL.of h1)
    exact fin (RcAt.list_str z t hl.isList hu) rfl
  | tup h1 _ h2 =>
    cases rx
    obtain ⟨its, rv, hl, _⟩ := I.tuple (SqT.of h1)
    exact fin (RcAt.tuple_str z t hl hu) rfl
  | d0 h1 _ =>
    cases rx
    obtain ⟨_, hs, vs, kv, ⟨oc, od, odt, osl⟩, es, ep, ho, ex, hdt, _⟩ := dk_of I.hok h1
    simp only at hdt
    obtain ⟨e1, e2, e3⟩ := ex
    simp only at e1
    subst hdt e1
    exact fin (rc_dict_str ho z t hu) rfl
  | d1 h1 _ =>
    cases rx
    obtain ⟨_, hs, vs, kv, ⟨oc, od, odt, osl⟩, es, ep, ho, ex, hdt, _⟩ := dk_of I.hok h1
    simp only at hdt
    obtain ⟨e1, e2, e3⟩ := ex
    simp only at e1
    subst hdt e1
    exact fin (rc_dict_str ho z t hu) rfl
/-! str of an own instance, by its own __str__ -/
theorem call_strOwn {X : Cx} {CX : CXT} {C f : Addr} {fd : FuncData} {ps : List Str} {sp : Sp} {k : Nat} {E : XK} (F : FnOk X.prog X.w X.K X.mg X.base CX k f fd ps sp) (hr : Room (k + 2) X.A) (hs : PySem.W.findIn X.K (.ref C) "__str__" = some (some (.ref f))) (hf : PySem.W.isFn X.K (.ref f) = true)
    (hb : Binds X.K fd ps []) (hx : Passes CX X E) :
    CallR X (.type "str") (fun xs H Q => ∃ a dx fs, xs = [.ref a] ∧ H a = some (.ins C dx fs) ∧ sp [.ref a] H (fun v H' => ∃ z : Str, v = .str z ∧ Q (.str z) H') E) := by
  intro pins s σ H xs us Q I r h
  obtain ⟨a, dx, fs, rfl, ha, hsp⟩ := h
  obtain ⟨u, rfl, ru⟩ := vals1 r
  cases ru
  obtain ⟨mA, J, _⟩ := ins_get I.hok ha
  obtain ⟨od, J, _⟩ := J.look
  have un := hr.units
  have hr2 : Room k X.A.in1.in1 := (hr.mono (by omega)).in1.in1
  refine PySem.W.kso_call (by show X.A.units + 1 + 1 < cLine; omega) I.kIn J hs hf ?_
  have hl := F.len _ _ _ _ hsp
  have bnd := hb s [.ref a] I.kIn (by simpa using hl)
  rw [List.append_nil] at bnd
  refine wpAny_call (codeAny_mono (F.run X.A.in1.in1 X.stack s H ⟨[.ref a], []⟩ [.ref a] [.ref a] _ E hr2 I.env0.in1.in1 bnd (.cons rfl .nil) hsp) ?_)
  rintro (er | fl) s' hq
  · exact hx pins σ H s er s' I hq
  · cases fl with
    | ret w' =>
      obtain ⟨z, H', I', rz, n, rfl, q⟩ := I.after hq
      obtain ⟨t, rfl⟩ := rz
      exact ⟨.str n, H', I', ⟨_, rfl⟩, q⟩
    | next => exact hq.elim
    | brk => exact hq.elim
    | cont => exact hq.elim
/-- str of a text, of a number -/
def rStrX : List V → Hp → VK → Prop := fun xs H Q => (∃ z, xs = [.str z] ∧ Q (.str z) H) ∨ (∃ i : Int, xs = [.int i] ∧ i.natAbs.log2 < 1920 ∧ Q (.str (toString i)) H)
theorem call_strX {X : Cx} : CallR X (.type "str") rStrX := by
  intro pins s σ H xs us Q I r h
  rcases h with ⟨z, rfl, q⟩ | ⟨i, rfl, hz, q⟩
  · obtain ⟨u, rfl, t, rfl⟩ := vals1 r
    exact PySem.P.str_of_str ⟨.str z, H, I, ⟨t, rfl⟩, q⟩
  · obtain ⟨u, rfl, t, rfl⟩ := vals1 r
    exact PySem.P.str_of_int hz ⟨.str _, H, I.tok _, ⟨_, rfl⟩, q⟩
end Bb
set_option Elab.async false
set_option linter.all false
set_option maxRecDepth 100000
set_option maxHeartbeats 2000000
namespace Bb
open PySem PySem.Spec PyProof.Rows L2
open Builtin
/-! x in a list of own instances -/
theorem vals_refs : ∀ {bs : List Addr} {us : List Value}, Vals (bs.map V.ref) us → us = bs.map Value.ref
  | [], _, h => by
    cases h
    rfl
  | b :: bs, _, h => by
    cases h with
    | cons r1 r2 =>
      cases r1
      rw [vals_refs r2]
      rfl
theorem eqBool_same {M : Model} {A : Around} {E : Value → Shared → Prop} {s : Shared} {a : Addr} {Q : Bool → Shared → Prop} (h : Q true s) : wpAny M A (eqBool (.ref a) (.ref a)) Q E s := by
  unfold eqBool
  refine wpAny_holding ?_
  refine wpAny_ite_split (fun _ => ?_) (fun n => absurd (by simp) n)
  exact wpAny_bind (wpAny_rule (wpAny_pure h))
section
variable {X : Cx} {CX : CXT} {C f : Addr} {fd : FuncData} {ps : List Str} {sp : Sp} {k : Nat} {E : XK}
def rInL (X : Cx) (C : Addr) (sp : Sp) (E : XK) : R2 := fun x y H Q => ∃ (a l : Addr) (bs : List Addr) (e : Addr → Bool), x = .ref a ∧ y = .ref l ∧ H l = some (.lst (bs.map V.ref)) ∧ (∃ dx fs, H a = some (.ins C dx fs)) ∧ (∀ b ∈ bs, ∃ dy gs, H b = some (.ins C dy gs)) ∧
  (∀ b ∈ bs, b = a → e b = true) ∧ (∀ b ∈ bs, b ≠ a → ∀ H1, Same H H1 → sp [.ref b, .ref a] H1 (fun v H2 => v = .bl (e b) ∧ Same H1 H2) E) ∧ ∀ H', Same H H' → Q (.bl (bs.any e)) H'
theorem op_inL (F : FnOk X.prog X.w X.K X.mg X.base CX k f fd ps sp) (hr : Room (k + 1) X.A) (he : PySem.W.findIn X.K (.ref C) "__eq__" = some (some (.ref f))) (hf : PySem.W.isFn X.K (.ref f) = true)
    (hb : Binds X.K fd ps []) (hx : Passes CX X E) : OpR X (compareOp .In) (rInL X C sp E) := by
  intro pins s σ H x y v u Q I rx ry h
  obtain ⟨a, l, bs, e, rfl, rfl, hl, ⟨dx, fs, ha⟩, hbs, hid, hsp, q⟩ := h
  cases rx
  cases ry
  have its : ∀ (s' : Shared) (H' : Hp), Inv X pins σ H' s' → Same H H' → ∃ n, s'.heap.get? l = some { cls := .type "list", data := .seq (bs.map Value.ref).toArray n } := by
    intro s' H' I' sm
    obtain ⟨_, it, n, r, _, e⟩ := I'.lstM (sm _ _ hl)
    rw [vals_refs r] at e
    exact ⟨n, e⟩
  have un := hr.units0
  have un2 := hr.units
  have sz : (bs.map Value.ref).toArray.size = bs.length := by simp
  refine Co.in_listG (items := (bs.map Value.ref).toArray) (fun i s' => i ≤ bs.length ∧ (bs.take i).any e = false ∧ ∃ H', Inv X pins σ H' s' ∧ Same H H') (fun i s' q => let ⟨_, _, H', I', sm⟩ := q; its s' H' I' sm) ?_ ?_ ⟨Nat.zero_le _, by simp, H, I, Same.refl H⟩
  · intro i hi s' hs'
    obtain ⟨_, hno, H', I', sm⟩ := hs'
    have hib : i < bs.length := by rw [sz] at hi; exact hi
    have mem : bs[i] ∈ bs := List.getElem_mem hib
    have ei : (bs.map Value.ref).toArray[i] = .ref bs[i] := by simp
    have tk : bs.take (i + 1) = bs.take i ++ [bs[i]] := by
      rw [List.take_succ, List.getElem?_eq_getElem hib]
      rfl
    have step : ∀ (r : Bool) (s2 : Shared) (H2 : Hp), r = e bs[i] → Inv X pins σ H2 s2 → Same H H2 → (r = true → EP X pins σ Q (.bool true) s2) ∧ (r = false → i + 1 ≤ bs.length ∧ (bs.take (i + 1)).any e = false ∧ ∃ H', Inv X pins σ H' s2 ∧ Same H H') := by
      intro r s2 H2 hr2 I2 sm2
      refine ⟨fun er => ?_, fun er => ⟨by omega, ?_, H2, I2, sm2⟩⟩
      · have any : bs.any e = true := List.any_eq_true.mpr ⟨_, mem, by rw [← hr2, er]⟩
        have z := q H2 sm2
        rw [any] at z
        exact ⟨.bl true, H2, I2, rfl, z⟩
      · rw [tk, List.any_append, hno, Bool.false_or, List.any_cons, List.any_nil, Bool.or_false, ← hr2, er]
    rw [ei]
    by_cases ab : bs[i] = a
    · rw [ab]
      exact eqBool_same (step true s' H' (by rw [hid _ mem ab]) I' sm)
    · refine GQ.eqBool_refG ab ?_
      obtain ⟨dy, gs, hbi⟩ := hbs _ mem
      obtain ⟨mA, J, _⟩ := ins_get I'.hok (sm _ _ ha)
      obtain ⟨od, J, _⟩ := J.look
      obtain ⟨mB, J2, _⟩ := ins_get I'.hok (sm _ _ hbi)
      obtain ⟨od2, J2, _⟩ := J2.look
      obtain ⟨m, hF⟩ := I'.fr
      refine PySem.W.cmp_K (op := .Eq) (tb := .ref C) (by show X.A.units + 1 < cLine; omega) hF I'.ok.mod.kin J2 J.type (by simp [PySem.W.notFirst]) he hf ?_
      have hsp1 := hsp _ mem ab H' sm
      have hl1 := F.len _ _ _ _ hsp1
      have bnd := hb s' [.ref bs[i], .ref a] I'.kIn (by simpa using hl1)
      rw [List.append_nil] at bnd
      refine wpAny_call (codeAny_mono (F.run X.A.in1 X.stack s' H' ⟨[.ref bs[i], .ref a], []⟩ [.ref bs[i], .ref a] [.ref bs[i], .ref a] _ E hr.in1 I'.env0.in1 bnd (.cons rfl (.cons rfl .nil)) hsp1) ?_)
      rintro (er | fl) s2 hq
      · exact hx pins σ H' s' er s2 I' hq
      · cases fl with
        | ret w' =>
          obtain ⟨z, H2, I2, rz, rfl, sm2⟩ := I'.after hq
          cases rz
          exact ⟨e bs[i], rfl, step _ s2 H2 rfl I2 (sm.trans sm2)⟩
        | next => exact hq.elim
        | brk => exact hq.elim
        | cont => exact hq.elim
  · intro s' hs'
    obtain ⟨_, hno, H', I', sm⟩ := hs'
    rw [sz, List.take_length] at hno
    have z := q H' sm
    rw [hno] at z
    exact ⟨.bl false, H', I', rfl, z⟩
end
end Bb
set_option Elab.async false
set_option linter.all false
set_option maxRecDepth 100000
set_option maxHeartbeats 2000000
namespace Bb
open PySem PySem.Spec PyProof.Rows L2
/-! sorted(list) of alike data, each its own object: a new list, in the order of data -/
open PySem.W in
theorem each_refs {R : Value → Addr × PyData → Prop} : ∀ {rs : List (Addr × PyData)} {us : List Value}, Vals (rs.map fun r => V.ref r.1) us → (∀ r ∈ rs, R (.ref r.1) r) → EachIs R us rs
  | [], us, r, _ => by
    cases r
    exact .nil
  | x :: rs, us, r, h => by
    cases r with
    | cons r1 r2 =>
      cases r1
      exact .cons (h x List.mem_cons_self) (each_refs r2 fun y hy => h y (List.mem_cons_of_mem _ hy))
open PySem.W in
theorem vals_each : ∀ {rs : List (Addr × PyData)} {us : List Value}, EachIs (fun v (r : Addr × PyData) => v = Value.ref r.1) us rs → Vals (rs.map fun r => V.ref r.1) us
  | [], _, h => by
    cases h
    exact .nil
  | x :: rs, _, h => by
    cases h with
    | cons h t =>
      subst h
      exact .cons rfl (vals_each t)
def leD (a b : Addr × PyData) : Bool := PySem.W.dataLe false (fun r : Addr × PyData => r.2) a b
def rSortD (K : PySem.W.Frag) : List V → Hp → VK → Prop := fun vs H Q => ∃ (a : Addr) (rs : List (Addr × PyData)), vs = [V.ref a] ∧ SqL K H a (rs.map fun r => V.ref r.1) ∧ (∀ r ∈ rs, Dp K H (.ref r.1) r.2) ∧ PySem.W.AllAlike (rs.map (·.2)) ∧ PySem.W.Sortable (rs.map (·.2)) ∧ (∀ r ∈ rs, r.2.depth ≤ 40) ∧
  ∀ p, H p = none → Q (.ref p) (upd H p (.lst ((rs.mergeSort leD).map fun r => V.ref r.1)))
theorem cr_sortedD {X : Cx} (hu : X.A.units + 64 < cLine) : CallR X (.builtin "sorted") (rSortD X.K) := by
  intro pins s σ H vs us Q I r h
  obtain ⟨a, rs, rfl, hs, hd, hal, hk, hdep, q⟩ := h
  obtain ⟨its, rv, hl, hz⟩ := I.list hs
  obtain ⟨u, rfl, ru⟩ := vals1 r
  obtain rfl : u = Value.ref a := ru
  have hz' : rs.length ≤ sizeLine := by rw [List.length_map] at hz; exact hz
  refine PySem.W.sorted_data (R := fun v (r : Addr × PyData) => v = Value.ref r.1) (enc := fun r : Addr × PyData => r.2) (bs := rs) hl.isList (each_refs rv fun _ _ => rfl) (each_refs rv fun r hr => Dp.reads I r.2 (.ref r.1) (.ref r.1) (hd r hr) rfl) hal hk hz' (fun r hr => ?_) fun out lo ho => ?_
  · have := hdep r hr
    omega
  · obtain ⟨ep, e⟩ := sortedAll_at s.heap its out.toArray
    refine ⟨.ref _, upd H (s.heap.objs.size + 1) (.lst ((rs.mergeSort leD).map fun r => V.ref r.1)), I.laid (t' := s.toks) (fun _ _ => sortedAll_old) (Nat.le_succ _) ⟨?_, out, ep, vals_each ho, e⟩, rfl, q _ (I.hok.fresh (Nat.le_succ _))⟩
    rw [List.length_map, (List.mergeSort_perm rs leD).length_eq]
    exact hz'
theorem leD_iff (a b : Addr × PyData) : leD a b = !PySem.W.dataLt b.2 a.2 := by
  unfold leD
  rw [PySem.W.dataLe_eq]
  rfl
theorem leD_trans (a b c : Addr × PyData) (h1 : leD a b = true) (h2 : leD b c = true) : leD a c = true := by
  rw [leD_iff] at h1 h2 ⊢
  unfold PySem.W.dataLt at h1 h2 ⊢
  cases e : PyProof.Rows.lexLt itemOrd (PySem.W.keyToks c.2) (PySem.W.keyToks a.2) with
  | false => rfl
  | true =>
    rcases lex_negTrans _ (PySem.W.keyToks b.2) _ e with z | z
    · rw [z] at h2
      cases h2
    · rw [z] at h1
      cases h1
theorem leD_total (a b : Addr × PyData) : (leD a b || leD b a) = true := by
  rw [leD_iff, leD_iff]
  unfold PySem.W.dataLt
  cases e : PyProof.Rows.lexLt itemOrd (PySem.W.keyToks b.2) (PySem.W.keyToks a.2) with
  | false => rfl
  | true =>
    cases e2 : PyProof.Rows.lexLt itemOrd (PySem.W.keyToks a.2) (PySem.W.keyToks b.2) with
    | false => rfl
    | true =>
      have z := lex_trans _ _ _ e e2
      rw [lex_irrefl] at z
      cases z
/-- data that neither goes ahead are equal -/
theorem eqv_of_le {a b : Addr × PyData} (al : PySem.W.alike a.2 b.2 = true) (h1 : leD a b = true) (h2 : leD b a = true) : PyData.eqv a.2 b.2 = true := by
  rw [leD_iff] at h1 h2
  unfold PySem.W.dataLt at h1 h2
  have e := lex_total (PySem.W.keyToks a.2) (PySem.W.keyToks b.2) (by simpa using h2) (by simpa using h1)
  cases ev : PyData.eqv a.2 b.2 with
  | true => rfl
  | false =>
    have z := (PySem.W.toks_eqv _ _ al).2 ev [] [Sum.inl 0]
    rw [e, PySem.W.lex_pre, lex_irrefl] at z
    have z2 : true = false := z
    cases z2
end Bb
set_option Elab.async false
set_option linter.all false
set_option maxRecDepth 100000
set_option maxHeartbeats 2000000
namespace Bb
namespace Co
open PySem PySem.SeqAt PyProof.Rows
section
variable {prog : Program} {w : World} {A : Around} {R : Result → Shared → Prop} {s : Shared}
/-- tuple.__contains__ where == may be a def's -/
theorem tuple_containsG {t : Addr} {items : Array Value} {x : Value} (J : List Value → Shared → Prop) (ht : IsTup s.heap t items)
    (turn : ∀ y rest s, J (y :: rest) s → wpAny (model prog w) A.in1 (eqBool y x) (fun r s' => (r = true → R (.ok (.ret (.bool true))) s') ∧ (r = false → J rest s')) (fun e s' => R (.error e) s') s)
    (fin : ∀ s, J [] s → R (.ok (.ret (.bool false))) s) (h : J items.toList s) :
    wpAny (model prog w) A.in1 (Builtin.«tuple.__contains__» ⟨[.ref t, x], []⟩) (GQ.FinOf prog w A R) (fun e s' => R (.error e) s') s := by
  show wpAny _ _ (Builtin.Tuple.tupleItemsOf (.ref t) >>= _) _ _ s
  refine wpAny_bind (tupleItemsOf_ ht ?_)
  refine wpAny_bind (forIn_array_ _ (fun rest b s' => b.1 = none ∧ J rest s') _ ?_ ?_ items _ ⟨rfl, h⟩)
  · rintro y rest b s' ⟨hb, hj⟩
    refine wpAny_bind (wpAny_mono (turn y rest s' hj) (fun r s2 h2 => ?_) fun _ _ z => z)
    cases r with
    | true => exact wpAny_bind (wpAny_pure (wpAny_pure (wpAny_pure (by simpa using h2.1 rfl))))
    | false => exact wpAny_pure ⟨rfl, h2.2 rfl⟩
  · rintro ⟨b1, b2⟩ s' ⟨hb, hj⟩
    simp only at hb
    subst hb
    exact wpAny_pure (by simpa using fin s' hj)
end
section
variable {prog : Program} {w : World} {A : Around} {E : Value → Shared → Prop} {s : Shared}
theorem in_tupG {t : Addr} {items : Array Value} {x : Value} {Q : Value → Shared → Prop} (J : List Value → Shared → Prop) (ht : IsTup s.heap t items)
    (turn : ∀ y rest s, J (y :: rest) s → wpAny (model prog w) A.in1 (eqBool y x) (fun r s' => (r = true → Q (.bool true) s') ∧ (r = false → J rest s')) E s)
    (fin : ∀ s, J [] s → Q (.bool false) s) (h : J items.toList s) : wpAny (model prog w) A (compareOp .In x (.ref t)) Q E s := by
  show wpAny _ A (do return .bool (← contains (.ref t) x)) Q E s
  refine wpAny_bind (wpAny_contains_slot ht.typeIs PySem.F.slot_tuple_contains (wpAny_mono (GQ.call_here (Q := fun v s' => ∃ b, v = .bool b ∧ Q (.bool b) s') PySem.F.slot_tuple_contains ht.typeIs PySem.F.entry_tuple_contains (PySem.F.args_tuple_contains_2 _ _) ?_) (fun v s' hv => ?_) fun _ _ e => e))
  · exact tuple_containsG (R := wants (fun v s' => ∃ b, v = .bool b ∧ Q (.bool b) s') E) J ht (fun y rest s hi => wpAny_mono (turn y rest s hi) (fun r s' q => ⟨fun e => ⟨_, rfl, q.1 e⟩, q.2⟩) fun _ _ e => e) (fun s hs => ⟨_, rfl, fin s hs⟩) h
  · obtain ⟨b, rfl, hq⟩ := hv
    exact wpAny_truthy_bool (wpAny_pure hq)
end
end Co
end Bb
set_option Elab.async false
set_option linter.all false
set_option maxRecDepth 100000
set_option maxHeartbeats 2000000
namespace Bb
open PySem PySem.Spec PyProof.Rows L2
open Builtin
section
variable {X : Cx} {CX : CXT} {C f : Addr} {fd : FuncData} {ps : List Str} {sp : Sp} {k : Nat} {E : XK}
/-- one item beside an own instance: what its == answers -/
theorem eq_item (F : FnOk X.prog X.w X.K X.mg X.base CX k f fd ps sp) (hr : Room (k + 1) X.A) (he : PySem.W.findIn X.K (.ref C) "__eq__" = some (some (.ref f))) (hf : PySem.W.isFn X.K (.ref f) = true)
    (hb : Binds X.K fd ps []) (hx : Passes CX X E) {pins : List (Addr × Obj)} {σ : L2.St} {H : Hp} {s : Shared} {a b dx dy : Addr} {fs gs : List (Str × V)} (I : Inv X pins σ H s) (ha : H a = some (.ins C dx fs)) (hbi : H b = some (.ins C dy gs)) (ab : b ≠ a)
    {Q : Bool → Shared → Prop} {W : VK} {T : Value → Shared → Prop} (hsp : sp [.ref b, .ref a] H (fun v H2 => ∃ t, v = .bl t ∧ ∀ s2, Inv X pins σ H2 s2 → Q t s2) E) (hT : T = X.xe ∨ True) : wpAny (model X.prog X.w) X.A.in1 (eqBool (.ref b) (.ref a)) Q X.xe s := by
  have un := hr.units0
  have un2 := hr.units
  refine GQ.eqBool_refG ab ?_
  obtain ⟨mA, J, _⟩ := ins_get I.hok ha
  obtain ⟨od, J, _⟩ := J.look
  obtain ⟨mB, J2, _⟩ := ins_get I.hok hbi
  obtain ⟨od2, J2, _⟩ := J2.look
  obtain ⟨m, hF⟩ := I.fr
  refine PySem.W.cmp_K (op := .Eq) (tb := .ref C) (by show X.A.units + 1 < cLine; omega) hF I.ok.mod.kin J2 J.type (by simp [PySem.W.notFirst]) he hf ?_
  have hl1 := F.len _ _ _ _ hsp
  have bnd := hb s [.ref b, .ref a] I.kIn (by simpa using hl1)
  rw [List.append_nil] at bnd
  refine wpAny_call (codeAny_mono (F.run X.A.in1 X.stack s H ⟨[.ref b, .ref a], []⟩ [.ref b, .ref a] [.ref b, .ref a] _ E hr.in1 I.env0.in1 bnd (.cons rfl (.cons rfl .nil)) hsp) ?_)
  rintro (er | fl) s2 hq
  · exact hx pins σ H s er s2 I hq
  · cases fl with
    | ret w' =>
      obtain ⟨z, H2, I2, rz, t, rfl, q⟩ := I.after hq
      cases rz
      exact ⟨t, rfl, q s2 I2⟩
    | next => exact hq.elim
    | brk => exact hq.elim
    | cont => exact hq.elim
def rInT (X : Cx) (C : Addr) (sp : Sp) (E : XK) : R2 := fun x y H Q => ∃ (a l : Addr) (bs : List Addr) (e : Addr → Bool), x = .ref a ∧ y = .ref l ∧ H l = some (.tup (bs.map V.ref)) ∧ (∃ dx fs, H a = some (.ins C dx fs)) ∧ (∀ b ∈ bs, ∃ dy gs, H b = some (.ins C dy gs)) ∧
  (∀ b ∈ bs, b = a → e b = true) ∧ (∀ b ∈ bs, b ≠ a → ∀ H1, Same H H1 → sp [.ref b, .ref a] H1 (fun v H2 => v = .bl (e b) ∧ Same H1 H2) E) ∧ ∀ H', Same H H' → Q (.bl (bs.any e)) H'
theorem op_inT (F : FnOk X.prog X.w X.K X.mg X.base CX k f fd ps sp) (hr : Room (k + 1) X.A) (he : PySem.W.findIn X.K (.ref C) "__eq__" = some (some (.ref f))) (hf : PySem.W.isFn X.K (.ref f) = true)
    (hb : Binds X.K fd ps []) (hx : Passes CX X E) (mono : ∀ vs H (Q Q' : VK), sp vs H Q E → (∀ v H', Q v H' → Q' v H') → sp vs H Q' E) : OpR X (compareOp .In) (rInT X C sp E) := by
  intro pins s σ H x y v u Q I rx ry h
  obtain ⟨a, l, bs, e, rfl, rfl, hl, ⟨dx, fs, ha⟩, hbs, hid, hsp, q⟩ := h
  cases rx
  cases ry
  obtain ⟨_, its, rv, o, ho, hc, n, hd⟩ := I.hok _ _ hl
  rw [vals_refs rv] at hd
  refine Co.in_tupG (items := (bs.map Value.ref).toArray) (fun rest s' => ∃ cs : List Addr, rest = cs.map Value.ref ∧ (∀ c ∈ cs, c ∈ bs) ∧ bs.any e = cs.any e ∧ ∃ H', Inv X pins σ H' s' ∧ Same H H') ⟨o, ho, hc, n, hd⟩ ?_ ?_ ⟨bs, rfl, fun _ m => m, rfl, H, I, Same.refl H⟩
  · rintro y rest s' ⟨cs, ec, mem, an, H', I', sm⟩
    cases cs with
    | nil => cases ec
    | cons c cs =>
      rw [List.map_cons] at ec
      injection ec with e1 e2
      subst e1
      have mc := mem c List.mem_cons_self
      have step : ∀ (r : Bool) (s2 : Shared) (H2 : Hp), r = e c → Inv X pins σ H2 s2 → Same H H2 → (r = true → EP X pins σ Q (.bool true) s2) ∧ (r = false → ∃ cs : List Addr, rest = cs.map Value.ref ∧ (∀ c ∈ cs, c ∈ bs) ∧ bs.any e = cs.any e ∧ ∃ H', Inv X pins σ H' s2 ∧ Same H H') := by
        intro r s2 H2 er I2 sm2
        refine ⟨fun et => ?_, fun ef => ⟨cs, e2, fun z hz => mem z (List.mem_cons_of_mem _ hz), ?_, H2, I2, sm2⟩⟩
        · have z := q H2 sm2
          rw [an, List.any_cons, ← er, et, Bool.true_or] at z
          exact ⟨.bl true, H2, I2, rfl, z⟩
        · rw [an, List.any_cons, ← er, ef, Bool.false_or]
      by_cases ab : c = a
      · rw [ab]
        exact eqBool_same (step true s' H' (by rw [hid _ mc ab]) I' sm)
      · obtain ⟨dy, gs, hbi⟩ := hbs _ mc
        refine eq_item F hr he hf hb hx I' (sm _ _ ha) (sm _ _ hbi) ab (W := fun _ _ => True) (T := X.xe) (mono _ _ _ _ (hsp _ mc ab H' sm) ?_) (.inl rfl)
        rintro v H2 ⟨rfl, sm2⟩
        exact ⟨e c, rfl, fun s2 I2 => step _ s2 H2 rfl I2 (sm.trans sm2)⟩
  · rintro s' ⟨cs, ec, _, an, H', I', sm⟩
    cases cs with
    | cons c cs => cases ec
    | nil =>
      have z := q H' sm
      rw [an] at z
      exact ⟨.bl false, H', I', rfl, z⟩
end
end Bb
set_option Elab.async false
set_option linter.all false
set_option maxRecDepth 100000
set_option maxHeartbeats 2000000
namespace Bb
open PySem PySem.Spec PyProof.Rows L2
open Builtin
/-! how often a datum stands in a list of objects that read as alike data -/
def rCntR (K : PySem.W.Frag) : V → List V → Hp → VK → Prop := fun x xs H Q => ∃ (p y : Addr) (gs : List (Addr × PyData)) (d : PyData), x = .ref p ∧ xs = [.ref y] ∧ SqL K H p (gs.map fun g => V.ref g.1) ∧ (∀ g ∈ gs, Dp K H (.ref g.1) g.2) ∧ Dp K H (.ref y) d ∧ (∀ g ∈ gs, PySem.W.alike g.2 d = true) ∧ (∀ g ∈ gs, ∀ g' ∈ gs, PySem.W.alike g.2 g'.2 = true) ∧ d.depth ≤ 40 ∧
  Q (.int (gs.countP (fun g => PyData.eqv g.2 d) : Nat)) H
theorem refs_vals : ∀ {gs : List (Addr × PyData)} {us : List Value}, Vals (gs.map fun g => V.ref g.1) us → us = gs.map fun g => Value.ref g.1
  | [], _, h => by
    cases h
    rfl
  | g :: gs, _, h => by
    cases h with
    | cons r1 r2 =>
      cases r1
      rw [refs_vals r2]
      rfl
theorem mt_countR {X : Cx} (hu : X.A.units + 64 < cLine) : MtR X "list.count" (rCntR X.K) := by
  intro pins s σ H x xs v us Q I rx rxs h
  obtain ⟨p, y, gs, d, rfl, rfl, hs, hg, hd, al, al2, dep, q⟩ := h
  cases rx
  obtain ⟨u, rfl, ru⟩ := rxs.one
  cases ru
  obtain ⟨its, rv, ⟨⟨cls, dd, data, sl⟩, n, ho, hc, hdn, hdt⟩, hlen⟩ := I.list hs
  simp only at hc hdt
  subst hc hdt
  rw [refs_vals rv] at ho
  obtain ⟨bs, ry⟩ := Dp.reads I d (.ref y) (.ref y) hd rfl
  have rg : ∀ g ∈ gs, ∃ as, Reads s.heap (.ref g.1) g.2 as := fun g m => Dp.reads I g.2 (.ref g.1) (.ref g.1) (hg g m) rfl
  let e : Value → Bool := fun v => open Classical in decide (∃ g ∈ gs, v = Value.ref g.1 ∧ PyData.eqv g.2 d = true)
  have he : ∀ g ∈ gs, e (.ref g.1) = PyData.eqv g.2 d := by
    intro g m
    cases ev : PyData.eqv g.2 d with
    | true => exact decide_eq_true ⟨g, m, rfl, ev⟩
    | false =>
      refine decide_eq_false ?_
      rintro ⟨g', m', eq, ev'⟩
      obtain ⟨as, r1⟩ := rg g m
      obtain ⟨as', r2⟩ := rg g' m'
      have e1 : g.1 = g'.1 := by
        injection eq
      rw [← e1] at r2
      have e2 := PySem.W.alike_unique g.2 g'.2 _ _ _ (al2 g m g' m') r1 r2
      rw [e2, ev'] at ev
      cases ev
  have cnt : ((gs.map fun g => Value.ref g.1)).countP e = gs.countP (fun g => PyData.eqv g.2 d) := by
    rw [List.countP_map]
    exact List.countP_congr fun g m => by
      show e (.ref g.1) = true ↔ _
      rw [he g m]
  refine call_meets PySem.F.slot_list_count ⟨_, ho, rfl⟩ PySem.F.entry_list_count (PySem.F.args_list_count_2 _ _)
    (SeqAt.list_countAt p (gs.map fun g => Value.ref g.1).toArray n dd sl (.ref y) e) ⟨ho, fun z hz => ?_, ?_⟩
  · have hz' : z ∈ gs.map fun g => Value.ref g.1 := by simpa using hz
    obtain ⟨g, m, rfl⟩ := List.mem_map.mp hz'
    rw [he g m]
    obtain ⟨as, r1⟩ := rg g m
    have hm : min g.2.depth d.depth ≤ d.depth := Nat.min_le_right _ _
    exact PySem.W.eqAt_alike g.2 d X.A.in1 s _ _ as bs r1 ry (al g m) (by show X.A.units + 1 + _ < cLine; omega)
  · refine ⟨.int (gs.countP (fun g => PyData.eqv g.2 d) : Nat), H, I.tok _, ⟨s.toks, ?_⟩, q⟩
    show Value.int ((((gs.map fun g => Value.ref g.1).toArray.toList).countP e : Nat) : Int) s.toks = Value.int ((gs.countP (fun g => PyData.eqv g.2 d) : Nat) : Int) s.toks
    rw [show (gs.map fun g => Value.ref g.1).toArray.toList = gs.map fun g => Value.ref g.1 by simp, cnt]
section
variable {X : Cx} {CX : CXT} {C f : Addr} {fd : FuncData} {ps : List Str} {sp : Sp} {k : Nat} {E : XK}
/-- x in [None, y], x and y own instances, x another object than y -/
theorem op_inNS (F : FnOk X.prog X.w X.K X.mg X.base CX k f fd ps sp) (hr : Room (k + 1) X.A) (he : PySem.W.findIn X.K (.ref C) "__eq__" = some (some (.ref f))) (hf : PySem.W.isFn X.K (.ref f) = true)
    (hno : PySem.W.subIn X.K (.ref C) (.type "NoneType") = some false) (hb : Binds X.K fd ps []) (hx : Passes CX X E) (mono : ∀ vs H (Q Q' : VK), sp vs H Q E → (∀ v H', Q v H' → Q' v H') → sp vs H Q' E) :
    OpR X (compareOp .In) (fun x y H Q => ∃ (a b l dx dy : Addr) (fs gs : List (Str × V)), x = .ref a ∧ y = .ref l ∧ H l = some (.lst [.non, .ref b]) ∧ a ≠ b ∧ H a = some (.ins C dx fs) ∧ H b = some (.ins C dy gs) ∧
      sp [.ref a, .non] H (fun v H' => v = .bl false ∧ H' = H) E ∧ sp [.ref b, .ref a] H (fun v H' => ∃ t, v = .bl t ∧ Q (.bl t) H' ∧ H' l = some (.lst [.non, .ref b])) E) := by
  intro pins s σ H x y v u Q I rx ry h
  obtain ⟨a, b, l, dx, dy, fs, gs, rfl, rfl, hl, hab, ha, hbb, h1, h2⟩ := h
  cases rx
  cases ry
  have its : ∀ (s' : Shared) (H' : Hp), Inv X pins σ H' s' → H' l = some (.lst [.non, .ref b]) → ∃ n, s'.heap.get? l = some { cls := .type "list", data := .seq #[.none, .ref b] n } := by
    intro s' H' I' hl'
    obtain ⟨_, it, n, r, _, e⟩ := I'.lstM hl'
    cases r with
    | cons r1 r2 =>
      cases r2 with
      | cons r3 r4 =>
        cases r4
        cases r1
        cases r3
        exact ⟨n, e⟩
  have un := hr.units0
  have un2 := hr.units
  refine Co.in_listG (items := #[.none, .ref b]) (fun i s' => i ≤ 2 ∧ ((i < 2 ∧ Inv X pins σ H s') ∨ (i = 2 ∧ ∃ H', Inv X pins σ H' s' ∧ Q (.bl false) H' ∧ H' l = some (.lst [.non, .ref b])))) (fun i s' q => ?_) ?_ (fun s' q => ?_) ⟨by decide, .inl ⟨by decide, I⟩⟩
  · rcases q.2 with q | ⟨_, H', I', _, hl'⟩
    · exact its s' H q.2 hl
    · exact its s' H' I' hl'
  · intro i hi s' hs'
    have hi2 : i < 2 := hi
    have I' : Inv X pins σ H s' := by
      rcases hs'.2 with q | ⟨q, _⟩
      · exact q.2
      · omega
    obtain ⟨mA, J, _⟩ := ins_get I'.hok ha
    obtain ⟨od, J, _⟩ := J.look
    have two : i = 0 ∨ i = 1 := by omega
    rcases two with rfl | rfl
    · show wpAny (model X.prog X.w) X.A.in1 (eqBool .none (.ref a)) _ _ s'
      unfold eqBool
      refine wpAny_holding ?_
      refine wpAny_ite_split (fun q => by cases q) (fun _ => ?_)
      refine wpAny_bind (wpAny_mono (Ne.none_eq (Q := fun v s2 => v = .bool false ∧ Inv X pins σ H s2) I'.kIn J (by show X.A.units + 1 < cLine; omega) he hf hno ?_) ?_ fun _ _ e => e)
      · have hl1 := F.len _ _ _ _ h1
        have bnd := hb s' [.ref a, .none] I'.kIn (by simpa using hl1)
        rw [List.append_nil] at bnd
        refine wpAny_call (codeAny_mono (F.run X.A.in1 X.stack s' H ⟨[.ref a, .none], []⟩ [.ref a, .none] [.ref a, .non] _ E hr.in1 I'.env0.in1 bnd (.cons rfl (.cons rfl .nil)) h1) ?_)
        rintro (er | fl) s2 hq
        · exact hx pins σ H s' er s2 I' hq
        · cases fl with
          | ret w' =>
            obtain ⟨z, H2, I2, rz, rfl, rfl⟩ := I'.after hq
            cases rz
            exact ⟨false, rfl, rfl, I2⟩
          | next => exact hq.elim
          | brk => exact hq.elim
          | cont => exact hq.elim
      · rintro v s2 ⟨rfl, I2⟩
        exact wpAny_truthy_bool ⟨fun e => (by cases e), fun _ => ⟨by decide, .inl ⟨by decide, I2⟩⟩⟩
    · show wpAny (model X.prog X.w) X.A.in1 (eqBool (.ref b) (.ref a)) _ _ s'
      refine eq_item F hr he hf hb hx I' ha hbb (Ne.symm hab) (W := fun _ _ => True) (T := X.xe) (mono _ _ _ _ h2 ?_) (.inl rfl)
      rintro v H2 ⟨t, rfl, q, hl2⟩
      refine ⟨t, rfl, fun s2 I2 => ⟨fun et => ?_, fun ef => ⟨Nat.le_refl _, .inr ⟨rfl, H2, I2, ?_, hl2⟩⟩⟩⟩
      · rw [et] at q
        exact ⟨.bl true, H2, I2, rfl, q⟩
      · rw [ef] at q
        exact q
  · rcases q.2 with ⟨q, _⟩ | ⟨_, H', I', q, _⟩
    · exact absurd q (Nat.lt_irrefl 2)
    · exact ⟨.bl false, H', I', rfl, q⟩
end
end Bb
set_option Elab.async false
set_option linter.all false
set_option maxRecDepth 100000
set_option maxHeartbeats 2000000
namespace Bb
open PySem PySem.Spec PyProof.Rows L2 LamX
/-! a lambda with one parameter, called by a built-in; sorted by a key -/
/-- just this object stands at a -/
def Kep (a : Addr) (o : Obj) : HO := .ext fun h => h.get? a = some o
theorem kep_ok {P : Program} {w : World} {H : Hp} {h : Heap} {a : Addr} {o : Obj} (e : h.get? a = some o) : ObjOk P w H h a (Kep a o) := ⟨e, ⟨_, e⟩, fun _ _ p q => q _ p⟩
theorem kep_at {P : Program} {w : World} {H : Hp} {h : Heap} {a : Addr} {o : Obj} (ok : HOk P w H h) (e : H a = some (Kep a o)) : h.get? a = some o := (ok a _ e).1
structure LamP (sc scope : Scope) (x : Str) : Prop where
  kind : scope.kind = .function
  co : scope.isCoroutine = false
  gen : scope.isGenerator = false
  par : scope.names.lookup x = some .local
  own : ∀ y ∈ scope.names, y.2 ≠ .cell ∧ (y.2 = .local → y.1 = x)
  free : ∀ y ∈ scope.names, y.2 = .free → sc.names.lookup y.1 = some .cell ∨ sc.names.lookup y.1 = some .free
def lamPB (sc scope : Scope) (x : Str) : Bool :=
  decide (scope.kind = .function) && (!scope.isCoroutine && (!scope.isGenerator && (decide (scope.names.lookup x = some .local) && scope.names.all fun y => !decide (y.2 = .cell) && ((!decide (y.2 = .local) || decide (y.1 = x)) && (!decide (y.2 = .free) || (decide (sc.names.lookup y.1 = some .cell) || decide (sc.names.lookup y.1 = some .free)))))))
theorem lamP_by {sc scope : Scope} {x : Str} (h : lamPB sc scope x = true) : LamP sc scope x := by
  unfold lamPB at h
  simp only [Bool.and_eq_true, Bool.or_eq_true, Bool.not_eq_true', decide_eq_true_eq, decide_eq_false_iff_not, List.all_eq_true] at h
  obtain ⟨h1, h2, h3, h4, h5⟩ := h
  refine ⟨h1, h2, h3, h4, fun y hy => ⟨(h5 y hy).1, fun e => ?_⟩, fun y hy e => ?_⟩
  · rcases (h5 y hy).2.1 with z | z
    · exact absurd e z
    · exact z
  · rcases (h5 y hy).2.2 with z | z
    · exact absurd e z
    · exact z
theorem LamP.has {X : Cx} {scope : Scope} {x : Str} (L : LamP X.env.scope scope x) (ok : X.Ok) : ∀ y ∈ scope.names, y.2 = .free → ∃ c, X.env.cells.lookup y.1 = some c := fun y hy e => ok.has _ (L.free y hy e)
/-- the context of the lambda's body, called from X -/
def lamCxP (X : Cx) (A : Around) (s : Shared) (H : Hp) (E : XK) (scope : Scope) (x : Str) (f c' : Addr) : Cx := { lamCx X A X.stack s H E scope f c' with N := x :: X.N }
section
variable {X : Cx} {pins : List (Addr × Obj)} {σ : L2.St} {H : Hp} {s : Shared}
theorem lamP_start {A : Around} {E : XK} {scope : Scope} {x : Str} {f c' : Addr} {g : Heap} {tk : Nat} {v : V} {u : Value} (I : Inv X pins σ H s) (L : LamP X.env.scope scope x) (hx : x ∉ X.N) (e0 : Env0 X.prog X.w X.K X.mg X.base A X.stack s H) (hd : A.handled = none) (rv : L2.RelV v u)
    (hns : g.Ns s.heap.objs.size fun y => ([(x, u)] : List (Str × Value)).reverse.lookup y) (kp : ∀ b o, s.heap.get? b = some o → g.get? b = some o) : Inv (lamCxP X A s H E scope x f c') [] (some v :: σ) H { s with heap := g, toks := tk } := by
  have hfree := L.has I.ok
  have cm : ∀ {y c}, (cloFrom X.env.cells scope.names []).lookup y = some c → X.env.cells.lookup y = some c := fun {y c} e => by
    rcases cloFrom_mem (PySem.mem_of_lookup e) with z | ⟨z1, z2⟩
    · cases z
    · obtain ⟨c1, hc⟩ := hfree _ z1 rfl
      have hc2 : X.env.cells.lookup y = some c1 := hc
      have e2 : c = c1 := by rw [z2, hc2] <;> rfl
      rw [e2, hc2]
  have noA : ∀ b : Addr, b ∉ (lamCxP X A s H E scope x f c').ex := fun b z => (nomatch (show b ∈ ([] : List Addr) from z))
  refine ⟨⟨e0.mod, L.kind, rfl, rfl, Nat.le_refl _, fun y z c e1 e2 => I.ok.inj y z c (cm e1) (cm e2), fun y hy => ?_, fun y c z _ => ?_, fun _ => hd, Around.frames_deeper e0.frames, .inr ⟨rfl, rfl⟩, fun b z => (noA b z).elim, e0.bs, e0.bsz, fun b _ _ => noA b,
      fun b z => (noA b z).elim, e0.funs, e0.frf⟩,
    rfl, e0.bare, Un.kept kp, ⟨_, hns, fun i y w e1 e2 e3 => ?_⟩, fun y c e => ?_, e0.hok.fresh (Nat.le_refl _), fun y c e => I.freeC y c (cm e), fun q hq => (nomatch (show q ∈ ([] : List (Addr × Obj)) from hq)), e0.hok.kept kp, ?_⟩
  · have hy : scope.names.lookup y = some .cell ∨ scope.names.lookup y = some .free := hy
    rcases hy with hy | hy
    · exact absurd rfl (L.own _ (PySem.mem_of_lookup hy)).1
    · exact mem_lookup (cloFrom_has (cells := X.env.cells) (acc := []) (PySem.mem_of_lookup hy))
  · cases (show false = true from z)
  · have e1 : (x :: X.N)[i]? = some y := e1
    have e3 : Vis scope y := e3
    cases i with
    | zero =>
      cases e1
      cases e2
      refine ⟨u, rv, .inl ⟨L.par, ?_⟩⟩
      show ([(x, u)] : List (Str × Value)).reverse.lookup x = some u
      simp
    | succ i =>
      have e1 : X.N[i]? = some y := e1
      have e2 : σ[i]? = some (some w) := e2
      rcases e3 with k | k | k
      · have z := (L.own _ (PySem.mem_of_lookup k)).2 rfl
        have z : y = x := z
        rw [z] at e1
        exact absurd (List.mem_of_getElem? e1) hx
      · exact absurd rfl (L.own _ (PySem.mem_of_lookup k)).1
      · obtain ⟨m, hn, hl⟩ := I.loc
        have fr := L.free _ (PySem.mem_of_lookup k) rfl
        have fr : X.env.scope.names.lookup y = some .cell ∨ X.env.scope.names.lookup y = some .free := fr
        obtain ⟨w', r, q⟩ := hl i y w e1 e2 (fr.elim (fun z => .inr (.inl z)) fun z => .inr (.inr z))
        obtain ⟨c2, h2⟩ := mem_lookup (cloFrom_has (cells := X.env.cells) (acc := []) (PySem.mem_of_lookup k))
        refine ⟨w', r, .inr ⟨.inr k, c2, h2, ?_⟩⟩
        rcases q with ⟨k', _⟩ | ⟨_, c3, e', o, ho, hd'⟩
        · have k' : X.env.scope.names.lookup y = some .local := k'
          rcases fr with k2 | k2 <;> rw [k2] at k' <;> cases k'
        · rw [cm h2] at e'
          cases e'
          exact ⟨o, kp _ _ ho, hd'⟩
  · obtain ⟨w', o, ho, hd'⟩ := I.cell y c (cm e)
    exact ⟨w', o, kp _ _ ho, hd'⟩
  · show (some v :: σ).length = (x :: X.N).length
    rw [List.length_cons, List.length_cons, I.len]
/-- the lambda called with one value -/
theorem lamP_call {A : Around} {E : XK} {params : Arguments} {body : Expr} {scope : Scope} {k : Nat} {x : Str} {f c' : Addr} {pm ctv : Value} {tb : TE} {v : V} {u : Value} {Q : VK} (I : Inv X pins σ H s) (L : LamP X.env.scope scope x) (hx : x ∉ X.N)
    (hf : s.heap.get? f = some (PySem.W.kla_obj "<lambda>" (X.env.qual ++ "<lambda>") params body scope (cloFrom X.env.cells scope.names []) pm c' ctv)) (hc : H c' = some (CodeO c' (X.env.qual ++ "<lambda>")))
    (hr : Room (k + 1) A) (e0 : Env0 X.prog X.w X.K X.mg X.base A X.stack s H) (hbind : ∀ (q : Str) (cl : List (Str × Addr)) (pm cv ctv : Value), bindArgs (PySem.W.kla_fn "<lambda>" q params body scope cl pm cv ctv) ⟨[u], []⟩ = pure [(x, u)]) (rv : L2.RelV v u)
    (hbody : Room k (A.deeper (lamEnv X scope s.heap.objs.size f c')) → PE (lamCxP X A s H E scope x f c') body tb) (h : tb (some v :: σ) H Q) :
    codeAny (model X.prog X.w) A (.call (.ref f) ⟨[u], []⟩) (CR (L2.CX X.prog X.w) X.stack X.prog X.w H s Q E) s := by
  obtain ⟨⟨oc, us, t, hoc, hdc, hvc⟩, _, _⟩ := I.hok c' _ hc
  refine PySem.W.kla_callFunE hr.depth hf rfl L.co L.gen rfl ⟨c', oc, us, t, rfl, hoc, hdc, hvc⟩ ?_
  rw [hbind]
  refine wpAny_pure (wpAny_newFunctionEnv (fun y hy => (L.own y hy).1) (fun y hy => ?_) (fun g hns hsb => ⟨I.nolimit.fresh _ hsb, ?_⟩) L.kind)
  · rw [List.mem_singleton.mp hy]
    exact L.par
  · show codeAny _ _ (.expr body (lamEnv X scope s.heap.objs.size f c')) _ _
    have kp : ∀ b o, s.heap.get? b = some o → g.get? b = some o := fun b o z => hsb.extBut b o (Nat.ne_of_lt (Heap.lt_size z)) (Heap.get?_push_of_some _ z)
    have J : Inv (lamCxP X A s H E scope x f c') [] (some v :: σ) H { s with heap := g, toks := s.toks + ([(x, u)] : List (Str × Value)).length } := lamP_start I L hx e0 hr.hd rv hns kp
    refine PySem.W.kla_codeExpr (wpAny_mono ((hbody (hr.deeper _)).run [] _ _ H Q J h) (fun z s' hq => ?_) fun e s' hq => hq)
    obtain ⟨z', H', J', rz, q⟩ := hq
    exact ⟨z', H', J'.os, J'.bare, J'.base, J'.hok, rz, q⟩
/-- the object at kS is forgotten, that at a turned into another -/
theorem step_but {h' : Heap} {tk : Nat} {kS a : Addr} {o1 o2 o3 : Obj} {m : Str → Option Value} (I : Inv X pins σ H s) (hK : H kS = some (Kep kS o1)) (hA : H a = some (Kep a o2)) (hne : kS ≠ a) (hnew : X.s_0.heap.objs.size ≤ kS) (hcell : ∀ v, o1.data ≠ .cell v) (hm : s.heap.Ns X.env.locals m) (hm' : h'.Ns X.env.locals m)
    (kp : ∀ b o, b ≠ X.env.locals → b ≠ kS → b ≠ a → s.heap.get? b = some o → h'.get? b = some o) (ha3 : h'.get? a = some o3) : Inv X pins σ (fun b => if b = kS then none else upd H a (Kep a o3) b) { s with heap := h', toks := tk } := by
  have nL : ∀ b u, H b = some u → b ≠ X.env.locals := fun b u e z => by
    rw [z, I.free] at e
    cases e
  have nA : ∀ b, H b = none → b ≠ a := fun b e z => by
    rw [z, hA] at e
    cases e
  have oth : ∀ b u, H b = some u → (∀ φ, u ≠ .ext φ) → b ≠ kS ∧ b ≠ a := fun b u e n => ⟨fun z => by
    rw [z, hK] at e
    exact n _ (Option.some.inj e).symm, fun z => by
    rw [z, hA] at e
    exact n _ (Option.some.inj e).symm⟩
  have at_ : ∀ b u, H b = some u → (∀ φ, u ≠ .ext φ) → (if b = kS then none else upd H a (Kep a o3) b) = some u := fun b u e n => by
    rw [if_neg (oth b u e n).1, upd_ne (oth b u e n).2]
    exact e
  refine I.step (g' := s.gens) (d' := s.drawn) (ch := [kS]) (fun b hb => ?_) (fun b o h1 h2 h3 e n => kp b o h1 (fun z => h3 (by rw [z]; exact List.mem_singleton.mpr rfl)) (nA b n) e) (fun b o h1 h2 h3 e n => ⟨o.slots, kp b o h1 (fun z => h3 (by rw [z]; exact List.mem_singleton.mpr rfl)) (nA b n) e⟩)
    (fun b o h3 e n => ?_) (fun b o h3 e => ?_) (fun b xs e => at_ b _ e fun φ z => by cases z) (fun b o u e => at_ b _ e fun φ z => by cases z) (fun b ps e => ⟨#[], by rw [at_ b _ e fun φ z => by cases z]; simp⟩) (fun m2 h2 => ?_) (fun b u e => ?_) I.bare
  · rw [List.mem_singleton.mp hb]
    refine ⟨.inr hnew, nL _ _ hK, fun y c e z => ?_, fun p hp z => ?_⟩
    · have n := I.freeC y c e
      rw [z, hK] at n
      cases n
    · have n := (I.pin p hp).2.1
      rw [z, hK] at n
      cases n
  · rw [if_neg fun z => h3 (by rw [z]; exact List.mem_singleton.mpr rfl), upd_ne (nA b n)]
    exact n
  · by_cases hb : b = a
    · rw [hb]
      exact ⟨_, ha3⟩
    · by_cases hL : b = X.env.locals
      · rw [hL]
        obtain ⟨o', es, ep, ho, _⟩ := hm'
        exact ⟨o', ho⟩
      · exact ⟨o, kp b o hL (fun z => h3 (by rw [z]; exact List.mem_singleton.mpr rfl)) hb e⟩
  · rw [h2.eq_nsMap, ← hm.eq_nsMap]
    exact hm'
  · by_cases hb : b = kS
    · rw [if_pos hb] at e
      cases e
    · rw [if_neg hb] at e
      by_cases hb2 : b = a
      · rw [hb2, upd_same] at e
        cases e
        rw [hb2]
        exact kep_ok ha3
      · rw [upd_ne hb2] at e
        refine (I.hok b u e).stay (fun d v hd q => ?_) (fun d q => at_ d _ q fun φ z => by cases z) fun d xs q => at_ d _ q fun φ z => by cases z
        rcases hd with z | z
        · rw [z] at q ⊢
          exact kp b v (nL b u e) hb hb2 q
        · exact kp d v (nL d _ z) (oth d _ z fun φ y => by cases y).1 (oth d _ z fun φ y => by cases y).2 q
end
/-- all objects of a heap but three -/
def restOf (h : Heap) (L kS a : Addr) : List (Addr × Obj) := (List.range h.objs.size).filterMap fun b => if b = L ∨ b = kS ∨ b = a then none else (h.get? b).map fun o => (b, o)
theorem restOf_mem {h : Heap} {L kS a b : Addr} {o : Obj} : (b, o) ∈ restOf h L kS a ↔ (b ≠ L ∧ b ≠ kS ∧ b ≠ a) ∧ h.get? b = some o := by
  unfold restOf
  rw [List.mem_filterMap]
  constructor
  · rintro ⟨c, hc, e⟩
    by_cases z : c = L ∨ c = kS ∨ c = a
    · rw [if_pos z] at e
      cases e
    · rw [if_neg z] at e
      cases q : h.get? c with
      | none =>
        rw [q] at e
        cases e
      | some u =>
        rw [q] at e
        cases e
        exact ⟨⟨fun y => z (.inl y), fun y => z (.inr (.inl y)), fun y => z (.inr (.inr y))⟩, q⟩
  · rintro ⟨⟨h1, h2, h3⟩, e⟩
    refine ⟨b, List.mem_range.mpr (Heap.lt_size e), ?_⟩
    rw [if_neg (by rintro (z | z | z) <;> contradiction), e]
    rfl
theorem empty_get (b : Addr) : ({} : Heap).get? b = none := by
  unfold Heap.get?
  simp
section
variable {X : Cx} {pins : List (Addr × Obj)} {σ : L2.St} {H : Hp} {s : Shared} {A : Around} {kS a : Addr} {b : Bool} {us : List Value} {P : PySem.Fin → Shared → Prop} {E : Value → Shared → Prop} {e e1 : Nat}
/-- the keys are there: sorted by them -/
theorem key_endI {keys : Array Value} {κ : KeyKind} (I : Inv X pins σ H s) (hK : H kS = some (Kep kS (seqObj "list" keys e))) (hA : H a = some (Kep a (seqObj "list" #[] e1))) (hne : kS ≠ a) (hnew : X.s_0.heap.objs.size ≤ kS)
    (S : PySem.W.SortsAt X.prog X.w A s κ keys.toList) (hsz : keys.size = us.length) (hz : us.length ≤ sizeLine)
    (fin : ∀ (h' : Heap) (tk c : Nat), L2.Inv X pins σ (fun d => if d = kS then none else upd H a (Kep a (seqObj "list" (PySem.W.sortVals κ b keys.toList us).toArray c)) d) { s with heap := h', toks := tk } → P (.done (.ret .none)) { s with heap := h', toks := tk }) :
    wpAny (model X.prog X.w) A (ksk_end a b us.toArray e1 (.ref kS) keys) P E s := by
  obtain ⟨m, hm, hl⟩ := I.loc
  have nL : ∀ b u, H b = some u → b ≠ X.env.locals := fun b u e z => by
    rw [z, I.free] at e
    cases e
  have gK := kep_at I.hok hK
  have gA := kep_at I.hok hA
  refine PySem.W.key_end (h₀ := {}) (L := X.env.locals) (m := m) (news := restOf s.heap X.env.locals kS a) (κ := κ) (e := e) ⟨hm, fun c o q => ?_, Nat.zero_le _⟩ (fun p hp => ?_) hne (fun p hp => (restOf_mem.mp (show (p.1, p.2) ∈ _ from hp)).1.2.1) (fun p hp => (restOf_mem.mp (show (p.1, p.2) ∈ _ from hp)).1.2.2) S hsz hz fun h' tk c F N => fin h' tk c ?_
  · rw [empty_get] at q
    cases q
  · rcases List.mem_append.mp hp with hp | hp
    · obtain ⟨z1, z2⟩ := restOf_mem.mp (show (p.1, p.2) ∈ _ from hp)
      exact ⟨z2, z1.1, empty_get _⟩
    · rcases List.mem_cons.mp hp with rfl | hp
      · exact ⟨gK, nL _ _ hK, empty_get _⟩
      · rw [List.mem_singleton.mp hp]
        exact ⟨gA, nL _ _ hA, empty_get _⟩
  · refine step_but I hK hA hne hnew (fun v z => by cases z) hm F.ns (fun d o h1 h2 h3 q => ?_) (N _ (.head _)).1
    exact (N (d, o) (.tail _ (restOf_mem.mpr ⟨⟨h1, h2, h3⟩, q⟩))).1
end
end Bb
set_option Elab.async false
set_option linter.all false
set_option maxRecDepth 100000
set_option maxHeartbeats 2000000
namespace Bb
open PySem PySem.Spec PyProof.Rows L2 LamX
/-! sorted(.., key=lambda x: ..) of a tuple of own instances -/
/-- all stays but what Z names, tables too -/
def SameB (Z : Addr → Prop) (H H' : Hp) : Prop := ∀ b o, H b = some o → ¬ Z b → H' b = some o
theorem SameB.keeps {Z : Addr → Prop} {H H' : Hp} (s : SameB Z H H') : Keeps Z H H' := fun b o e _ n => s b o e n
theorem SameB.trans {Z : Addr → Prop} {H H1 H2 : Hp} (a : SameB Z H H1) (b : SameB Z H1 H2) : SameB Z H H2 := fun c o e n => b c o (a c o e n) n
theorem SameB.of {Z : Addr → Prop} {H H' : Hp} (s : Same H H') : SameB Z H H' := fun b o e _ => s b o e
theorem each_snoc' {α β : Type} {R : α → β → Prop} {x : α} {y : β} (h : R x y) : ∀ {xs : List α} {ys : List β}, PySem.W.EachIs R xs ys → PySem.W.EachIs R (xs ++ [x]) (ys ++ [y])
  | _, _, .nil => .cons h .nil
  | _, _, .cons h1 t => .cons h1 (each_snoc' h t)
section
variable {X : Cx} {pins : List (Addr × Obj)} {σ : L2.St} {H : Hp} {s : Shared} {A : Around} {kS a : Addr} {b : Bool} {us : List Value} {P : PySem.Fin → Shared → Prop} {E : Value → Shared → Prop} {e e1 : Nat} {f : Value} {kz : List PyData}
theorem key_restI (I : L2.Inv X pins σ H s) (hK : H kS = some (Kep kS (seqObj "list" #[] 0))) (hA : H a = some (Kep a (seqObj "list" #[] e1))) (hne : kS ≠ a) (hnew : X.s_0.heap.objs.size ≤ kS)
    (hlen : kz.length = us.length) (hz : us.length ≤ sizeLine) (hal : PySem.W.AllAlike kz) (hsk : PySem.W.Sortable kz) (hu : ∀ d, d ∈ kz → A.units + d.depth < cLine)
    (turn : ∀ (j : Nat) (u : Value) (k : PyData), us[j]? = some u → kz[j]? = some k → ∀ (s' : Shared) (H' : Hp), L2.Inv X pins σ H' s' → SameB (fun c => c = kS) H H' → (∃ φ, H' kS = some (.ext φ)) →
      wpAny (model X.prog X.w) A (call f [u]) (fun w s2 => ∃ kv H2, L2.Inv X pins σ H2 s2 ∧ L2.RelV kv w ∧ Same H' H2 ∧ Da (fun c => c = kS) H2 kv k) (fun _ _ => False) s')
    (fin : ∀ (s' : Shared) (H' : Hp) (out : List Value) (c : Nat), L2.Inv X pins σ H' s' → SameB (fun c => c = kS ∨ c = a) H H' → H' a = some (Kep a (seqObj "list" out.toArray c)) → PySem.W.KeyedOut b kz us out → P (.done (.ret .none)) s') :
    wpAny (model X.prog X.w) A (ksk_rest a f b us.toArray e1 (.ref kS)) P E s := by
  unfold ksk_rest
  refine wpAny_bind (wpAny_rule ?_)
  first
    | rw [List.forIn_toArray]
    | (rw [← Array.forIn_toList]; simp only [List.toList_toArray])
  refine wpAny_bind (ksk_fold (fun i s' => ∃ H' kA e, L2.Inv X pins σ H' s' ∧ SameB (fun c => c = kS) H H' ∧ H' kS = some (Kep kS (seqObj "list" kA e)) ∧ PySem.W.EachIs (fun u k => ∃ v, L2.RelV v u ∧ Da (fun c => c = kS) H' v k) kA.toList (kz.take i)) us 0 s
    ⟨H, #[], 0, I, fun _ _ q _ => q, hK, by rw [List.take_zero]; exact .nil⟩ ?step ?done)
  case step =>
    rintro j x s' hx ⟨H', kA, ep, I', K', hk', each⟩
    simp only [Nat.zero_add] at each ⊢
    have hj : j < us.length := (List.getElem?_eq_some_iff.mp hx).1
    obtain ⟨k, hkj⟩ : ∃ k, kz[j]? = some k := ⟨_, List.getElem?_eq_getElem (by omega)⟩
    have hle : kA.size ≤ us.length := by
      have z := each.length
      rw [Array.length_toList, List.length_take] at z
      omega
    refine wpAny_bind (wpAny_attempt (wpAny_mono (turn j x k hx hkj s' H' I' K' ⟨_, hk'⟩) (fun w s2 q => ?_) fun _ _ z => z.elim))
    obtain ⟨kv, H2, I2, rk, K2, dk⟩ := q
    try dsimp only
    have hk2 := K2 _ _ hk'
    have g2 := kep_at I2.hok hk2
    obtain ⟨c2, hc2⟩ : ∃ c2, (s2.heap.update kS (Obj.mapSeq (·.push w))).get? kS = some (seqObj "list" (kA.push w) c2) := ⟨_, get?_update_seq g2 (·.push w)⟩
    have wr : SameB (fun c => c = kS) H2 (upd H2 kS (Kep kS (seqObj "list" (kA.push w) c2))) := fun c o q n => by
      rw [upd_ne n]
      exact q
    refine wpAny_bind (listUpdate_at g2 rfl ?_ (Nat.le_trans hle hz) (Nat.le_trans (Nat.le_of_eq (Array.size_push ..)) (Nat.succ_le_succ (Nat.le_trans hle hz))))
    refine wpAny_pure ⟨rfl, upd H2 kS (Kep kS (seqObj "list" (kA.push w) c2)), kA.push w, c2, I2.write (x := kS) (e := kS) (t' := s2.toks) (by rw [hk2]; exact trivial) (.inl rfl) (fun c u hc q => (Heap.get?_update_other s2.heap (Obj.mapSeq (·.push w)) (Ne.symm hc)).trans q) ⟨_, hc2⟩ (kep_ok hc2), (K'.trans (.of K2)).trans wr, upd_same, ?_⟩
    have ek : kz.take (j + 1) = kz.take j ++ [k] := by
      rw [List.take_add_one, hkj]
      rfl
    have ea : (kA.push w).toList = kA.toList ++ [w] := by simp
    rw [ea, ek]
    exact each_snoc' ⟨kv, rk, Da.keep wr.keeps k kv dk⟩ (each.mono fun u d ⟨v, r, q⟩ => ⟨v, r, Da.keep ((SameB.of K2).trans wr).keeps d v q⟩)
  case done =>
    rintro s' ⟨H', kA, ep, I', K', hk', each⟩
    have e3 : kz.take (0 + us.length) = kz := List.take_of_length_le (by omega)
    rw [e3] at each
    have rd : PySem.W.EachIs (fun v k => ∃ as, Reads s'.heap v k as) kA.toList kz := each.mono fun u d ⟨v, r, q⟩ => by
      obtain ⟨as, z, _⟩ := Da.reads I' d v u q r
      exact ⟨as, z⟩
    have hsz : kA.size = us.length := by
      have z := each.length
      rw [Array.length_toList] at z
      omega
    have hA' := K' _ _ hA (Ne.symm hne)
    try dsimp only
    refine wpAny_bind (listItems_at (kep_at I'.hok hk') rfl ?_)
    refine key_endI (κ := PySem.W.dataKind s'.heap kz) I' hk' hA' hne hnew (PySem.W.SortsAt.data rd hal hsk hu) hsz hz fun h' tk c I3 => fin _ _ _ c I3 (fun d o q n => ?_) ?_ ⟨s'.heap, kA.toList, hal, rfl, rd⟩
    · rw [if_neg fun z => n (.inl z), upd_ne fun z => n (.inr z)]
      exact K' d o q fun z => n (.inl z)
    · rw [if_neg (Ne.symm hne), upd_same]
theorem key_treeI {n : Nat} (I : L2.Inv X pins σ H s) (hA : H a = some (Kep a (seqObj "list" us.toArray n)))
    (hlen : kz.length = us.length) (hz : us.length ≤ sizeLine) (hal : PySem.W.AllAlike kz) (hsk : PySem.W.Sortable kz) (hu : ∀ d, d ∈ kz → A.units + d.depth < cLine)
    (turn : ∀ (kS : Addr) (j : Nat) (u : Value) (k : PyData), us[j]? = some u → kz[j]? = some k → ∀ (s' : Shared) (H' : Hp), L2.Inv X pins σ H' s' → SameB (fun c => c = a) H H' → (∃ φ, H' kS = some (.ext φ)) →
      wpAny (model X.prog X.w) A (call f [u]) (fun w s2 => ∃ kv H2, L2.Inv X pins σ H2 s2 ∧ L2.RelV kv w ∧ Same H' H2 ∧ Da (fun c => c = kS) H2 kv k) (fun _ _ => False) s')
    (fin : ∀ (s' : Shared) (H' : Hp) (out : List Value) (c : Nat), L2.Inv X pins σ H' s' → SameB (fun c => c = a) H H' → H' a = some (Kep a (seqObj "list" out.toArray c)) → PySem.W.KeyedOut b kz us out → P (.done (.ret .none)) s') :
    wpAny (model X.prog X.w) A (ksk_tree a f b) P E s := by
  have g0 := kep_at I.hok hA
  obtain ⟨ep, g1⟩ : ∃ ep, (s.heap.update a (Obj.mapSeq fun _ => (#[] : Array Value))).get? a = some (seqObj "list" #[] ep) := ⟨_, get?_update_seq g0 fun _ => #[]⟩
  have I1 : L2.Inv X pins σ (upd H a (Kep a (seqObj "list" #[] ep))) { s with heap := s.heap.update a (Obj.mapSeq fun _ => (#[] : Array Value)) } := I.write (x := a) (e := a) (t' := s.toks) (by rw [hA]; exact trivial) (.inl rfl) (fun c u hc q => (Heap.get?_update_other s.heap (Obj.mapSeq fun _ => (#[] : Array Value)) (Ne.symm hc)).trans q) ⟨_, g1⟩ (kep_ok g1)
  have I2 : L2.Inv X pins σ (upd H a (Kep a (seqObj "list" #[] ep))) { s with heap := (s.heap.update a (Obj.mapSeq fun _ => (#[] : Array Value))).push (seqObj "tuple" us.toArray 0) } := I1.kept (t' := s.toks) fun _ _ q => Heap.get?_push_of_some _ q
  have I3 : L2.Inv X pins σ (upd (upd H a (Kep a (seqObj "list" #[] ep))) ((s.heap.update a (Obj.mapSeq fun _ => (#[] : Array Value))).push (seqObj "tuple" us.toArray 0)).objs.size (Kep ((s.heap.update a (Obj.mapSeq fun _ => (#[] : Array Value))).push (seqObj "tuple" us.toArray 0)).objs.size (seqObj "list" #[] 0)))
      { s with heap := ((s.heap.update a (Obj.mapSeq fun _ => (#[] : Array Value))).push (seqObj "tuple" us.toArray 0)).push (seqObj "list" #[] 0) } := I2.laid (t' := s.toks) (fun _ _ q => Heap.get?_push_of_some _ q) (Nat.le_refl _) (kep_ok (Heap.get?_push_size _ rfl))
  obtain ⟨kS, ekS⟩ : ∃ kS, kS = ((s.heap.update a (Obj.mapSeq fun _ => (#[] : Array Value))).push (seqObj "tuple" us.toArray 0)).objs.size := ⟨_, rfl⟩
  have nK : upd H a (Kep a (seqObj "list" #[] ep)) kS = none := by
    rw [ekS]
    exact I2.hok.fresh (Nat.le_refl _)
  have hne : kS ≠ a := fun z => by
    rw [z, upd_same] at nK
    cases nK
  have nK2 : H kS = none := by
    rw [upd_ne hne] at nK
    exact nK
  have hnew : X.s_0.heap.objs.size ≤ kS := by
    rw [ekS]
    exact I2.sz
  have sub : ∀ c o, H c = some o → c ≠ kS := fun c o q z => by
    rw [z, nK2] at q
    cases q
  unfold ksk_tree
  refine wpAny_bind (listItems_at g0 rfl (wpAny_bind (listUpdate_at g0 rfl ?_ (by rw [List.size_toArray]; exact hz) (Nat.zero_le _))))
  refine wpAny_bind (seqEpoch_at g1 rfl (wpAny_bind (wpAny_newTuple ?_ (by show us.length ≤ sizeLine; exact hz))))
  refine wpAny_bind (wpAny_newList (wpAny_holding ?_) (Nat.zero_le _))
  rw [← ekS] at I3
  have st : ∀ H', SameB (fun c => c = kS) (upd (upd H a (Kep a (seqObj "list" #[] ep))) kS (Kep kS (seqObj "list" #[] 0))) H' → SameB (fun c => c = a) H H' := fun H' q c o hc n => q c o (by rw [upd_ne (sub c o hc), upd_ne n]; exact hc) (sub c o hc)
  have key := key_restI (E := E) (P := P) (f := f) (b := b) (us := us) (A := A) I3 upd_same (by rw [upd_ne (Ne.symm hne), upd_same]) hne hnew hlen hz hal hsk hu (fun j u k h1 h2 s' H' I' K' x => turn kS j u k h1 h2 s' H' I' (st H' K') x) fun s' H' out c I' K' h1 h2 => fin s' H' out c I' (fun d o hd n => K' d o (by rw [upd_ne (sub d o hd), upd_ne n]; exact hd) fun z => z.elim (sub d o hd) n) h1 h2
  rw [ekS] at key
  exact key
end
section
variable {X : Cx} {pins : List (Addr × Obj)} {σ : L2.St} {H : Hp} {s : Shared}
theorem vals_of_refs {R : Value → Addr → Prop} (hR : ∀ v c, R v c → v = Value.ref c) : ∀ {us : List Value} {cs : List Addr}, PySem.W.EachIs R us cs → Vals (cs.map V.ref) us
  | _, _, .nil => .nil
  | _, _, .cons h t => .cons (hR _ _ h) (vals_of_refs hR t)
theorem each_self : ∀ bs : List Addr, PySem.W.EachIs (fun v c => v = Value.ref c) (bs.map Value.ref) bs
  | [] => .nil
  | _ :: bs => .cons rfl (each_self bs)
/-- sorted(t, key=f, ..) -/
theorem sorted_keyT {t : Addr} {kw : List (Str × Value)} {f : Value} {b : Bool} {bs : List Addr} {k : Addr → PyData} {Q : VK} (I : L2.Inv X pins σ H s) (ht : SqT X.K H t (bs.map V.ref)) (hal : PySem.W.AllAlike (bs.map k)) (hsk : PySem.W.Sortable (bs.map k)) (hu : ∀ c ∈ bs, X.A.units + 2 + (k c).depth < cLine)
    (ha1 : argsOk "sorted" ⟨[.ref t], kw⟩) (ha2 : ∀ x, argsOk "list.sort" ⟨[.ref x], kw⟩) (htree : ∀ x, Builtin.«list.sort» ⟨[.ref x], kw⟩ = ksk_tree x f b)
    (turn : ∀ c ∈ bs, ∀ (s' : Shared) (H' : Hp), L2.Inv X pins σ H' s' → Same H H' → wpAny (model X.prog X.w) X.A.in1.in1 (call f [.ref c]) (fun w s2 => ∃ kv H2, L2.Inv X pins σ H2 s2 ∧ L2.RelV kv w ∧ Same H' H2 ∧ ∀ z φ, H' z = some (.ext φ) → Da (fun d => d = z) H2 kv (k c)) (fun _ _ => False) s')
    (fin : ∀ (H' : Hp) (p : Addr), Same H H' → H p = none → H' p = some (.lst ((bs.mergeSort (PySem.W.dataLe b k)).map V.ref)) → Q (.ref p) H') :
    wpAny (model X.prog X.w) X.A (call (.builtin "sorted") [.ref t] kw) (EP X pins σ Q) X.xe s := by
  obtain ⟨its, rv, hl, hz⟩ := I.tuple ht
  have ei := vals_refs rv
  subst ei
  have hz' : (bs.map Value.ref).length ≤ sizeLine := by
    rw [List.length_map] at hz ⊢
    exact hz
  refine call_function_entry_kw kind_sorted plain_sorted entry_sorted ha1 ?_
  unfold Builtin.«sorted»
  refine wpAny_bind (m := checkCount "sorted" 1 1 _) (wpAny_pure (wpAny_bind (collect_tup hl hz' (wpAny_bind (wpAny_newList ?_ hz')))))
  obtain ⟨h1, eh1⟩ : ∃ h1, h1 = (s.heap.push (seqObj "list" #[] 0)).update s.heap.objs.size (Obj.mapSeq (· ++ (bs.map Value.ref).toArray)) := ⟨_, rfl⟩
  have n1 : h1.objs.size = s.heap.objs.size + 1 := by
    rw [eh1, Heap.size_update, size_push']
  obtain ⟨a, ea⟩ : ∃ a, a = h1.objs.size := ⟨_, rfl⟩
  have kp : ∀ d o, s.heap.get? d = some o → (h1.push (seqObj "list" (bs.map Value.ref).toArray 0)).get? d = some o := fun d o q => by
    refine Heap.get?_push_of_some _ ?_
    rw [eh1, Heap.get?_update_ne _ _ _ _ (Nat.ne_of_lt (Heap.lt_size q))]
    exact Heap.get?_push_of_some _ q
  have g3 : (h1.push (seqObj "list" (bs.map Value.ref).toArray 0)).get? a = some (seqObj "list" (bs.map Value.ref).toArray 0) := by
    rw [ea]
    exact Heap.get?_push_size _ rfl
  have I1 : L2.Inv X pins σ (upd H a (Kep a (seqObj "list" (bs.map Value.ref).toArray 0))) { s with heap := h1.push (seqObj "list" (bs.map Value.ref).toArray 0) } := I.laid (t' := s.toks) kp (by rw [ea, n1]; exact Nat.le_succ _) (kep_ok g3)
  have nA : H a = none := I.hok.fresh (by rw [ea, n1]; exact Nat.le_succ _)
  have sub : ∀ c o, H c = some o → c ≠ a := fun c o q z => by
    rw [z, nA] at q
    cases q
  rw [← eh1, ← ea]
  refine wpAny_bind (wpAny_holding (wpAny_call_entry_kw slot_list_sort ⟨_, g3, rfl⟩ entry_list_sort ?_ (ha2 _)))
  rw [htree]
  refine key_treeI (kz := bs.map k) I1 upd_same (by rw [List.length_map, List.length_map]) hz' hal hsk (fun d hd => ?_) (fun kS j u kk h1 h2 s' H' I' K' x => ?_) fun s' H' out c I' K' hA' hout => ⟨_, rfl, ?_⟩
  · obtain ⟨c, hc, rfl⟩ := List.mem_map.mp hd
    exact hu c hc
  · rw [List.getElem?_map] at h1 h2
    cases q : bs[j]? with
    | none =>
      rw [q] at h1
      cases h1
    | some c =>
      rw [q] at h1 h2
      cases h1
      cases h2
      obtain ⟨φ, hφ⟩ := x
      refine wpAny_mono (turn c (List.mem_of_getElem? q) s' H' I' fun d o hd => K' d o (by rw [upd_ne (sub d o hd)]; exact hd) (sub d o hd)) (fun w s2 ⟨kv, H2, I2, rk, K2, dk⟩ => ⟨kv, H2, I2, rk, K2, dk kS φ hφ⟩) fun _ _ z => z
  · have ee := PySem.W.keyedOut_each k hout (each_self bs)
    have rv2 : Vals ((bs.mergeSort (PySem.W.dataLe b k)).map V.ref) out := vals_of_refs (fun v c z => z) ee
    have g4 := kep_at I'.hok hA'
    have I4 : L2.Inv X pins σ (upd H' a (.lst ((bs.mergeSort (PySem.W.dataLe b k)).map V.ref))) s' := I'.write (x := a) (e := a) (t' := s'.toks) (by rw [hA']; exact trivial) (.inl rfl) (fun _ _ _ q => q) ⟨_, g4⟩ ⟨by rw [List.length_map, (List.mergeSort_perm _ _).length_eq]; rw [List.length_map] at hz; exact hz, out, c, rv2, g4⟩
    refine wpAny_pure ⟨_, rfl, .ref a, _, I4, rfl, fin _ a (fun d o hd => ?_) nA upd_same⟩
    rw [upd_ne (sub d o hd)]
    exact K' d o (by rw [upd_ne (sub d o hd)]; exact hd) (sub d o hd)
end
end Bb
set_option Elab.async false
set_option linter.all false
set_option maxRecDepth 100000
set_option maxHeartbeats 2000000
namespace Bb
open PySem PySem.Spec PyProof.Rows L2 LamX
/-! sorted(t, key=lambda x: body), the same with reverse=.. -/
def tSortK (K : PySem.W.Frag) (T : List (Addr × Str)) (b : Bool) (to tb : TE) : TE := fun σ H Q => to σ H fun v H1 => Tabs T H1 ∧ ∀ H2, ExtN H1 H2 → Tabs T H2 → ∃ (t : Addr) (bs : List Addr) (k : Addr → PyData), v = .ref t ∧ SqT K H2 t (bs.map V.ref) ∧ PySem.W.AllAlike (bs.map k) ∧ PySem.W.Sortable (bs.map k) ∧ (∀ c ∈ bs, (k c).depth ≤ 20) ∧
  (∀ c ∈ bs, ∀ H3, Same H2 H3 → tb (some (.ref c) :: σ) H3 fun kv H4 => Same H3 H4 ∧ ∀ z φ, H3 z = some (.ext φ) → Da (fun d => d = z) H4 kv (k c)) ∧
  ∀ (H4 : Hp) (p : Addr), Same H2 H4 → Tabs T H4 → H2 p = none → H4 p = some (.lst ((bs.mergeSort (PySem.W.dataLe b k)).map V.ref)) → Q (.ref p) H4
/-- what is asked behind the thing that is sorted -/
def atSortK (K : PySem.W.Frag) (T : List (Addr × Str)) (b : Bool) (tb : TE) (σ : L2.St) (Q : VK) : List V → Hp → Prop
  | [v], H1 => Tabs T H1 ∧ ∀ H2, ExtN H1 H2 → Tabs T H2 → ∃ (t : Addr) (bs : List Addr) (k : Addr → PyData), v = .ref t ∧ SqT K H2 t (bs.map V.ref) ∧ PySem.W.AllAlike (bs.map k) ∧ PySem.W.Sortable (bs.map k) ∧ (∀ c ∈ bs, (k c).depth ≤ 20) ∧
    (∀ c ∈ bs, ∀ H3, Same H2 H3 → tb (some (.ref c) :: σ) H3 fun kv H4 => Same H3 H4 ∧ ∀ z φ, H3 z = some (.ext φ) → Da (fun d => d = z) H4 kv (k c)) ∧
    ∀ (H4 : Hp) (p : Addr), Same H2 H4 → Tabs T H4 → H2 p = none → H4 p = some (.lst ((bs.mergeSort (PySem.W.dataLe b k)).map V.ref)) → Q (.ref p) H4
  | _, _ => False
section
variable {X : Cx}
theorem sort_core {T : List (Addr × Str)} {b : Bool} {c P : Addr} {k : Nat} {x : Str} {params : Arguments} {body : Expr} {scope : Scope} {tb : TE} {lpos : Pos} {pins : List (Addr × Obj)} {s : Shared} {σ : L2.St} {H : Hp} {v : V} {us : List Value} {Q : VK} {kwv : Value → List (Str × Value)}
    (I : L2.Inv X pins σ H s) (r : Vals [v] us) (TB : TabB X.base X.mg c P) (hcode : X.env.code = .ref c) (hmT : (P, X.env.qual ++ "<lambda>") ∈ T) (hu : ∀ p ∈ T, p.1 = P → p.2 = X.env.qual ++ "<lambda>") (hr : Room (k + 3) X.A) (L : LamP X.env.scope scope x) (hx : x ∉ X.N) (hdef : defaultsOf params X.env = ([], []))
    (hbind : ∀ (u : Value) (q : Str) (cl : List (Str × Addr)) (pm cv ctv : Value), bindArgs (PySem.W.kla_fn "<lambda>" q params body scope cl pm cv ctv) ⟨[u], []⟩ = pure [(x, u)])
    (hbody : ∀ (A : Around) (s : Shared) (H : Hp) (f c' : Addr), Room k (A.deeper (lamEnv X scope s.heap.objs.size f c')) → PE (lamCxP X A s H (fun _ _ _ => False) scope x f c') body tb)
    (ha1 : ∀ t f, argsOk "sorted" ⟨[.ref t], kwv (.ref f)⟩) (ha2 : ∀ x f, argsOk "list.sort" ⟨[.ref x], kwv (.ref f)⟩) (htree : ∀ x f, Builtin.«list.sort» ⟨[.ref x], kwv (.ref f)⟩ = ksk_tree x (.ref f) b)
    (h : Tabs T H ∧ ∀ H2, ExtN H H2 → Tabs T H2 → ∃ (t : Addr) (bs : List Addr) (k : Addr → PyData), v = .ref t ∧ SqT X.K H2 t (bs.map V.ref) ∧ PySem.W.AllAlike (bs.map k) ∧ PySem.W.Sortable (bs.map k) ∧ (∀ c ∈ bs, (k c).depth ≤ 20) ∧
      (∀ c ∈ bs, ∀ H3, Same H2 H3 → tb (some (.ref c) :: σ) H3 fun kv H4 => Same H3 H4 ∧ ∀ z φ, H3 z = some (.ext φ) → Da (fun d => d = z) H4 kv (k c)) ∧
      ∀ (H4 : Hp) (p : Addr), Same H2 H4 → Tabs T H4 → H2 p = none → H4 p = some (.lst ((bs.mergeSort (PySem.W.dataLe b k)).map V.ref)) → Q (.ref p) H4)
    {W : Value → Shared → Prop} (hW : ∀ (f : Addr) (s' : Shared), wpAny (model X.prog X.w) X.A (call (.builtin "sorted") us (kwv (.ref f))) (EP X pins σ Q) X.xe s' → W (.ref f) s') :
    wpAny (model X.prog X.w) X.A (eval (.Lambda params body scope lpos) X.env) W X.xe s := by
  obtain ⟨hT, h⟩ := h
  refine lam_make2 I TB hcode hmT hu hT hdef (L.has I.ok) fun f c' pm ctv H2 s2 I2 eN T2 hf hfn hfr hco => hW f s2 ?_
  obtain ⟨t, bs, key, ev, ht, hal, hsk, hdp, hb, fin⟩ := h H2 eN T2
  subst ev
  obtain rfl := Vals.ref1 r
  have nL : f ≠ X.env.locals := fun z => by
    obtain ⟨m, ⟨o, es, ep, ho, hd, _⟩, _⟩ := I2.loc
    rw [← z, hf] at ho
    cases ho
    cases hd
  have nF : f ∉ X.fs := fun z => by
    rcases I2.ok.stk with q | ⟨q, q2⟩
    · rw [q] at hfr
      exact hfr z
    · refine hfr ?_
      rw [q]
      have z' : f ∈ frs X.outer := z
      show f ∈ frs (X.env :: X.outer)
      unfold frs at z' ⊢
      rw [List.filterMap_cons]
      rw [q2]
      exact List.mem_cons_of_mem _ z'
  have I3 : L2.Inv X ((f, PySem.W.kla_obj "<lambda>" (X.env.qual ++ "<lambda>") params body scope (cloFrom X.env.cells scope.names []) pm c' ctv) :: pins) σ H2 s2 := I2.pins_of fun p hp => by
    rcases List.mem_cons.mp hp with rfl | hp
    · exact ⟨hf, hfn, nL, nF, fun v z => by cases z⟩
    · exact I2.pin p (List.mem_append_right _ hp)
  have back : ∀ (u : Value) (s' : Shared), EP X ((f, PySem.W.kla_obj "<lambda>" (X.env.qual ++ "<lambda>") params body scope (cloFrom X.env.cells scope.names []) pm c' ctv) :: pins) σ Q u s' → EP X pins σ Q u s' := fun u s' ⟨w, H', I', r', q⟩ => ⟨w, H', I'.pins_of fun p hp => I'.pin p (List.mem_append_right _ (List.mem_cons_of_mem _ hp)), r', q⟩
  have un := hr.units
  have hr2 : Room (k + 1) X.A.in1.in1 := hr.in1.in1
  refine wpAny_mono (sorted_keyT (b := b) (k := key) I3 ht hal hsk (fun d hd => ?_) (ha1 t f) (fun x => ha2 x f) (fun x => htree x f) (fun d hd s' H' I' sm => ?_) fun H' p sm n e => fin H' p sm (T2.ext sm) n e) back fun _ _ z => z
  · have := hdp d hd
    omega
  · have pf := (I'.pin _ (List.mem_append_right _ List.mem_cons_self)).1
    refine wpAny_call (codeAny_mono (lamP_call (E := fun _ _ _ => False) (tb := tb) (v := .ref d) I' L hx pf (sm _ _ hco) hr2 I'.env0.in1.in1 (hbind _) (rfl : L2.RelV (.ref d) (.ref d)) (fun rm => hbody _ _ _ _ _ rm) (hb d hd H' sm)) ?_)
    rintro (er | fl) s3 hq
    · obtain ⟨_, _, _, _, _, _, _, _, _, _, _, _, z⟩ := hq
      exact z.elim
    · cases fl with
      | ret w =>
        obtain ⟨kv, H4, I4, rk, sm4, dk⟩ := I'.after hq
        exact ⟨kv, H4, I4, rk, sm4, dk⟩
      | next => exact hq.elim
      | brk => exact hq.elim
      | cont => exact hq.elim
variable {T : List (Addr × Str)} {c P : Addr} {k : Nat} {x : Str} {params : Arguments} {body e : Expr} {scope : Scope} {to tb : TE} {p lpos kp pos : Pos}
theorem pe_sortK (hg : Gl X "sorted") (hm : X.mg "sorted" = none) (ho : PE X e to) (TB : TabB X.base X.mg c P) (hcode : X.env.code = .ref c) (hmT : (P, X.env.qual ++ "<lambda>") ∈ T) (hu : ∀ p ∈ T, p.1 = P → p.2 = X.env.qual ++ "<lambda>") (hr : Room (k + 3) X.A) (L : LamP X.env.scope scope x) (hx : x ∉ X.N) (hdef : defaultsOf params X.env = ([], []))
    (hbind : ∀ (u : Value) (q : Str) (cl : List (Str × Addr)) (pm cv ctv : Value), bindArgs (PySem.W.kla_fn "<lambda>" q params body scope cl pm cv ctv) ⟨[u], []⟩ = pure [(x, u)])
    (hbody : ∀ (A : Around) (s : Shared) (H : Hp) (f c' : Addr), Room k (A.deeper (lamEnv X scope s.heap.objs.size f c')) → PE (lamCxP X A s H (fun _ _ _ => False) scope x f c') body tb)
    (hs : starEach [e] X.env = (false, eval e X.env) :: starEach [] X.env := by rfl) (he : backTo pos (starEach [e] X.env) = (false, eval e X.env) :: backTo pos (starEach [] X.env) := by rfl) (hpl : (backTo pos (starEach [e] X.env)).any (·.1) = false := by rfl) :
    PE X (.Call (.Name "sorted" p) [e] [⟨some "key", .Lambda params body scope lpos, kp⟩] pos) (tSortK X.K T false to tb) := by
  refine ⟨fun pins s σ H Q I h => ?_⟩
  refine wpAny_Call_Name_kw (ld_blt I hg hm rfl ?_ (by decide) (by decide))
  refine PyProof.Rows.callWith_kw (thn ((pa_cons ho pa_nil (hs := hs)).run pos pins s σ H (atSortK X.K T false tb σ Q) I h) fun us s1 ⟨vs, H1, I1, r1, q1⟩ => ?_) he hpl (by rfl) (by rfl)
  match vs, r1, q1 with
  | [v], r1, q1 =>
    show wpAny _ _ (evalAll [(do let v ← eval (.Lambda params body scope lpos) X.env; standAt pos; pure v)]) _ _ s1
    refine wpAny_evalAll_cons (wpAny_bind (sort_core (b := false) (kwv := fun f => [("key", f)]) I1 r1 TB hcode hmT hu hr L hx hdef hbind hbody (fun t f => ksk_s1 _ _) (fun x f => ksk_l1 _ _) (fun x f => ksk_t1 _ _) q1 fun f s' hw => wpAny_bind (wpAny_standAt (wpAny_pure (wpAny_evalAll_nil ?_)))))
    exact hw
theorem pe_sortKR {j : Nat} {p2 kp2 : Pos} (hg : Gl X "sorted") (hm : X.mg "sorted" = none) (ho : PE X e to) (TB : TabB X.base X.mg c P) (hcode : X.env.code = .ref c) (hmT : (P, X.env.qual ++ "<lambda>") ∈ T) (hu : ∀ p ∈ T, p.1 = P → p.2 = X.env.qual ++ "<lambda>") (hr : Room (k + 3) X.A) (L : LamP X.env.scope scope x) (hx : x ∉ X.N) (hdef : defaultsOf params X.env = ([], []))
    (hbind : ∀ (u : Value) (q : Str) (cl : List (Str × Addr)) (pm cv ctv : Value), bindArgs (PySem.W.kla_fn "<lambda>" q params body scope cl pm cv ctv) ⟨[u], []⟩ = pure [(x, u)])
    (hbody : ∀ (A : Around) (s : Shared) (H : Hp) (f c' : Addr), Room k (A.deeper (lamEnv X scope s.heap.objs.size f c')) → PE (lamCxP X A s H (fun _ _ _ => False) scope x f c') body tb)
    (hs : starEach [e] X.env = (false, eval e X.env) :: starEach [] X.env := by rfl) (he : backTo pos (starEach [e] X.env) = (false, eval e X.env) :: backTo pos (starEach [] X.env) := by rfl) (hpl : (backTo pos (starEach [e] X.env)).any (·.1) = false := by rfl) :
    PE X (.Call (.Name "sorted" p) [e] [⟨some "key", .Lambda params body scope lpos, kp⟩, ⟨some "reverse", .Constant (.bool true) j p2, kp2⟩] pos) (tSortK X.K T true to tb) := by
  refine ⟨fun pins s σ H Q I h => ?_⟩
  refine wpAny_Call_Name_kw (ld_blt I hg hm rfl ?_ (by decide) (by decide))
  refine PyProof.Rows.callWith_kw (thn ((pa_cons ho pa_nil (hs := hs)).run pos pins s σ H (atSortK X.K T true tb σ Q) I h) fun us s1 ⟨vs, H1, I1, r1, q1⟩ => ?_) he hpl (by rfl) (by rfl)
  match vs, r1, q1 with
  | [v], r1, q1 =>
    show wpAny _ _ (evalAll [(do let v ← eval (.Lambda params body scope lpos) X.env; standAt pos; pure v), (do let v ← eval (.Constant (.bool true) j p2) X.env; standAt pos; pure v)]) _ _ s1
    refine wpAny_evalAll_cons (wpAny_bind (sort_core (b := true) (kwv := fun f => [("key", f), ("reverse", .bool true)]) I1 r1 TB hcode hmT hu hr L hx hdef hbind hbody (fun t f => ksk_s2 _ _ _) (fun x f => ksk_l2 _ _ _) (fun x f => ksk_t2 _ _ _) q1 fun f s' hw => wpAny_bind (wpAny_standAt (wpAny_pure (wpAny_evalAll_cons (wpAny_bind (Constant_bool (wpAny_bind (wpAny_standAt (wpAny_pure (wpAny_evalAll_nil ?_))))))) ))))
    exact hw
end
end Bb
set_option Elab.async false
set_option linter.all false
set_option maxRecDepth 100000
set_option maxHeartbeats 2000000
namespace Bb
open PySem PySem.Spec PyProof.Rows L2 LamX
/-! data compared by <, >; a def whose code object is known; sorted one by one -/
theorem dlt_irrefl (a : PyData) : PySem.W.dataLt a a = false := by
  unfold PySem.W.dataLt
  exact lex_irrefl _
theorem dlt_asym {a b : PyData} (h : PySem.W.dataLt a b = true) : PySem.W.dataLt b a = false := by
  cases e : PySem.W.dataLt b a with
  | false => rfl
  | true =>
    unfold PySem.W.dataLt at h e
    have z := lex_trans _ _ _ h e
    rw [lex_irrefl] at z
    cases z
theorem dlt_eqv {a b : PyData} (al : PySem.W.alike a b = true) (h : PyData.eqv a b = true) : PySem.W.dataLt a b = false ∧ PySem.W.dataLt b a = false := by
  have e := (PySem.W.toks_eqv a b al).1 h
  unfold PySem.W.dataLt
  rw [e]
  exact ⟨lex_irrefl _, lex_irrefl _⟩
theorem dlt_tri {a b : PyData} (al : PySem.W.alike a b = true) (h : PyData.eqv a b = false) : PySem.W.dataLt a b = !PySem.W.dataLt b a := by
  cases e1 : PySem.W.dataLt a b with
  | true => rw [dlt_asym e1]; rfl
  | false =>
    cases e2 : PySem.W.dataLt b a with
    | true => rfl
    | false =>
      unfold PySem.W.dataLt at e1 e2
      have e := lex_total (PySem.W.keyToks a) (PySem.W.keyToks b) (by exact e1) (by exact e2)
      have z := (PySem.W.toks_eqv a b al).2 h [] [Sum.inl 0]
      rw [e, PySem.W.lex_pre, lex_irrefl] at z
      have z2 : true = false := z
      cases z2
/-- alike, or ahead, the one way or the other -/
theorem le_or {a b : PyData} (al : PySem.W.alike a b = true) (bw : Bool) : (PyData.eqv a b || ((PySem.W.dataLt a b && !bw) || (PySem.W.dataLt b a && bw))) = cond bw (!PySem.W.dataLt a b) (!PySem.W.dataLt b a) := by
  cases e : PyData.eqv a b with
  | true =>
    obtain ⟨h1, h2⟩ := dlt_eqv al e
    rw [h1, h2]
    cases bw <;> rfl
  | false =>
    rw [dlt_tri al e]
    cases bw <;> cases PySem.W.dataLt b a <;> rfl
section
variable {X : Cx}
def rLtD (K : PySem.W.Frag) : R2 := fun x y H Q => ∃ d e, Dp K H x d ∧ Dp K H y e ∧ PySem.W.alike d e = true ∧ d ≠ .none ∧ d.depth ≤ 20 ∧ Q (.bl (PySem.W.dataLt d e)) H
def rGtD (K : PySem.W.Frag) : R2 := fun x y H Q => ∃ d e, Dp K H x d ∧ Dp K H y e ∧ PySem.W.alike d e = true ∧ d ≠ .none ∧ d.depth ≤ 20 ∧ Q (.bl (PySem.W.dataLt e d)) H
theorem op_ltD (hu : X.A.units + 64 < cLine) : OpR X (compareOp .Lt) (rLtD X.K) := by
  intro pins s σ H x y v u Q I rx ry h
  obtain ⟨d, e, hd, he, al, nn, dp, q⟩ := h
  obtain ⟨as, r1⟩ := Dp.reads I d x v hd rx
  obtain ⟨bs, r2⟩ := Dp.reads I e y u he ry
  have R := PySem.W.rcLt_alike d e X.A s v u as bs r1 r2 al nn (by omega)
  have z : wpAny (model X.prog X.w) X.A (compareOp .Lt v u) (EP X pins σ Q) X.xe s := R X.prog X.w X.xe (EP X pins σ Q) ⟨.bl _, H, I, rfl, q⟩
  exact z
theorem op_gtD (hu : X.A.units + 64 < cLine) : OpR X (compareOp .Gt) (rGtD X.K) := by
  intro pins s σ H x y v u Q I rx ry h
  obtain ⟨d, e, hd, he, al, nn, dp, q⟩ := h
  obtain ⟨as, r1⟩ := Dp.reads I d x v hd rx
  obtain ⟨bs, r2⟩ := Dp.reads I e y u he ry
  have R := PySem.W.rcGt_alike d e X.A s v u as bs r1 r2 al nn (by omega)
  have z : wpAny (model X.prog X.w) X.A (compareOp .Gt v u) (EP X pins σ Q) X.xe s := R X.prog X.w X.xe (EP X pins σ Q) ⟨.bl _, H, I, rfl, q⟩
  exact z
end
section
variable {P : Program} {w : World} {K : PySem.W.Frag} {mg : Str → Option Value} {base : Heap} {x qual : Str} {params : Arguments} {body : List Stmt} {scope : Scope} {dvs : List V} {kws : List (Str × V)} {f : Addr} {fd : FuncData}
/-- a def whose code object is wanted -/
theorem fnC {CX : CXT} {N ps : List Str} {k : Nat} {sp : Sp} (F : FunD K x qual params body scope dvs kws f fd) (S : FnScope N ps scope) (len : ∀ vs H Q E, sp vs H Q E → vs.length = ps.length)
    (bd : ∀ (cdv : Value) (A : Around) (outer : List Env) (s : Shared) (H : Hp) (vs : List V) (Q : VK) (E : XK), Room k (A.deeper (envOfC qual scope s.heap.objs.size f cdv)) →
      (∀ c, fd.code = .ref c → cdv = .ref c) → sp vs H Q E →
      ∃ t, PSs (cxOf CX P w K mg base N qual scope f cdv A outer s H E) body t ∧ t { nx := fun _ H' => Q .non H', rt := Q } (start N vs) H) : FnOk P w K mg base CX (k + 1) f fd ps sp := by
  obtain ⟨oc, od, dV, kV, doc, pm, an, cdv, ct, osl, rfl, lk, hcd, _, _⟩ := F.ex
  exact fn_of lk hcd S len fun A outer s H vs Q E hr hsp => bd cdv A outer s H vs Q E hr (fun c e => e) hsp
end
/-! each behind all that are alike or go ahead: the list that mergeSort makes -/
section
variable {α : Type} (le : α → α → Bool)
def putB (found : List α) (x : α) : List α := found.take (found.countP fun y => le y x) ++ [x] ++ found.drop (found.countP fun y => le y x)
def isortB (l : List α) : List α := l.foldl (putB le) []
variable {le}
theorem countP_filter (tr : ∀ a b c, le a b = true → le b c = true → le a c = true) {x : α} : ∀ {l : List α}, l.Pairwise (fun a b => le a b = true) → l.take (l.countP fun y => le y x) = l.filter (fun y => le y x) ∧ l.drop (l.countP fun y => le y x) = l.filter (fun y => !le y x)
  | [], _ => by simp
  | a :: l, h => by
    obtain ⟨h1, h2⟩ := List.pairwise_cons.mp h
    obtain ⟨i1, i2⟩ := countP_filter tr (x := x) h2
    by_cases e : le a x = true
    · rw [List.countP_cons_of_pos (by simpa using e), List.take_succ_cons, List.drop_succ_cons, i1, i2, List.filter_cons_of_pos (by simpa using e), List.filter_cons_of_neg (by simp [e])]
      exact ⟨rfl, rfl⟩
    · have none : ∀ y ∈ l, ¬ le y x = true := fun y hy q => e (tr _ _ _ (h1 y hy) q)
      have c0 : (a :: l).countP (fun y => le y x) = 0 := by
        rw [List.countP_eq_zero]
        intro y hy
        rcases List.mem_cons.mp hy with rfl | hy
        · exact e
        · exact none y hy
      rw [c0, List.take_zero, List.drop_zero]
      constructor
      · symm
        rw [List.filter_eq_nil_iff]
        intro y hy
        rcases List.mem_cons.mp hy with rfl | hy
        · exact e
        · exact none y hy
      · symm
        rw [List.filter_eq_self]
        intro y hy
        rcases List.mem_cons.mp hy with rfl | hy
        · simpa using e
        · simpa using none y hy
theorem putB_sorted (tr : ∀ a b c, le a b = true → le b c = true → le a c = true) (tot : ∀ a b, (le a b || le b a) = true) {l : List α} {x : α} (h : l.Pairwise (fun a b => le a b = true)) : (putB le l x).Pairwise (fun a b => le a b = true) := by
  obtain ⟨e1, e2⟩ := countP_filter tr (x := x) h
  unfold putB
  rw [e1, e2, List.append_assoc, List.pairwise_append]
  refine ⟨h.sublist List.filter_sublist, ?_, fun a ha b hb => ?_⟩
  · rw [List.singleton_append, List.pairwise_cons]
    refine ⟨fun b hb => ?_, h.sublist List.filter_sublist⟩
    have z := (List.mem_filter.mp hb).2
    have t := tot b x
    have z2 : le b x = false := by simpa using z
    rw [z2, Bool.false_or] at t
    exact t
  · have ha2 : le a x = true := by simpa using (List.mem_filter.mp ha).2
    rcases List.mem_append.mp hb with q | q
    · rw [List.mem_singleton.mp q]
      exact ha2
    · have z : le b x = false := by simpa using (List.mem_filter.mp q).2
      have t := tot b x
      rw [z, Bool.false_or] at t
      exact tr _ _ _ ha2 t
/-- those that go with y -/
def cls (le : α → α → Bool) (y : α) (l : List α) : List α := l.filter fun x => le x y && le y x
theorem putB_cls (tr : ∀ a b c, le a b = true → le b c = true → le a c = true) {l : List α} {x y : α} (h : l.Pairwise (fun a b => le a b = true)) : cls le y (putB le l x) = cls le y (l ++ [x]) := by
  obtain ⟨e1, e2⟩ := countP_filter tr (x := x) h
  unfold putB cls
  rw [e1, e2, List.filter_append, List.filter_append, List.filter_append, List.filter_filter, List.filter_filter]
  by_cases c : (le x y && le y x) = true
  · obtain ⟨c1, c2⟩ := Bool.and_eq_true_iff.mp c
    have z1 : l.filter (fun a => (le a y && le y a) && le a x) = l.filter (fun a => le a y && le y a) := by
      apply List.filter_congr
      intro a _
      cases q : (le a y && le y a) with
      | false => rfl
      | true =>
        obtain ⟨q1, q2⟩ := Bool.and_eq_true_iff.mp q
        rw [tr _ _ _ q1 c2]
        rfl
    have z2 : l.filter (fun a => (le a y && le y a) && !le a x) = [] := by
      rw [List.filter_eq_nil_iff]
      intro a _ q
      obtain ⟨q1, q2⟩ := Bool.and_eq_true_iff.mp q
      obtain ⟨q3, q4⟩ := Bool.and_eq_true_iff.mp q1
      rw [tr _ _ _ q3 c2] at q2
      cases q2
    rw [z1, z2, List.append_nil]
  · have z0 : [x].filter (fun a => le a y && le y a) = [] := by
      rw [List.filter_eq_nil_iff]
      intro a ha
      rw [List.mem_singleton.mp ha]
      exact c
    rw [z0, List.append_nil, List.append_nil]
    have key : ∀ l : List α, l.Pairwise (fun a b => le a b = true) → l.filter (fun a => (le a y && le y a) && le a x) ++ l.filter (fun a => (le a y && le y a) && !le a x) = l.filter (fun a => le a y && le y a) := by
      intro l h
      obtain ⟨e1, e2⟩ := countP_filter tr (x := x) h
      have f1 : l.filter (fun a => (le a y && le y a) && le a x) = (l.filter (fun a => le a x)).filter (fun a => le a y && le y a) := List.filter_filter.symm
      have f2 : l.filter (fun a => (le a y && le y a) && !le a x) = (l.filter (fun a => !le a x)).filter (fun a => le a y && le y a) := List.filter_filter.symm
      rw [f1, f2, ← List.filter_append, ← e1, ← e2, List.take_append_drop]
    exact key l h
theorem sorted_one : ∀ {l1 l2 : List α}, (∀ a, le a a = true) → l1.Pairwise (fun a b => le a b = true) → l2.Pairwise (fun a b => le a b = true) → (∀ y, cls le y l1 = cls le y l2) → l1 = l2
  | [], [], _, _, _, _ => rfl
  | [], b :: l2, rf, _, _, h => by
    have z := h b
    unfold cls at z
    rw [List.filter_cons_of_pos (by simp [rf b])] at z
    cases z
  | a :: l1, [], rf, _, _, h => by
    have z := h a
    unfold cls at z
    rw [List.filter_cons_of_pos (by simp [rf a])] at z
    cases z
  | a :: l1, b :: l2, rf, h1, h2, h => by
    obtain ⟨p1, q1⟩ := List.pairwise_cons.mp h1
    obtain ⟨p2, q2⟩ := List.pairwise_cons.mp h2
    have ma : a ∈ b :: l2 := by
      have z : a ∈ cls le a (a :: l1) := List.mem_filter.mpr ⟨List.mem_cons_self, by simp [rf a]⟩
      rw [h a] at z
      exact (List.mem_filter.mp z).1
    have mb : b ∈ a :: l1 := by
      have z : b ∈ cls le b (b :: l2) := List.mem_filter.mpr ⟨List.mem_cons_self, by simp [rf b]⟩
      rw [← h b] at z
      exact (List.mem_filter.mp z).1
    have lab : le a b = true := by
      rcases List.mem_cons.mp mb with e | e
      · rw [e]
        exact rf _
      · exact p1 _ e
    have lba : le b a = true := by
      rcases List.mem_cons.mp ma with e | e
      · rw [e]
        exact rf _
      · exact p2 _ e
    have eab : a = b := by
      have z := h a
      unfold cls at z
      rw [List.filter_cons_of_pos (by simp [rf a]), List.filter_cons_of_pos (by simp [lab, lba])] at z
      injection z
    subst eab
    have rest : ∀ y, cls le y l1 = cls le y l2 := by
      intro y
      have z := h y
      unfold cls at z ⊢
      by_cases c : (le a y && le y a) = true
      · rw [List.filter_cons_of_pos (by exact c), List.filter_cons_of_pos (by exact c)] at z
        injection z
      · rw [List.filter_cons_of_neg (by exact c), List.filter_cons_of_neg (by exact c)] at z
        exact z
    rw [sorted_one rf q1 q2 rest]
theorem isortB_snoc (l : List α) (x : α) : isortB le (l ++ [x]) = putB le (isortB le l) x := by
  unfold isortB
  rw [List.foldl_append]
  rfl
theorem isortB_ok (tr : ∀ a b c, le a b = true → le b c = true → le a c = true) (tot : ∀ a b, (le a b || le b a) = true) (l : List α) : (isortB le l).Pairwise (fun a b => le a b = true) ∧ ∀ y, cls le y (isortB le l) = cls le y l := by
  have key : ∀ n, ∀ l : List α, l.length = n → (isortB le l).Pairwise (fun a b => le a b = true) ∧ ∀ y, cls le y (isortB le l) = cls le y l := by
    intro n
    induction n with
    | zero =>
      intro l hl
      rw [List.length_eq_zero_iff.mp hl]
      exact ⟨.nil, fun y => rfl⟩
    | succ n ih =>
      intro l hl
      have ne : l ≠ [] := fun z => by rw [z] at hl; cases hl
      obtain ⟨l', x, e⟩ : ∃ l' x, l = l' ++ [x] := ⟨l.dropLast, l.getLast ne, (List.dropLast_concat_getLast ne).symm⟩
      have hl' : l'.length = n := by
        rw [e, List.length_append, List.length_singleton] at hl
        omega
      obtain ⟨h1, h2⟩ := ih l' hl'
      rw [e, isortB_snoc]
      refine ⟨putB_sorted tr tot h1, fun y => ?_⟩
      rw [putB_cls tr h1]
      have z := h2 y
      unfold cls at z ⊢
      rw [List.filter_append, List.filter_append, z]
  exact key _ l rfl
theorem isortB_eq (tr : ∀ a b c, le a b = true → le b c = true → le a c = true) (tot : ∀ a b, (le a b || le b a) = true) (l : List α) : isortB le l = l.mergeSort le := by
  obtain ⟨h1, h2⟩ := isortB_ok tr tot l
  have rf : ∀ a, le a a = true := fun a => by
    have z := tot a a
    rw [Bool.or_self] at z
    exact z
  refine sorted_one rf h1 (List.pairwise_mergeSort tr tot l) fun y => ?_
  rw [h2 y]
  have p : (cls le y l).Pairwise (fun a b => le a b = true) := by
    rw [List.pairwise_iff_forall_sublist]
    intro a b hab
    have ma := hab.subset (by simp : a ∈ [a, b])
    have mb := hab.subset (by simp : b ∈ [a, b])
    have qa := (List.mem_filter.mp ma).2
    have qb := (List.mem_filter.mp mb).2
    obtain ⟨a1, a2⟩ := Bool.and_eq_true_iff.mp qa
    obtain ⟨b1, b2⟩ := Bool.and_eq_true_iff.mp qb
    exact tr _ _ _ a1 b2
  have s1 : (cls le y l).Sublist (l.mergeSort le) := List.sublist_mergeSort tr tot p List.filter_sublist
  have s2 : (cls le y l).Sublist (cls le y (l.mergeSort le)) := by
    have z := s1.filter (fun x => le x y && le y x)
    have e : (cls le y l).filter (fun x => le x y && le y x) = cls le y l := by
      unfold cls
      rw [List.filter_filter]
      apply List.filter_congr
      intro a _
      rw [Bool.and_self]
    rw [e] at z
    exact z
  refine s2.eq_of_length ?_
  unfold cls
  exact (((List.mergeSort_perm l le).filter _).length_eq).symm
end
theorem dle_trans {β : Type} (b : Bool) (k : β → PyData) : ∀ x y z, PySem.W.dataLe b k x y = true → PySem.W.dataLe b k y z = true → PySem.W.dataLe b k x z = true := by
  intro x y z h1 h2
  have nt : ∀ p q r : PyData, PySem.W.dataLt p r = true → PySem.W.dataLt p q = true ∨ PySem.W.dataLt q r = true := fun p q r e => by
    unfold PySem.W.dataLt at e ⊢
    exact lex_negTrans _ (PySem.W.keyToks q) _ e
  rw [PySem.W.dataLe_eq] at h1 h2 ⊢
  cases b with
  | false =>
    have h1 : PySem.W.dataLt (k y) (k x) = false := by simpa using h1
    have h2 : PySem.W.dataLt (k z) (k y) = false := by simpa using h2
    show (!PySem.W.dataLt (k z) (k x)) = true
    cases e : PySem.W.dataLt (k z) (k x) with
    | false => rfl
    | true =>
      rcases nt _ (k y) _ e with q | q
      · rw [q] at h2; cases h2
      · rw [q] at h1; cases h1
  | true =>
    have h1 : PySem.W.dataLt (k x) (k y) = false := by simpa using h1
    have h2 : PySem.W.dataLt (k y) (k z) = false := by simpa using h2
    show (!PySem.W.dataLt (k x) (k z)) = true
    cases e : PySem.W.dataLt (k x) (k z) with
    | false => rfl
    | true =>
      rcases nt _ (k y) _ e with q | q
      · rw [q] at h1; cases h1
      · rw [q] at h2; cases h2
theorem dle_total {β : Type} (b : Bool) (k : β → PyData) : ∀ x y, (PySem.W.dataLe b k x y || PySem.W.dataLe b k y x) = true := by
  intro x y
  rw [PySem.W.dataLe_eq]
  cases b with
  | false =>
    show ((!PySem.W.dataLt (k y) (k x)) || (!PySem.W.dataLt (k x) (k y))) = true
    cases e : PySem.W.dataLt (k y) (k x) with
    | false => rfl
    | true => rw [dlt_asym e]; rfl
  | true =>
    show ((!PySem.W.dataLt (k x) (k y)) || (!PySem.W.dataLt (k y) (k x))) = true
    cases e : PySem.W.dataLt (k x) (k y) with
    | false => rfl
    | true => rw [dlt_asym e]; rfl
end Bb
set_option Elab.async false
set_option linter.all false
set_option maxRecDepth 100000
set_option maxHeartbeats 2000000
namespace Bb
namespace Co
open PySem PySem.SeqAt PyProof.Rows
open AutoSeq1 (wpAny_loadPart')
open MeetsSeq MeetsSeq2 MeetsSeq3 SeqRoads2
section
variable {prog : Program} {w : World} {A : Around} {R : Result → Shared → Prop}
theorem ne_loopG (p q : Addr) (N : Nat) (J : Nat → Shared → Prop) (hl : GQ.ListI prog w A (fun e s' => R (.error e) s') p q N J)
    (fin : ∀ s, J N s → R (.ok (.ret (.bool false))) s) (k : Nat) :
    ∀ i : Nat, N - i = k → i ≤ N → ∀ s, J i s →
      wpAny (model prog w) A.in1 (Builtin.«list.__eq__.loop» ⟨[.ref p, .ref q, rawInt i, rawInt 3], []⟩) (GQ.FinOf prog w A R) (fun e s' => R (.error e) s') s := by
  induction k with
  | zero =>
    intro i hk hi s h
    obtain ⟨us, vs, n, m, hp1, hq1, hu1, hv1, _⟩ := hl _ _ h
    have ei : i = N := by omega
    have hR : R (.ok (.ret (.bool false))) s := fin s (ei ▸ h)
    obtain ⟨hp, g, d, tk, os⟩ := s
    wp_walk using wpAny_loadPart' hp1, wpAny_loadPart' hq1
    have e1 : us[((i : Nat) : Int).toNat]? = none := by simp; omega
    have e2 : vs[((i : Nat) : Int).toNat]? = none := by simp; omega
    rw [e1, e2]
    wp_walk using wpAny_loadPart' hp1, wpAny_loadPart' hq1
    show R (.ok (.ret (.bool (us.size != vs.size)))) _
    rw [hu1, hv1]
    simpa using hR
  | succ k ih =>
    intro i hk hi s h
    obtain ⟨us, vs, n, m, hp1, hq1, hu1, hv1, turn⟩ := hl _ _ h
    have lt1 : i < us.size := by omega
    have lt2 : i < vs.size := by omega
    have ht := turn lt1 lt2
    obtain ⟨hp, g, d, tk, os⟩ := s
    wp_walk using wpAny_loadPart' hp1, wpAny_loadPart' hq1
    have e1 : us[((i : Nat) : Int).toNat]? = some us[i] := by simp [lt1]
    have e2 : vs[((i : Nat) : Int).toNat]? = some vs[i] := by simp [lt2]
    have ec : ((i : Int) + 1) = ((i + 1 : Nat) : Int) := by omega
    rw [e1, e2]
    refine wpAny_bind (wpAny_mono ht (fun r s2 ⟨hr, h2⟩ => ?_) fun _ _ x => x)
    subst hr
    have rec' := ih (i + 1) (by omega) (by omega) s2 h2
    obtain ⟨hp2, g2, d2, tk2, os2⟩ := s2
    wp_walk
    rw [ec]
    exact ⟨plainId_quiet plain_eq_loop _, codeAny_builtin entry_eq_loop (by rw [Around.under_plainId plain_eq_loop _]; exact rec')⟩
theorem list_neG (p q : Addr) (N : Nat) (J : Nat → Shared → Prop) (hl : GQ.ListI prog w A (fun e s' => R (.error e) s') p q N J)
    (fin : ∀ s, J N s → R (.ok (.ret (.bool false))) s) {s : Shared} (h : J 0 s) :
    wpAny (model prog w) A.in1 (Builtin.«list.__ne__» ⟨[.ref p, .ref q], []⟩) (GQ.FinOf prog w A R) (fun e s' => R (.error e) s') s := by
  obtain ⟨us, vs, n, m, hp1, hq1, hu1, hv1, _⟩ := hl _ _ h
  have rec' := ne_loopG (A := A) (R := R) p q N J hl fin _ 0 rfl (Nat.zero_le _) s h
  obtain ⟨hp, g, d, tk, os⟩ := s
  have f3 := AutoSeq1.sub_list_list
  have hne : ¬ (us.size != vs.size) = true := by simp [hu1, hv1]
  wp_walk using wpAny_loadPart' hp1, wpAny_loadPart' hq1
  exact ⟨plainId_quiet plain_eq_loop _, codeAny_builtin entry_eq_loop (by rw [Around.under_plainId plain_eq_loop _]; exact rec')⟩
end
section
variable {prog : Program} {w : World} {A : Around} {E : Value → Shared → Prop} {s : Shared}
theorem rc_neG {p q : Addr} {N : Nat} {Q : Value → Shared → Prop} (hu : A.units < cLine) (J : Nat → Shared → Prop) (hl : GQ.ListI prog w A E p q N J)
    (fin : ∀ s, J N s → Q (.bool false) s) (h : J 0 s) : wpAny (model prog w) A (richCompare .NotEq (.ref p) (.ref q)) Q E s := by
  obtain ⟨us, vs, n, m, hp1, hq1, _, _, _⟩ := hl _ _ h
  refine wpAny_richCompare_same_room (op := .NotEq) ⟨_, hp1, rfl⟩ ⟨_, hq1, rfl⟩ F.slot_list_ne (GQ.call_here F.slot_list_ne ⟨_, hp1, rfl⟩ F.entry_list_ne (F.args_list_ne_2 _ _) ?_) hu
  exact list_neG (R := wants (fun v s' => v ≠ .notImplemented ∧ Q v s') E) p q N J hl (fun s' z => ⟨(fun x => nomatch x), fin s' z⟩) h
end
end Co
open PySem PySem.Spec PyProof.Rows L2
section
variable {X : Cx} {n : Nat} {D : Eqv}
def rNeLG (D : Eqv) : R2 := fun x y H Q => DList D x y H ∧ ∀ H', Ext H H' → Q (.bl false) H'
/-- xs != ys of lists whose items are equal, each by its own == -/
theorem op_neLG (hD : Mon D) (h : EqG X n D) (hr : Room (n + 1) X.A) : OpR X (compareOp .NotEq) (rNeLG D) := by
  intro pins s σ H x y v u Q I rx ry hq
  obtain ⟨⟨a, b, xs, ys, rfl, rfl, ha, hb, p⟩, q⟩ := hq
  cases rx
  cases ry
  show wpAny (model X.prog X.w) X.A (richCompare .NotEq (.ref a) (.ref b)) (EP X pins σ Q) X.xe s
  refine Co.rc_neG (N := xs.length) hr.units0 (fun _ s' => LoopI X pins σ H s') (fun i s' z => ?_) (fun s' ⟨H', I', e⟩ => ⟨.bl false, H', I', rfl, q H' e⟩) ⟨H, I, Ext.rfl'⟩
  obtain ⟨H1, I1, e1⟩ := id z
  obtain ⟨_, its, k, r, e⟩ := I1.hok a _ (e1 _ _ ha)
  obtain ⟨_, its2, k2, r2, e2⟩ := I1.hok b _ (e1 _ _ hb)
  refine ⟨its.toArray, its2.toArray, k, k2, e, e2, by rw [List.size_toArray, ← r.length], by rw [List.size_toArray, ← r2.length, ← p.1], fun h1 h2 => ?_⟩
  exact turnG hD h (A := X.A) ⟨hr, rfl⟩ p r r2 i h1 h2 s' z
end
end Bb
set_option Elab.async false
set_option linter.all false
set_option maxRecDepth 100000
set_option maxHeartbeats 2000000
namespace Bb
open PySem PySem.Spec PyProof.Rows L2
/-! a, b, .. = a list of that length; numbers as texts and back -/
def gUnl (K : PySem.W.Frag) (n : Nat) (t : TGs) : TG := fun v σ H Q => ∃ a xs, v = .ref a ∧ SqL K H a xs ∧ xs.length = n ∧ t xs σ H Q
section
variable {X : Cx} {pos : Pos}
theorem pg_unl {es : List Expr} {k : Nat} {t : TGs} {n : Nat} (hc : X.calm = true) (h : PGs X es t)
    (hn : (assignEach es X.env).length = n := by rfl) (hst : (assignEach es X.env).findIdx? (·.1) = none := by rfl) : PG X (.Tuple es k pos) (gUnl X.K n t) := by
  refine ⟨fun pins s σ H v u Q I r hw => ?_⟩
  obtain ⟨a, xs, rfl, hq, hl, hw⟩ := hw
  cases r
  obtain ⟨its, rv, ht, hz⟩ := I.list hq
  rw [assign_Tuple]
  refine wpAny_bind (wpAny_standAt ?_)
  unfold unpack
  rw [hst]
  have e : (assignEach es X.env).length = its.toArray.size := by rw [hn, ← hl, rv.length, List.size_toArray]
  rw [e]
  refine wpAny_bind (wpAny_holding (PySem.W.kun_itemsOf (I.ok.hd hc) ht.isList fun h' hx => ?_))
  have I1 : L2.Inv X pins σ H { s with heap := h' } := I.kept (t' := s.toks) fun b o z => hx b o (Nat.ne_of_lt (Heap.lt_size z)) z
  exact h.run pins _ σ H xs _ Q I1 (by simpa using rv) hw
end
open TL NumText
/-- the signs of a whole number -/
def numI (n : Int) : List Nat := if n < 0 then 45 :: numL n.natAbs else numL n.natAbs
abbrev strI (n : Int) : Str := Str.ofString (toString n)
theorem tl_int (n : Int) : tl (strI n) = numI n := by
  unfold numI
  cases n with
  | ofNat m =>
    rw [if_neg (by simp)]
    exact tl_num m
  | negSucc m =>
    rw [if_pos (Int.negSucc_lt_zero m)]
    have e : (toString (Int.negSucc m) : String) = "-" ++ toString ((m + 1 : Nat) : Int) := rfl
    have z := tl_num (m + 1)
    rw [tl_ofString] at z ⊢
    rw [e, String.toList_append, List.map_append, z]
    rfl
theorem numI_ne (n : Int) : numI n ≠ [] := by
  unfold numI
  split
  · exact List.cons_ne_nil _ _
  · exact numL_ne _
theorem numI_free {n : Int} {s : Nat} (h : s < 45 ∨ (45 < s ∧ s < 48) ∨ 57 < s) : s ∉ numI n := by
  unfold numI
  split
  · intro hm
    rcases List.mem_cons.mp hm with e | e
    · omega
    · exact numL_free (by omega) e
  · exact numL_free (by omega)
theorem numI_len {n : Int} {k : Nat} (hk : 0 < k) (h : n.natAbs < 10 ^ k) : (numI n).length ≤ k + 1 := by
  have z := numL_len hk h
  unfold numI
  split
  · rw [List.length_cons]
    omega
  · omega
/-- int(str(n)) is n -/
theorem int_back {n : Int} (h : n.natAbs < 10 ^ 100) : intText? (strI n) = some n := by
  have l := numL_len (by decide) h
  have e := tl_int n
  unfold numI at e
  by_cases c : n < 0
  · rw [if_pos c] at e
    have z := intText_neg (x := strI n) e (numL_digits _) (numL_ne _) (by rw [len_tl, e, List.length_cons]; omega)
    rw [numL_val] at z
    rw [z]
    congr 1
    omega
  · rw [if_neg c] at e
    have z := intText_digits (x := strI n) (by show AllDigits (tl (strI n)); rw [e]; exact numL_digits _) (by show tl (strI n) ≠ []; rw [e]; exact numL_ne _) (by rw [len_tl, e]; omega)
    have z2 : digitsVal (tl (strI n)) = n.natAbs := by rw [e, numL_val]
    have z3 : intText? (strI n) = some ((digitsVal (tl (strI n)) : Nat) : Int) := z
    rw [z3, z2]
    congr 1
    omega
/-- the figures behind a sign -/
theorem figs_int (n : Int) : tl (Txt.removeprefix (strI n) "-") = numL n.natAbs := by
  rw [StrLaws.removeprefix_eq, StrLaws.subAt_eq]
  have e := tl_int n
  have ec : (strI n).cps.toList = numI n := e
  have el : (strI n).length = (numI n).length := by rw [len_tl, e]
  have d1 : (Str.ofString "-").length = 1 := by decide +kernel
  have d2 : (Str.ofString "-").cps.toList = [45] := by decide +kernel
  rw [ec, el, d1, d2, List.drop_zero]
  have ne := numI_ne n
  have pos : 0 < (numI n).length := List.length_pos_iff.mpr ne
  unfold numI at ne pos ⊢
  by_cases c : n < 0
  · rw [if_pos c] at pos ⊢
    rw [decide_eq_true (by omega)]
    rw [if_pos (by simp)]
    show ((List.drop 1 (45 :: numL n.natAbs)).take ((45 :: numL n.natAbs).length - 1)).toArray.toList = _
    simp
  · rw [if_neg c] at pos ⊢
    rw [if_neg ?_]
    · rw [e]
      unfold numI
      rw [if_neg c]
    · intro z
      obtain ⟨_, z⟩ := Bool.and_eq_true_iff.mp z
      have z1 : (numL n.natAbs).take 1 = [45] := by simpa using z
      have m : 45 ∈ numL n.natAbs := List.mem_of_mem_take (by rw [z1]; exact List.mem_singleton.mpr rfl)
      exact numL_free (by omega) m
/-- no nought ahead, but of 0 itself -/
theorem numL_head : ∀ n : Nat, 0 < n → (numL n).head? ≠ some 48 := by
  intro n
  induction n using Nat.strongRecOn with
  | _ n ih =>
    intro h
    by_cases c : n < 10
    · rw [numL_lt c]
      intro z
      have z2 : 48 + n = 48 := by simpa using z
      omega
    · rw [numL_step (by omega)]
      have z := ih (n / 10) (by omega) (by omega)
      cases e : numL (n / 10) with
      | nil => exact absurd e (numL_ne _)
      | cons a l =>
        rw [e] at z
        exact z
end Bb
set_option Elab.async false
set_option linter.all false
set_option maxRecDepth 100000
set_option maxHeartbeats 2000000
namespace Bb
open PySem PySem.Spec PyProof.Rows L2
/-! sorted(list) of alike data of any kind -/
open PySem.W in
theorem each_vals {R : Value → V × PyData → Prop} : ∀ {ps : List (V × PyData)} {us : List Value}, Vals (ps.map (·.1)) us → (∀ p ∈ ps, ∀ u, RelV p.1 u → R u p) → EachIs R us ps
  | [], us, r, _ => by
    cases r
    exact .nil
  | x :: ps, us, r, h => by
    cases r with
    | cons r1 r2 => exact .cons (h x List.mem_cons_self _ r1) (each_vals r2 fun y hy => h y (List.mem_cons_of_mem _ hy))
open PySem.W in
theorem vals_eachV : ∀ {ps : List (V × PyData)} {us : List Value}, EachIs (fun v (p : V × PyData) => RelV p.1 v) us ps → Vals (ps.map (·.1)) us
  | [], _, h => by
    cases h
    exact .nil
  | x :: ps, _, h => by
    cases h with
    | cons h t => exact .cons h (vals_eachV t)
def leV (a b : V × PyData) : Bool := PySem.W.dataLe false (fun p : V × PyData => p.2) a b
def rSortV (K : PySem.W.Frag) : List V → Hp → VK → Prop := fun vs H Q => ∃ (a : Addr) (ps : List (V × PyData)), vs = [V.ref a] ∧ SqL K H a (ps.map (·.1)) ∧ (∀ p ∈ ps, Dp K H p.1 p.2) ∧ PySem.W.AllAlike (ps.map (·.2)) ∧ PySem.W.Sortable (ps.map (·.2)) ∧ (∀ p ∈ ps, p.2.depth ≤ 40) ∧
  ∀ q, H q = none → Q (.ref q) (upd H q (.lst ((ps.mergeSort leV).map (·.1))))
theorem cr_sortedV {X : Cx} (hu : X.A.units + 64 < cLine) : CallR X (.builtin "sorted") (rSortV X.K) := by
  intro pins s σ H vs us Q I r h
  obtain ⟨a, ps, rfl, hs, hd, hal, hk, hdep, q⟩ := h
  obtain ⟨its, rv, hl, hz⟩ := I.list hs
  obtain ⟨u, rfl, ru⟩ := vals1 r
  obtain rfl : u = Value.ref a := ru
  have hz' : ps.length ≤ sizeLine := by rw [List.length_map] at hz; exact hz
  refine PySem.W.sorted_data (R := fun v (p : V × PyData) => RelV p.1 v) (enc := fun p : V × PyData => p.2) (bs := ps) hl.isList (each_vals rv fun _ _ _ z => z) (each_vals rv fun p hp u z => Dp.reads I p.2 p.1 u (hd p hp) z) hal hk hz' (fun p hp => ?_) fun out lo ho => ?_
  · have := hdep p hp
    omega
  · obtain ⟨ep, e⟩ := sortedAll_at s.heap its out.toArray
    refine ⟨.ref _, upd H (s.heap.objs.size + 1) (.lst ((ps.mergeSort leV).map (·.1))), I.laid (t' := s.toks) (fun _ _ => sortedAll_old) (Nat.le_succ _) ⟨?_, out, ep, vals_eachV ho, e⟩, rfl, q _ (I.hok.fresh (Nat.le_succ _))⟩
    rw [List.length_map, (List.mergeSort_perm ps leV).length_eq]
    exact hz'
end Bb
set_option Elab.async false
set_option linter.all false
set_option maxRecDepth 100000
set_option maxHeartbeats 2000000
namespace Bb
namespace Co
open PySem PySem.SeqAt PyProof.Rows
open AutoSeq1 (wpAny_loadPart')
open MeetsSeq MeetsSeq2 MeetsSeq3 SeqRoads2
section
variable {prog : Program} {w : World} {A : Around} {R : Result → Shared → Prop}
/-- xs != [] : no look at any item -/
theorem list_ne0 {p q : Addr} {s : Shared} {us vs : Array Value} {n m : Nat} (hp1 : s.heap.get? p = some { cls := .type "list", data := .seq us n }) (hq1 : s.heap.get? q = some { cls := .type "list", data := .seq vs m }) (h0 : vs.size = 0)
    (fin : R (.ok (.ret (.bool (decide (us.size ≠ 0))))) s) :
    wpAny (model prog w) A.in1 (Builtin.«list.__ne__» ⟨[.ref p, .ref q], []⟩) (GQ.FinOf prog w A R) (fun e s' => R (.error e) s') s := by
  by_cases hu : us.size = 0
  · rw [show decide (us.size ≠ 0) = false from decide_eq_false (fun z => z hu)] at fin
    refine list_neG (R := R) p q 0 (fun _ s' => s' = s) (fun i s' z => ?_) (fun s' z => by rw [z]; exact fin) rfl
    subst z
    exact ⟨us, vs, n, m, hp1, hq1, hu, h0, fun h1 _ => by omega⟩
  · rw [show decide (us.size ≠ 0) = true from decide_eq_true hu] at fin
    obtain ⟨hp, g, d, tk, os⟩ := s
    have f3 := AutoSeq1.sub_list_list
    have hne : (us.size != vs.size) = true := by
      rw [bne_iff_ne]
      omega
    wp_walk using wpAny_loadPart' hp1, wpAny_loadPart' hq1
    exact fin
end
section
variable {prog : Program} {w : World} {A : Around} {E : Value → Shared → Prop} {s : Shared}
theorem rc_ne0 {p q : Addr} {us vs : Array Value} {n m : Nat} {Q : Value → Shared → Prop} (hu : A.units < cLine) (hp1 : s.heap.get? p = some { cls := .type "list", data := .seq us n }) (hq1 : s.heap.get? q = some { cls := .type "list", data := .seq vs m }) (h0 : vs.size = 0)
    (fin : Q (.bool (decide (us.size ≠ 0))) s) : wpAny (model prog w) A (richCompare .NotEq (.ref p) (.ref q)) Q E s := by
  refine wpAny_richCompare_same_room (op := .NotEq) ⟨_, hp1, rfl⟩ ⟨_, hq1, rfl⟩ F.slot_list_ne (GQ.call_here F.slot_list_ne ⟨_, hp1, rfl⟩ F.entry_list_ne (F.args_list_ne_2 _ _) ?_) hu
  exact list_ne0 (R := wants (fun v s' => v ≠ .notImplemented ∧ Q v s') E) hp1 hq1 h0 ⟨(fun x => nomatch x), fin⟩
end
end Co
open PySem PySem.Spec PyProof.Rows L2
section
variable {X : Cx}
def rNe0 : R2 := fun x y H Q => ∃ a b xs, x = .ref a ∧ y = .ref b ∧ H a = some (.lst xs) ∧ H b = some (.lst []) ∧ Q (.bl (!xs.isEmpty)) H
/-- xs != [], whatever the items are -/
theorem op_ne0 (hu : X.A.units + 64 < cLine) : OpR X (compareOp .NotEq) rNe0 := by
  intro pins s σ H x y v u Q I rx ry hq
  obtain ⟨a, b, xs, rfl, rfl, ha, hb, q⟩ := hq
  cases rx
  cases ry
  show wpAny (model X.prog X.w) X.A (richCompare .NotEq (.ref a) (.ref b)) (EP X pins σ Q) X.xe s
  obtain ⟨_, its, k, r, e⟩ := I.hok a _ ha
  obtain ⟨_, its2, k2, r2, e2⟩ := I.hok b _ hb
  have hz : its2.toArray.size = 0 := by
    rw [List.size_toArray, ← r2.length]
    rfl
  refine Co.rc_ne0 (show X.A.units < cLine by omega) e e2 hz ⟨.bl (!xs.isEmpty), H, I, ?_, q⟩
  have e3 : decide (its.toArray.size ≠ 0) = !xs.isEmpty := by
    rw [List.size_toArray, ← r.length]
    cases xs <;> rfl
  rw [e3]
  rfl
end
end Bb
set_option Elab.async false
set_option linter.all false
set_option maxRecDepth 100000
set_option maxHeartbeats 2000000
namespace Bb
open PySem PySem.SeqAt PySem.Spec PyProof.Rows L2
/-! repr of a list of own instances -/
/-- what a special method of one's own is called as, with another last call -/
theorem ifBoundBy_K {A : Around} {E : Value → Shared → Prop} {s : Shared} {K : PySem.W.Frag} {x C f : Addr} {ox : Obj} {od : Option Obj} {name : Str} {M : Model} {last : Value → List Value → Sem Value} {Q : Option Value → Shared → Prop}
    (KI : K.In s.heap) (J : PySem.W.InstAt s.heap x ox C od) (hs : PySem.W.findIn K (.ref C) name = some (some (.ref f))) (hf : PySem.W.isFn K (.ref f) = true)
    (h : wpAny M A (last (.ref f) [.ref x]) (fun v => Q (some v)) E s) : wpAny M A (callSpecialIfBoundBy? last (.ref x) name) Q E s := by
  have ht : PySem.W.typeIn K (.ref f) = some (.type "function") := by
    unfold PySem.W.isFn at hf
    simpa using hf
  unfold callSpecialIfBoundBy?
  refine wpAny_holding ?_
  unfold bindSpecialIfBound?
  refine wpAny_bind (wpAny_bind (wpAny_bind (J.type.here ((PySem.W.looks_findIn KI hs).here ?_))))
  dsimp only
  refine wpAny_bind (wpAny_askSetting ?_)
  split
  · refine wpAny_bind ((PySem.W.bind_fn KI (.ref x) ht).here ?_)
    exact wpAny_pure (wpAny_bind (wpAny_mono h (fun v s' q => wpAny_pure q) fun _ _ z => z))
  · refine wpAny_tryCatch ?_
    refine wpAny_bind ((PySem.W.bind_fn KI (.ref x) ht).here ?_)
    exact wpAny_pure (wpAny_bind (wpAny_mono h (fun v s' q => wpAny_pure q) fun _ _ z => z))
/-- repr of an own instance, under what is under way -/
theorem pyReprUnder_own {prog : Program} {w : World} {A : Around} {E : Value → Shared → Prop} {s : Shared} {K : PySem.W.Frag} {x C f : Addr} {ox : Obj} {od : Option Obj} {base : Nat} {Q : Str → Shared → Prop}
    (hb : base ≤ sizeLine) (hu : A.units < cLine) (KI : K.In s.heap) (J : PySem.W.InstAt s.heap x ox C od) (hs : PySem.W.findIn K (.ref C) "__repr__" = some (some (.ref f))) (hf : PySem.W.isFn K (.ref f) = true)
    (h : wpAny (model prog w) A (call (.ref f) [.ref x]) (fun v s' => ∃ z t, v = .str z t ∧ Q z s') E s) : wpAny (model prog w) A (pyReprUnder base (.ref x)) Q E s := by
  refine wpAny_pyReprUnder_ref hb ?_
  unfold pyReprObjUnder pyReprObjBy
  refine wpAny_bind (m := cRoomFor _ _) (wpAny_cRoomFor hu ?_)
  refine wpAny_bind (wpAny_bind (J.type.here ((PySem.W.looks_findIn KI hs).here ?_)))
  refine wpAny_bind (ifBoundBy_K KI J hs hf ?_)
  refine wpAny_mono h (fun v s' q => ?_) fun _ _ z => z
  obtain ⟨z, t, rfl, q⟩ := q
  refine wpAny_bind (wpAny_isInstance (T := "str") (b := true) rfl isSubtype_str_str ?_)
  exact wpAny_pure ⟨z, t, rfl, q⟩
/-- guards: at objects that are tracked -/
def GOk (g : List Code) (H : Hp) : Prop := ∀ (id : String) (v : Value) (rest : List Value) (kw : List (Str × Value)), Code.builtin id ⟨v :: rest, kw⟩ ∈ g → ∃ x, v = .ref x ∧ H x ≠ none
theorem GOk.nil {H : Hp} : GOk [] H := fun _ _ _ _ h => by cases h
theorem GOk.clear {g : List Code} {H : Hp} {a : Addr} (h : GOk g H) (n : H a = none) : Clear g a := fun id v rest kw m e => by
  obtain ⟨x, rfl, q⟩ := h id v rest kw m
  injection e with e
  rw [e] at q
  exact q n
theorem GOk.same {g : List Code} {H H' : Hp} (h : GOk g H) (s : Same H H') : GOk g H' := fun id v rest kw m => by
  obtain ⟨x, rfl, q⟩ := h id v rest kw m
  refine ⟨x, rfl, fun z => q ?_⟩
  cases e : H x with
  | none => rfl
  | some o =>
    rw [s _ _ e] at z
    cases z
/-- a def that may be run while reprs are under way -/
structure FnL (P : Program) (w : World) (K : PySem.W.Frag) (mg : Str → Option Value) (base : Heap) (CX : CXT) (k : Nat) (f : Addr) (fd : FuncData) (ps : List Str) (sp : Sp) : Prop where
  args : ∀ vs H Q E, sp vs H Q E → vs.length = ps.length
  go : ∀ (g : List Code) (A : Around) (outer : List Env) (s : Shared) (H : Hp) (ar : Args) (us : List Value) (vs : List V) (Q : VK) (E : XK), A.guards = some g → GOk g H → Room k A → Env0 P w K mg base A outer s H → BindsTo s fd ar (ps.zip us) → Vals vs us → sp vs H Q E →
    codeAny (model P w) A (.call (.ref f) ar) (CR CX outer P w H s Q E) s
section
variable {P : Program} {w : World} {K : PySem.W.Frag} {mg : Str → Option Value} {base : Heap} {x qual : Str} {params : Arguments} {body : List Stmt} {scope : Scope} {dvs : List V} {kws : List (Str × V)} {f : Addr} {fd : FuncData}
theorem fnL {CX : CXT} {N ps : List Str} {k : Nat} {sp : Sp} (F : FunD K x qual params body scope dvs kws f fd) (S : FnScope N ps scope) (len : ∀ vs H Q E, sp vs H Q E → vs.length = ps.length)
    (bd : ∀ (g : List Code) (cdv : Value) (A : Around) (outer : List Env) (s : Shared) (H : Hp) (vs : List V) (Q : VK) (E : XK), A.guards = some g → GOk g H → Room k (A.deeper (envOfC qual scope s.heap.objs.size f cdv)) →
      sp vs H Q E → ∃ t, PSs (cxOf CX P w K mg base N qual scope f cdv A outer s H E) body t ∧ t { nx := fun _ H' => Q .non H', rt := Q } (start N vs) H) : FnL P w K mg base CX (k + 1) f fd ps sp := by
  obtain ⟨oc, od, dV, kV, doc, pm, an, cdv, ct, osl, rfl, lk, hcd, _, _⟩ := F.ex
  refine ⟨len, fun g A outer s H ar us vs Q E gd gk room env bnd vals h => ?_⟩
  exact LamX.run_ofS (N := N) lk hcd S room env bnd vals (len _ _ _ _ h) fun room' => bd g cdv A outer s H vs Q E gd gk room' h
theorem fnL_of {CX : CXT} {k : Nat} {ps : List Str} {sp : Sp} (F : FnOk P w K mg base CX k f fd ps sp) : FnL P w K mg base CX k f fd ps sp :=
  ⟨F.len, fun g A outer s H ar us vs Q E _ _ room env b v q => F.run A outer s H ar us vs Q E room env b v q⟩
theorem FnL.g {CX : CXT} {k : Nat} {ps : List Str} {sp : Sp} (F : FnL P w K mg base CX k f fd ps sp) : FnG P w K mg base CX k f fd ps sp :=
  ⟨F.args, fun A outer s H ar us vs Q E gd room env b v q => F.go [] A outer s H ar us vs Q E gd GOk.nil room env b v q⟩
end
/-! {t!r} of a tuple of texts and numbers -/
def AtomT : V → Str → Prop := fun v z => (∃ x : Str, v = .str x ∧ z = reprText x ∧ (reprText x).length ≤ sizeLine) ∨ (∃ i : Int, v = .int i ∧ z = Str.ofString (toString i) ∧ i.natAbs.log2 < 1920)
def AtomsT : List V → List Str → Prop
  | [], [] => True
  | v :: vs, z :: zs => AtomT v z ∧ AtomsT vs zs
  | _, _ => False
theorem atoms_repr {prog : Program} {w : World} {as : List Addr} {h₀ : Heap} {d : Nat} : ∀ {xs : List V} {zs : List Str} {us : List Value}, AtomsT xs zs → Vals xs us → ReprAllK prog w as h₀ d us zs
  | [], [], _, _, r => by
    cases r
    exact .nil
  | v :: vs, z :: zs, _, h, r => by
    cases r with
    | cons r1 r2 =>
      refine .cons ?_ (atoms_repr h.2 r2)
      rcases h.1 with ⟨x, rfl, rfl, l⟩ | ⟨i, rfl, rfl, l⟩
      · obtain ⟨t, rfl⟩ := r1
        exact ReprK.of_is (ReprIs.str x t l) _ _ _
      · obtain ⟨t, rfl⟩ := r1
        exact ReprK.of_is (ReprIs.int t l) _ _ _
  | [], _ :: _, _, h, _ => h.elim
  | _ :: _, [], _, h, _ => h.elim
section
variable {X : Cx}
def tFmtT (g : List Code) (te : TE) : TE := fun σ H Q => te σ H fun x H1 => ∃ (a : Addr) (xs : List V) (zs : List Str), x = .ref a ∧ H1 a = some (.tup xs) ∧ Clear g a ∧ AtomsT xs zs ∧ (tupleText zs).length ≤ sizeLine ∧ Q (.str (tupleText zs)) H1
theorem pe_fmtT {g : List Code} {e : Expr} {te : TE} {pos : Pos} (hg : X.A.guards = some g) (hu : X.A.units + 64 < cLine) (he : PE X e te) : PE X (.FormattedValue e 114 none pos) (tFmtT g te) := by
  refine ⟨fun pins s σ H Q I h => ?_⟩
  refine wpAny_FormattedValue_repr (thn (he.run pins s σ H _ I h) fun v s1 hv => ?_)
  obtain ⟨x, H1, I1, r1, a, xs, zs, rfl, ha, cl, at_, hz, q⟩ := hv
  cases r1
  obtain ⟨_, its, r, o, e1, e2, n, e3⟩ := I1.hok a _ ha
  refine wpAny_pyReprObj_tupleK (as := []) (d := 0) (g := g) e1 e2 e3 (fun z => by cases z) (atoms_repr at_ (by simpa using r)) hg (fun b hb => ?_) (by omega) (fun _ _ e => e) (fun h' u tk k => ?_) hz
  · rw [List.mem_singleton.mp hb]
    exact cl
  · exact wpAny_formatField_str ⟨.str _, H1, (I1.kept k), ⟨_, rfl⟩, q⟩ ⟨.str _, H1, ((I1.kept (t' := tk) k).tok _), ⟨_, rfl⟩, q⟩ hz
end
/-! the loop -/
theorem under_room {k : Nat} {A : Around} {args : Args} (h : Room (k + 1) A) : Room k (A.under (.builtin "list.__repr__.loop" args)) := by
  obtain ⟨h1, h2, h3⟩ := h
  refine ⟨h1, ?_, ?_⟩
  · show A.depth + (Code.builtin "list.__repr__.loop" args).weight + 3 * k + 5 < recursionLimit
    have : (Code.builtin "list.__repr__.loop" args).weight ≤ 3 := by
      rw [show (Code.builtin "list.__repr__.loop" args).weight = 1 from rfl]
      decide
    omega
  · show A.units + (Code.builtin "list.__repr__.loop" args).cUnits + 16 * k + 200 < cLine
    have : (Code.builtin "list.__repr__.loop" args).cUnits ≤ 16 := by
      rw [show (Code.builtin "list.__repr__.loop" args).cUnits = 1 from rfl]
      decide
    omega
section
variable {X : Cx} {pins : List (Addr × Obj)} {σ : L2.St} {CX : CXT} {C f a P : Addr} {fd : FuncData} {ps : List Str} {sp : Sp} {k : Nat} {E : XK} {A : Around} {R : Result → Shared → Prop} {H : Hp} {bs : List Addr} {zs : List Str} {base : Nat}
/-- each of the objects is shown as its text -/
def Turns (C : Addr) (sp : Sp) (E : XK) (H : Hp) (bs : List Addr) (zs : List Str) : Prop := bs.length = zs.length ∧ ∀ (i : Nat) (b : Addr) (z : Str), bs[i]? = some b → zs[i]? = some z → (∃ dx fs, H b = some (.ins C dx fs)) ∧ ∀ H', Same H H' → sp [.ref b] H' (fun v H'' => v = .str z ∧ Same H' H'') E
theorem vals_refsE : ∀ {bs : List Addr} {us : List Value}, Vals (bs.map V.ref) us → us = bs.map Value.ref
  | [], _, r => by
    cases r
    rfl
  | b :: bs, _, r => by
    cases r with
    | cons r1 r2 =>
      cases r1
      rw [vals_refsE r2]
      rfl
theorem repr_loopI (nP : H P = none) (F : FnL X.prog X.w X.K X.mg X.base CX k f fd ps sp) (hA : Room (k + 1) A) (fr : A.frames = X.A.frames) (gd : A.guards = some []) (hs : PySem.W.findIn X.K (.ref C) "__repr__" = some (some (.ref f))) (hf : PySem.W.isFn X.K (.ref f) = true)
    (hb : Binds X.K fd ps []) (hx : ∀ (H1 : Hp) (s1 : Shared) (er : Value) (s' : Shared), Inv X pins σ H1 s1 → CX X.stack H1 s1 E er s' → R (.error er) s')
    (ha : H a = some (.lst (bs.map V.ref))) (hT : Turns C sp E H bs zs) (hz : base + (listText zs).length ≤ sizeLine) (hbz : bs.length ≤ 1000)
    (fin : ∀ (s' : Shared) (H' : Hp) (t : Tok), Inv X pins σ H' s' → Same H H' → R (.ok (.ret (.str (listText zs) t))) s') :
    ∀ (n i : Nat) (s : Shared) (H1 : Hp) (acc : Array Value) (e : Nat) (done : List (Str × Tok)), zs.length - i = n → i ≤ zs.length → Inv X pins σ H1 s → Same H H1 → H1 P = some (Kep P (seqObj "list" acc e)) → acc.toList = strValues done → done.map (·.1) = zs.take i →
      codeAny (model X.prog X.w) A (.builtin "list.__repr__.loop" ⟨[.ref a, rawInt i, .ref P, rawInt ((base + piled (zs.take i) : Nat) : Int)], []⟩) R s := by
  intro n
  induction n with
  | zero =>
    intro i s H1 acc e done hn hi I s1 hP ea ed
    have ei : i = zs.length := by omega
    subst ei
    obtain ⟨_, its, m, r, e1⟩ := I.hok a _ (s1 _ _ ha)
    have gP := kep_at I.hok hP
    have li : its.length = zs.length := by
      rw [← r.length, List.length_map, hT.1]
    refine codeAny_builtin PySem.F.entry_list_repr_loop ?_
    obtain ⟨hp, g, d, tk, os⟩ := s
    wp_walk using AutoSeq1.wpAny_loadPart' e1, AutoSeq1.wpAny_loadPart' gP
    rw [show its.toArray[((zs.length : Nat) : Int).toNat]? = none by simp; omega]
    wp_walk using AutoSeq1.wpAny_loadPart' gP
    have rf := repr_fold done 0 (Str.ofString "[")
    rw [← ea, ed, List.take_length] at rf
    show wpAny (model X.prog X.w) _ (forIn acc.toList.zipIdx (Str.ofString "[") reprBody) _ _ _
    rw [rf]
    wp_walk
    rw [if_neg (show ¬ (textFrom 0 (Str.ofString "[") zs ++ Str.ofString "]").length > sizeLine from fun q => by
      have q2 : (listText zs).length > sizeLine := q
      omega)]
    wp_walk
    exact fin _ H1 _ (I.tok _) s1
  | succ n ih =>
    intro i s H1 acc e done hn hi I s1 hP ea ed
    obtain ⟨_, its, m, r, e1⟩ := I.hok a _ (s1 _ _ ha)
    have gP := kep_at I.hok hP
    have li : its.length = zs.length := by
      rw [← r.length, List.length_map, hT.1]
    have il : i < zs.length := by omega
    have ils : i < bs.length := by
      rw [hT.1]
      exact il
    obtain ⟨b, eb⟩ : ∃ b, bs[i]? = some b := ⟨_, List.getElem?_eq_getElem ils⟩
    obtain ⟨z, ez⟩ : ∃ z, zs[i]? = some z := ⟨_, List.getElem?_eq_getElem il⟩
    have eit : its[i]? = some (Value.ref b) := by
      rw [vals_refsE r, List.getElem?_map, eb]
      rfl
    obtain ⟨⟨dx, fs, hb0⟩, hsp⟩ := hT.2 i b z eb ez
    obtain ⟨mA, J, _⟩ := ins_get I.hok (s1 _ _ hb0)
    obtain ⟨od, J, _⟩ := J.look
    have pz := piled_take_succ ez
    have pl := piled_take_le zs (i + 1)
    have pl2 := piled_le_listText zs
    obtain ⟨c, ec⟩ : ∃ c, c = Code.builtin "list.__repr__.loop" ⟨[.ref a, rawInt i, .ref P, rawInt ((base + piled (zs.take i) : Nat) : Int)], []⟩ := ⟨_, rfl⟩
    have room : Room k (A.under c) := by
      rw [ec]
      exact under_room hA
    have gds : (A.under c).guards = some [c] := by
      show pushGuards c.guards A.guards = _
      rw [gd, ec]
      rfl
    have frs' : (A.under c).frames = some X.stack := by
      show pushEnvs c.envs A.frames = _
      rw [fr, ec]
      exact I.env0.frames
    have gk : GOk [c] H1 := by
      intro id v rest kw hm
      have q := List.mem_singleton.mp hm
      rw [ec] at q
      injection q with q1 q2
      injection q2 with q3 q4
      injection q3 with q5 q6
      refine ⟨a, q5, fun z => ?_⟩
      rw [s1 _ _ ha] at z
      cases z
    refine codeAny_builtin PySem.F.entry_list_repr_loop ?_
    rw [← ec]
    have env : Env0 X.prog X.w X.K X.mg X.base (A.under c) X.stack s H1 := { I.env0 with frames := frs' }
    have KI := I.kIn
    have un := room.un
    have hl := F.args _ _ _ _ (hsp H1 s1)
    have bnd := hb s [.ref b] I.kIn (by simpa using hl)
    rw [List.append_nil] at bnd
    have cal := F.go [c] (A.under c) X.stack s H1 ⟨[.ref b], []⟩ [.ref b] [.ref b] _ E gds gk room env bnd (.cons rfl .nil) (hsp H1 s1)
    have bz : base + piled (zs.take i) + 1 ≤ sizeLine := by omega
    have lz : z.length ≤ sizeLine := by omega
    wp_walk using AutoSeq1.wpAny_loadPart' e1
    rw [show its.toArray[((i : Nat) : Int).toNat]? = some (Value.ref b) by simpa using eit]
    refine wpAny_bind (wpAny_holding (pyReprUnder_own (by rw [Int.toNat_natCast]; exact bz) (by omega) KI J hs hf (wpAny_call (codeAny_mono cal ?_))))
    rintro (er | fl) s' hq
    · exact hx H1 _ er s' I hq
    · cases fl with
      | ret w' =>
        obtain ⟨v, H2, I2, rv, rfl, s2⟩ := I.after hq
        obtain ⟨t, rfl⟩ := rv
        refine ⟨z, t, rfl, ?_⟩
        have hP2 := s2 _ _ hP
        have gP2 := kep_at I2.hok hP2
        have la : acc.size ≤ 1000 := by
          have q := congrArg List.length ed
          have q2 := congrArg List.length ea
          rw [List.length_map, List.length_take] at q
          unfold strValues at q2
          rw [Array.length_toList, List.length_map] at q2
          omega
        have sz := sizeLine_eq
        refine wpAny_bind (wpAny_mkStr ?_ lz)
        refine wpAny_bind (listUpdate_at (s := { s' with toks := s'.toks + 1 }) (o := seqObj "list" acc e) gP2 rfl ?_ (by omega) (by rw [Array.size_push]; omega))
        obtain ⟨c2, hc2⟩ : ∃ c2, (s'.heap.update P (Obj.mapSeq (·.push (.str z s'.toks)))).get? P = some (seqObj "list" (acc.push (.str z s'.toks)) c2) := ⟨_, get?_update_seq gP2 (·.push (.str z s'.toks))⟩
        have I3 := I2.tok (s'.toks + 1)
        have I4 : Inv X pins σ (upd H2 P (Kep P (seqObj "list" (acc.push (.str z s'.toks)) c2))) { s' with heap := s'.heap.update P (Obj.mapSeq (·.push (.str z s'.toks))), toks := s'.toks + 1 } :=
          I3.write (x := P) (e := P) (t' := s'.toks + 1) (by rw [hP2]; exact trivial) (.inl rfl) (fun c u hc q => (Heap.get?_update_other s'.heap (Obj.mapSeq (·.push (.str z s'.toks))) (Ne.symm hc)).trans q) ⟨_, hc2⟩ (kep_ok hc2)
        have s4 : Same H (upd H2 P (Kep P (seqObj "list" (acc.push (.str z s'.toks)) c2))) := fun b o q => by
          rw [upd_ne (ne_of_none q nP)]
          exact s2 _ _ (s1 _ _ q)
        have nxt := ih (i + 1) _ _ _ _ (done ++ [(z, s'.toks)]) (by omega) (by omega) I4 s4 upd_same (by rw [Array.toList_push, ea]; unfold strValues; rw [List.map_append]; rfl) (by rw [List.map_append, ed, List.take_add_one, ez]; rfl)
        have e5 : ((((base + piled (zs.take i) : Nat) : Int).toNat + (z.length + 2) : Nat) : Int) = ((base + piled (zs.take (i + 1)) : Nat) : Int) := by
          rw [pz, Int.toNat_natCast]
          omega
        have e6 : ((i : Int) + 1) = ((i + 1 : Nat) : Int) := by omega
        refine wpAny_pure ⟨PySem.F.quiet_list_repr_loop _, ?_⟩
        rw [e6]
        show codeAny (model X.prog X.w) A (.builtin "list.__repr__.loop" ⟨[.ref a, rawInt ((i + 1 : Nat) : Int), .ref P, rawInt ((((base + piled (zs.take i) : Nat) : Int).toNat + (z.length + 2) : Nat) : Int)], []⟩) R _
        rw [e5]
        exact nxt
      | next => exact hq.elim
      | brk => exact hq.elim
      | cont => exact hq.elim
end
section
variable {X : Cx} {CX : CXT} {C f : Addr} {fd : FuncData} {ps : List Str} {sp : Sp} {k : Nat} {E : XK}
def rReprLO (C : Addr) (sp : Sp) (E : XK) : List V → Hp → VK → Prop := fun xs H Q => ∃ (a : Addr) (bs : List Addr) (zs : List Str), xs = [.ref a] ∧ H a = some (.lst (bs.map V.ref)) ∧ Turns C sp E H bs zs ∧ (listText zs).length ≤ sizeLine ∧ bs.length ≤ 1000 ∧ ∀ H', Same H H' → Q (.str (listText zs)) H'
theorem slotG_of {T id : String} {n : Str} (h : Slot T n id) : SlotG T n id := ⟨h.lookup, h.bind, h.check⟩
/-- repr(xs) of a list of own instances, by their own __repr__ -/
theorem call_reprLO (F : FnL X.prog X.w X.K X.mg X.base CX k f fd ps sp) (gd : X.A.guards = some []) (hr : Room (k + 2) X.A) (hs : PySem.W.findIn X.K (.ref C) "__repr__" = some (some (.ref f))) (hf : PySem.W.isFn X.K (.ref f) = true)
    (hb : Binds X.K fd ps []) (hx : Passes CX X E) : CallR X (.builtin "repr") (rReprLO C sp E) := by
  intro pins s σ H xs us Q I r h
  obtain ⟨a, bs, zs, rfl, ha, hT, hz, hbz, q⟩ := h
  obtain ⟨u, rfl, ru⟩ := vals1 r
  cases ru
  obtain ⟨_, its, m, rv, e1⟩ := I.hok a _ ha
  have un := hr.units
  refine call_repr_slot (T := "list") (idr := "list.__repr__") (by omega) ⟨_, e1, rfl⟩ (slotG_of PySem.F.slot_list_repr) ?_
  by_cases h0 : bs = []
  · subst h0
    have ez : zs = [] := List.length_eq_zero_iff.mp (by rw [← hT.1]; rfl)
    subst ez
    rw [vals_refsE rv] at e1
    refine call_list_repr_empty ⟨_, e1, rfl⟩ e1 rfl ⟨_, _, rfl, .str _, H, I.tok _, ⟨_, rfl⟩, ?_⟩
    exact q H (Same.refl H)
  · obtain ⟨x, l, exl⟩ : ∃ x l, its = x :: l := by
      rw [vals_refsE rv]
      cases bs with
      | nil => exact absurd rfl h0
      | cons b bs => exact ⟨_, _, rfl⟩
    refine GQ.call_here PySem.F.slot_list_repr ⟨_, e1, rfl⟩ PySem.F.entry_list_repr (PySem.F.args_list_repr_1 _) ?_
    show wpAny _ _ (Builtin.listReprAt 0 ⟨[.ref a], []⟩) _ _ _
    refine wpAny_list_repr_head (g := []) (x := x) (l := l) (b := 0) gd (fun _ _ _ h => by cases h) e1 (by rw [exl]) ?_
    have hP : H s.heap.objs.size = none := I.hok.fresh (Nat.le_refl _)
    refine wpAny_bind (wpAny_newList (items := []) ?_)
    have kp : ∀ (b : Addr) (u : Obj), s.heap.get? b = some u → (s.heap.push { cls := .type "list", data := .seq #[] }).get? b = some u := fun b u q => Heap.get?_push_of_some _ q
    have gt : (s.heap.push { cls := .type "list", data := .seq #[] }).get? s.heap.objs.size = some (seqObj "list" #[] 0) := Heap.get?_push_size _ rfl
    have I1 : Inv X pins σ (upd H s.heap.objs.size (Kep s.heap.objs.size (seqObj "list" #[] 0))) { s with heap := s.heap.push { cls := .type "list", data := .seq #[] }, toks := s.toks } := I.laid kp (Nat.le_refl _) (kep_ok gt)
    refine wpAny_pure ⟨PySem.F.quiet_list_repr_loop _, ?_⟩
    refine repr_loopI (A := X.A.in1) (R := wants _ _) hP F (hr.in1) rfl gd hs hf hb (fun H1 s1 er s' I1 hq => ?_) ha hT (base := 0) (by omega) hbz (fun s' H' t I' s2 => ?_) zs.length 0 _ _ #[] 0 [] (by omega) (Nat.zero_le _) I1 (fun b o q => by
      rw [upd_ne (ne_of_none q hP)]
      exact q) upd_same rfl rfl
    · exact hx pins σ H1 s1 er s' I1 hq
    · exact ⟨_, _, rfl, .str _, H', I', ⟨_, rfl⟩, q H' s2⟩
end
end Bb
set_option Elab.async false
set_option linter.all false
set_option maxRecDepth 100000
set_option maxHeartbeats 2000000
namespace Bb
open PySem PySem.SeqAt PySem.Spec PyProof.Rows L2
open TL
/-! texts of plain signs: how long they are when shown -/
def okC (c : Nat) : Prop := c = 10 ∨ (32 ≤ c ∧ c < 127)
instance (c : Nat) : Decidable (okC c) := by unfold okC; exact inferInstance
def okT (z : Str) : Prop := ∀ c ∈ tl z, okC c
theorem printable : ∀ c : Fin 95, Unicode.isPrintable ((c : Nat) + 32) = true := by decide +kernel
theorem rp_char {q c : Nat} (h : okC c) : (∀ d ∈ Builtin.Str.reprChar q c, okC d) ∧ (Builtin.Str.reprChar q c).length ≤ 2 := by
  have o92 : okC 92 := .inr ⟨by decide, by decide⟩
  have o110 : okC 110 := .inr ⟨by decide, by decide⟩
  have two : ∀ x y : Nat, okC x → okC y → (∀ d ∈ [x, y], okC d) := fun x y hx hy d hd => by
    simp only [List.mem_cons, List.not_mem_nil, or_false] at hd
    rcases hd with rfl | rfl
    · exact hx
    · exact hy
  unfold Builtin.Str.reprChar
  dsimp only
  split
  · exact ⟨two _ _ o92 h, Nat.le_refl _⟩
  · split
    · exact ⟨two _ _ o92 o110, Nat.le_refl _⟩
    · rename_i n10
      have hc : 32 ≤ c ∧ c < 127 := by
        rcases h with rfl | h
        · exact absurd rfl n10
        · exact h
      rw [if_neg (by simp; omega), if_neg (by simp; omega)]
      have pr : Unicode.isPrintable c = true := by
        have z := printable ⟨c - 32, by omega⟩
        have e : c - 32 + 32 = c := by omega
        simpa [e] using z
      rw [if_pos pr]
      refine ⟨fun d hd => ?_, by show 1 ≤ 2; decide⟩
      rw [List.mem_singleton.mp hd]
      exact h
theorem rp_fold (q : Nat) : ∀ (l : List Nat) (a : Array Nat), (l.foldl (fun out c => out ++ (Builtin.Str.reprChar q c).toArray) a).toList = a.toList ++ l.flatMap (Builtin.Str.reprChar q)
  | [], a => by simp
  | c :: l, a => by
    rw [List.foldl_cons, rp_fold q l, Array.toList_append, List.flatMap_cons, List.append_assoc]
theorem tl_repr (x : Str) : tl (reprText x) = reprQuote x :: ((tl x).flatMap (Builtin.Str.reprChar (reprQuote x)) ++ [reprQuote x]) := by
  show ((Array.foldl (fun out c => out ++ (Builtin.Str.reprChar (reprQuote x) c).toArray) #[reprQuote x] x.cps).push (reprQuote x)).toList = _
  rw [Array.toList_push, ← Array.foldl_toList, rp_fold]
  rfl
theorem flat_le {f : Nat → List Nat} : ∀ {l : List Nat}, (∀ c ∈ l, (f c).length ≤ 2) → (l.flatMap f).length ≤ 2 * l.length
  | [], _ => Nat.le_refl _
  | c :: l, h => by
    have a := h c List.mem_cons_self
    have b := flat_le (f := f) (l := l) fun d hd => h d (List.mem_cons_of_mem _ hd)
    rw [List.flatMap_cons, List.length_append, List.length_cons]
    omega
theorem okT_repr {x : Str} (h : okT x) : okT (reprText x) ∧ (reprText x).length ≤ 2 * x.length + 2 := by
  have oq : okC (reprQuote x) := by
    unfold reprQuote
    split
    · exact .inr ⟨by decide, by decide⟩
    · exact .inr ⟨by decide, by decide⟩
  refine ⟨fun c hc => ?_, ?_⟩
  · rw [tl_repr] at hc
    rcases List.mem_cons.mp hc with rfl | hc
    · exact oq
    · rcases List.mem_append.mp hc with hc | hc
      · obtain ⟨d, hd, hm⟩ := List.mem_flatMap.mp hc
        exact (rp_char (h d hd)).1 c hm
      · rw [List.mem_singleton.mp hc]
        exact oq
  · rw [len_tl, tl_repr, len_tl, List.length_cons, List.length_append, List.length_singleton]
    have z := flat_le (f := Builtin.Str.reprChar (reprQuote x)) (l := tl x) fun c hc => (rp_char (h c hc)).2
    omega
theorem okT_app {x y : Str} (hx : okT x) (hy : okT y) : okT (x ++ y) := fun c hc => by
  rw [tl_append] at hc
  rcases List.mem_append.mp hc with h | h
  · exact hx c h
  · exact hy c h
theorem okT_join {s : Str} (hs : okT s) : ∀ {ts : List Str}, (∀ t ∈ ts, okT t) → okT (s.join ts)
  | [], _ => fun c hc => by
    rw [tl_join] at hc
    cases hc
  | [t], h => fun c hc => by
    rw [tl_join, List.map_cons, List.map_nil, joinL] at hc
    exact h t List.mem_cons_self c hc
  | t :: u :: ts, h => fun c hc => by
    have ih := okT_join hs (ts := u :: ts) fun v hv => h v (List.mem_cons_of_mem _ hv)
    rw [tl_join, List.map_cons, List.map_cons, joinL] at hc
    rcases List.mem_append.mp hc with q | q
    · exact h t List.mem_cons_self c q
    · rcases List.mem_append.mp q with q | q
      · exact hs c q
      · refine ih c ?_
        rw [tl_join, List.map_cons]
        exact q
theorem okT_lit {x : Str} (h : (tl x).all (fun c => decide (okC c)) = true) : okT x := fun c hc => of_decide_eq_true (List.all_eq_true.mp h c hc)
theorem okT_listText {ts : List Str} (h : ∀ t ∈ ts, okT t) : okT (listText ts) := by
  rw [listText_eq_join]
  exact okT_app (okT_app (okT_lit (by decide +kernel)) (okT_join (okT_lit (by decide +kernel)) h)) (okT_lit (by decide +kernel))
theorem okT_tupleText {ts : List Str} (h : ∀ t ∈ ts, okT t) : okT (tupleText ts) := by
  unfold tupleText
  refine okT_app (okT_app (okT_lit (by decide +kernel)) (okT_join (okT_lit (by decide +kernel)) h)) ?_
  split
  · exact okT_lit (by decide +kernel)
  · exact okT_lit (by decide +kernel)
theorem okT_txt {s : Str} (hs : okT s) {ts : List Str} (h : ∀ t ∈ ts, okT t) : okT (Txt.join s ts) := by
  rw [TL.join_eq]
  exact okT_join hs h
theorem okT_int (n : Int) : okT (strI n) := fun c hc => by
  rw [tl_int] at hc
  have dg : ∀ {l : List Nat}, NumText.AllDigits l → c ∈ l → okC c := fun h m => by
    have z := h c m
    exact .inr ⟨by omega, by omega⟩
  unfold numI at hc
  split at hc
  · rcases List.mem_cons.mp hc with rfl | q
    · exact .inr ⟨by decide, by decide⟩
    · exact dg (numL_digits _) q
  · exact dg (numL_digits _) hc
end Bb
set_option Elab.async false
set_option linter.all false
set_option maxRecDepth 100000
set_option maxHeartbeats 2000000
/-! an own exception with a field of its own, over any builtin one -/
namespace Bb
namespace XF
open PySem PySem.SeqAt PySem.W PySem.Calls PyProof.Rows PySem.HandSPX
theorem plain_osa : plainId "object.__setattr__" = true := by decide +kernel
theorem exc_osaI {prog : Program} {w : World} {A : Around} {R : Result → Shared → Prop} {hp : Heap} {g : Array GenState} {d : Drawn} {t : Nat} {os : OsState} {K : Frag} {name : Str} {tk : Tok} {v : Value} {x C : Addr} {fv : Array Value} {cd : ClassData}
    (KI : K.In hp) (hx : hp.get? x = some { cls := .ref C, data := .fields fv }) (hc : clsIn K C = some cd) (hl : ∀ self, refuseLoop self (Str.ofString "__setattr__") cd.mro = pure ()) (hd : cd.hasDict = true) (hn : findIn K (.ref C) name = some none) (hob : mroIn K C (.type "object") = some true)
    (q : ∀ (h' : Heap) (tk' dx : Nat), (∀ (b : Addr) (o : Obj), b ≠ x → hp.get? b = some o → h'.get? b = some o) → hp.objs.size ≤ dx → dx ≠ x → h'.get? x = some { cls := .ref C, dict := some dx, data := .fields fv } → (h'.Ns1 dx fun y => if y = name then some v else none) → R (.ok (.ret .none)) { heap := h', gens := g, drawn := d, toks := tk', os := os }) :
    codeAny (model prog w) A (.call (.builtin "object.__setattr__") ⟨[.ref x, .str name tk, v], []⟩) R { heap := hp, gens := g, drawn := d, toks := t, os := os } := by
  have J : InstAt hp x { cls := .ref C, data := .fields fv } C none := ⟨hx, rfl, rfl, trivial⟩
  have hI : Looks (model prog w) hp (isInstance (.ref x) (.type "object")) true := fun A' Q E' s' k hq => by
    unfold isInstance
    exact wpAny_bind (J.type A' _ E' s' k (looks_mroIn KI hob A' _ E' s' k hq))
  have J' : InstAt ({ heap := hp, gens := g, drawn := d, toks := t, os := os } : Shared).heap x { cls := .ref C, data := .fields fv } C none := J
  have KI' : K.In ({ heap := hp, gens := g, drawn := d, toks := t, os := os } : Shared).heap := KI
  refine codeAny_call_builtin (b := Builtin.«object.__setattr__») plain_osa PySem.F.entry_object_setattr ?_
  refine check_slot (i := "object.__setattr__") (owner := "object") (n := "__setattr__") (self := .ref x) (rest := [.str name tk, v]) (kw := []) PySem.F.bk_object_setattr PySem.F.sp_object_setattr hI (PySem.F.args_object_setattr_3 _ _ _) ?_
  rw [osa_eq, refuse_eq]
  refine wpAny_bind (wpAny_bind (J'.type.here (wpAny_bind ?_)))
  unfold mroOf
  refine wpAny_bind ((looks_clsIn KI' hc).here ?_)
  refine wpAny_pure ?_
  rw [hl]
  refine wpAny_pure ?_
  refine wpAny_bind (J'.type.here ?_)
  refine wpAny_bind ((looks_findIn KI' hn).here ?_)
  refine wpAny_bind (m := Builtin.ObjectAttr.storeTaker? none) (wpAny_pure ?_)
  show wpAny _ _ (Builtin.ObjectAttr.storeInOwnDict _ _ _ _ _ _) _ _ _
  unfold Builtin.ObjectAttr.storeInOwnDict
  refine wpAny_bind (m := ownStreamTells _ _) (wpAny_pure ?_)
  have k1 : ∀ (b : Addr) (o : Obj), hp.get? b = some o → (hp.push { cls := .type "dict", data := .dict #[] }).get? b = some o := fun b o e => Heap.get?_push_of_some _ e
  have hxd : x ≠ hp.objs.size := Nat.ne_of_lt (Heap.lt_size hx)
  rw [if_neg (show ¬ (Value.ref C == Value.type "module") = true from fun z => by cases z)]
  show wpAny _ _ (Builtin.ObjectAttr.ownDictForStores (.ref x) >>= _) _ _ _
  refine wpAny_bind (m := instanceDict x true) ?_
  unfold instanceDict
  refine wpAny_bind (AutoSeq1.wpAny_loadPart' hx ?_)
  refine wpAny_bind ((looks_clsIn KI' hc).here ?_)
  dsimp only
  rw [if_neg (by rw [hd]; decide), if_neg (by show ¬ (!true || !true) = true; decide)]
  refine wpAny_bind (wpAny_alloc ?_)
  refine wpAny_bind (wpAny_update (k1 _ _ hx) ?_)
  refine wpAny_pure ?_
  have hn1 : (hp.push { cls := .type "dict", data := .dict #[] }).get? hp.objs.size = some { cls := .type "dict", data := .dict #[] } := Heap.get?_push_size _ rfl
  obtain ⟨h1, eh1⟩ : ∃ G, G = (hp.push { cls := .type "dict", data := .dict #[] }).update x (fun o => { cls := o.cls, dict := some hp.objs.size, data := o.data, slots := o.slots }) := ⟨_, rfl⟩
  have u1 : ∀ (b : Addr) (o : Obj), b ≠ x → hp.get? b = some o → h1.get? b = some o := fun b o nb e => by
    rw [eh1]
    exact (Heap.get?_update_other _ _ (Ne.symm nb)).trans (k1 _ _ e)
  have ux : h1.get? x = some { cls := .ref C, dict := some hp.objs.size, data := .fields fv } := by
    rw [eh1]
    exact Heap.get?_update_self _ (k1 _ _ hx) rfl
  have ud : h1.get? hp.objs.size = some { cls := .type "dict", data := .dict #[] } := by
    rw [eh1]
    exact (Heap.get?_update_other _ _ hxd).trans hn1
  show wpAny _ _ (Builtin.ObjectAttr.storeInDict hp.objs.size (.str name tk) name v) _ _ _
  rw [← eh1]
  refine store_in_new ?_ (fun h' tk' n1 sb => ?_)
  · exact ⟨_, #[], _, ud, rfl, (fun e h => absurd h (by simp)), fun y => by rfl⟩
  · refine q h' tk' hp.objs.size (fun b o nb e => ?_) (Nat.le_refl _) (Ne.symm hxd) ?_ n1
    · rw [sb.2 b (Nat.ne_of_lt (Heap.lt_size e))]
      exact u1 b o nb e
    · rw [sb.2 x hxd]
      exact ux
theorem one_sz (v : Value) : [v].length ≤ sizeLine := by
  rw [sizeLine_eq]
  exact (by decide : 1 ≤ 16777216)
theorem ldX {M : Model} {s : Shared} {name : Str} {scope : Scope} {L a : Addr} {cd : Value} {m : Str → Option Value} {x : Str} {pos : Pos} {v : Value} {Q : Value → Shared → Prop} {A : Around} {E : Value → Shared → Prop} (hn : s.heap.Ns L m) (hv : m x = some v) (h : Q v s)
    (hk : scope.kind = .function := by rfl) (hl : (envOfC name scope L a cd).kindOf x = some .local := by rfl) (hd : (x == ("__debug__" : Str)) = false := by decide) :
    wpAny M A (eval (.Name x pos) (envOfC name scope L a cd)) Q E s := wpAny_Name (wpAny_loadName_local hk hl hn hv h) hd
end XF
end Bb
namespace Bb
namespace XP
open PySem PySem.SeqAt PySem.W PySem.Calls PyProof.Rows PySem.HandSPX XF
/-! the text of such an __init__ -/
def aX (p1 p2 : Pos) : Arguments := { posonlyargs := [], args := [{ arg := "self", annotation := none, pos := p1 }, { arg := "place", annotation := none, pos := p2 }], vararg := none, kwonlyargs := [], kw_defaults := [], kwarg := none, defaults := [] }
def bX (q1 q2 q3 q4 : Pos) : List Stmt := [.Assign [.Attribute (.Name "self" q1) "place" q2] (.Name "place" q3) q4]
def sX : Scope := { kind := .function, names := [(PySem.Str.ofString "self", .local), (PySem.Str.ofString "place", .local)], isGenerator := false, isCoroutine := false, more := [] }
/-- the class at C, its __init__ at fI, what it stands on -/
structure ExcF (K : Frag) (C fI : Addr) (B newId initId : String) (bmB : List Value) : Prop where
  bas : ExcBaseFacts B newId initId bmB
  cls : ∃ nm q N bs bm sn sub ab col dd k0 k1 k2 k3 k5, K.lookup C = some (excClassObj nm q C N bs bm true sn sub ab col dd k0 k1 k2 k3 k5 newId) ∧ (∀ X : String, bm.contains (Value.type X) = bmB.contains (Value.type X)) ∧ ∀ self, refuseLoop self (Str.ofString "__setattr__") (Value.ref C :: bm) = pure ()
  sa : findIn K (.ref C) "__setattr__" = some (some (.builtin "object.__setattr__"))
  ga : findIn K (.ref C) "__getattribute__" = some (some (.builtin "BaseException.__getattribute__"))
  gg : findIn K (.ref C) "__getattr__" = some none
  noN : findIn K (.ref C) "place" = some none
  iC : findIn K (.ref C) "__init__" = some (some (.ref fI))
  tC : typeIn K (.ref fI) = some (.type "function")
  kC : keepIn K (.ref C) = true
  exC : subIn K (.ref C) (.type "BaseException") = some true
  tyC : typeIn K (.ref C) = some (.type "type")
  hdC : hasDictIn K C = true
  ob : mroIn K C (.type "object") = some true
  te : exmOne K (.ref C) (.ref C) = some true
  fn : ∃ (oc : Value) (od : Option Addr) (doc pm : Value) (an : Option Addr) (cdv ct : Value) (osl : Array (Option Value)) (p1 p2 q1 q2 q3 q4 : Pos),
    K.lookup fI = some ⟨oc, od, .func (fnOf "__init__" "NoPlace.__init__" (aX p1 p2) (bX q1 q2 q3 q4) sX .none .none doc pm an cdv ct), osl⟩ ∧ codeIn K cdv "NoPlace.__init__" = true
structure EndX (h h' : Heap) (x C dx t1 : Addr) (v : Value) : Prop where
  keep : ∀ b o, b ≠ x → h.get? b = some o → h'.get? b = some o
  obj : h'.get? x = some { cls := .ref C, dict := some dx, data := .fields #[.ref t1, .none, .none, .none, .bool false, .none] }
  dbig : h.objs.size ≤ dx
  dne : dx ≠ x
  ns : h'.Ns1 dx (fun y => if y = "place" then some v else none)
structure MadeX (h h' : Heap) (e C d : Addr) (v : Value) : Prop where
  keep : ∀ b o, h.get? b = some o → h'.get? b = some o
  new : h.objs.size ≤ e
  obj : ∃ oe vs, h'.get? e = some oe ∧ oe.cls = .ref C ∧ oe.dict = some d ∧ oe.data = .fields vs ∧ vs[1]? = some .none
  dbig : h.objs.size ≤ d
  dne : d ≠ e
  ns : h'.Ns1 d (fun y => if y = "place" then some v else none)
section
variable {prog : Program} {w : World} {A : Around} {E : Value → Shared → Prop} {R : Result → Shared → Prop} {s : Shared} {K : Frag} {C fI : Addr} {B newId initId : String} {bmB : List Value}
theorem x_init (T : ExcF K C fI B newId initId bmB) {x t0 : Addr} {v : Value} (X : K.In s.heap) (hlim : s.heap.NoLimit) (hx : s.heap.get? x = some (excO C t0)) (hnx : K.lookup x = none) (hroom : A.depth < recursionLimit)
    (hq : ∀ h' tk dx, EndX s.heap h' x C dx t0 v → R (.ok (.ret .none)) { s with heap := h', toks := tk }) :
    codeAny (model prog w) A (.call (.ref fI) ⟨[.ref x, v], []⟩) R s := by
  obtain ⟨oc, od, doc, pm, an, cdv, ct, osl, p1, p2, q1, q2, q3, q4, ho, hcd⟩ := T.fn
  obtain ⟨nm, q, N, bs, bm, sn, sub, ab, col, dd, k0, k1, k2, k3, k5, hC, hbm, hrf⟩ := T.cls
  have hcl : clsIn K C = some { name := nm, bases := bs, mro := .ref C :: bm, ns := N, qualname := q, hasDict := true, slotNames := sn, subclasses := sub, abstract := ab, collection := col, hasDel := false } := by unfold clsIn; rw [hC] <;> rfl
  refine Att.call_fn (binds := [("self", .ref x), ("place", v)]) X hlim ho hcd hroom (BindsTo.of_eq (by first | rfl | with_unfolding_all rfl)) (by first | rfl | decide | with_unfolding_all rfl) (fun s₁ IC => ?_) rfl rfl rfl
  obtain ⟨h₁, tk₁, rfl⟩ := IC.toInCall.same
  have k : ∀ b o, s.heap.get? b = some o → h₁.get? b = some o := IC.toInCall.keep
  have hn := IC.toInCall.ns
  have X₁ : K.In h₁ := X.keeps k
  have hx₁ := k _ _ hx
  show wpAny _ _ (execs _ _) _ _ _
  refine wpAny_execs_cons (plainObj_wpAny_Assign_Attribute ?_)
  refine ldX (v := v) hn (by first | rfl | with_unfolding_all rfl | kernel_rfl) (ldX (v := .ref x) hn (by first | rfl | with_unfolding_all rfl | kernel_rfl) ?_)
  refine set_plain X₁ (ox := excO C t0) (od := none) ⟨hx₁, rfl, rfl, trivial⟩ T.sa ?_
  refine exc_osaI X₁ hx₁ hcl hrf rfl T.noN T.ob (fun h₃ tk₃ dx k₃ dn dne hx₃ hn₃ => ?_)
  show wpAny _ _ (execs _ _) _ _ _
  have z : s.heap.objs.size < h₁.objs.size := hn.lt
  exact wpAny_execs_nil (hq h₃ tk₃ dx ⟨fun b o hb e => k₃ b o hb (k b o e), hx₃, Nat.le_of_lt (Nat.lt_of_lt_of_le z dn), dne, hn₃⟩)
theorem x_made (T : ExcF K C fI B newId initId bmB) {v : Value} (X : K.In s.heap) (hlim : s.heap.NoLimit) (hroom : A.depth + 1 < recursionLimit)
    (hq : ∀ h' tk e d, MadeX s.heap h' e C d v → R (.ok (.ret (.ref e))) { s with heap := h', toks := tk }) :
    codeAny (model prog w) A (.call (.ref C) ⟨[v], []⟩) R s := by
  obtain ⟨nm, q, N, bs, bm, sn, sub, ab, col, dd, k0, k1, k2, k3, k5, hC, hbm, hrf⟩ := T.cls
  obtain ⟨hp, g, dr, tk, os⟩ := s
  have k : ∀ b o, hp.get? b = some o → ((hp.push (kdv_tup [v])).push (excO C hp.objs.size)).get? b = some o := fun b o e => Heap.get?_push_of_some _ (Heap.get?_push_of_some _ e)
  have hget : ((hp.push (kdv_tup [v])).push (excO C hp.objs.size)).get? (hp.objs.size + 1) = some (excO C hp.objs.size) := by heap_get
  have hnx : K.lookup (hp.objs.size + 1) = none := by
    cases e : K.lookup (hp.objs.size + 1) with
    | none => rfl
    | some o =>
      have z : hp.get? (hp.objs.size + 1) = some o := X _ _ e
      exact absurd (Nat.lt_of_succ_lt (Heap.lt_size z)) (Nat.lt_irrefl _)
  refine call_own T.bas hbm (X _ _ hC) (looks_findIn X T.iC) (fun self => bind_fn X self T.tC) (one_sz v) ?_
  refine x_init (s := ⟨(hp.push (kdv_tup [v])).push (excO C hp.objs.size), g, dr, tk, os⟩) T (X.keeps k) (hlim.keeps k) hget hnx ?_ fun h' tk' dx ⟨k', hx, dn, dne, hns⟩ => ?_
  · show A.depth + 1 < recursionLimit
    exact hroom
  · have old : ∀ b o, hp.get? b = some o → h'.get? b = some o := fun b o e => k' b o (Nat.ne_of_lt (Nat.lt_succ_of_lt (Heap.lt_size e))) (k b o e)
    have z : hp.objs.size + 1 + 1 ≤ dx := by
      first
        | (simpa only [Heap.size_push] using dn)
        | exact dn
        | (have q := dn; rw [Heap.size_push, Heap.size_push] at q; exact q)
    exact ⟨rfl, hq h' tk' (hp.objs.size + 1) dx ⟨old, Nat.le_succ _, ⟨_, _, hx, rfl, rfl, rfl, rfl⟩, Nat.le_trans (Nat.le_trans (Nat.le_succ _) (Nat.le_succ _)) z, dne, hns⟩⟩
end
open PySem.Spec L2
theorem relO_fld {v : V} {v' : Value} (r : RelV v v') (f : Str) : RelO (List.lookup f [(("place" : Str), v)]) (if f = "place" then some v' else none) := by
  by_cases hw : f = "place"
  · subst hw
    rw [if_pos rfl]
    have q : List.lookup ("place" : Str) [(("place" : Str), v)] = some v := by simp [List.lookup]
    rw [q]
    exact r
  · rw [if_neg hw]
    have qw : (f == ("place" : Str)) = false := by simpa using hw
    have q2 : List.lookup f [(("place" : Str), v)] = none := by simp [List.lookup, qw]
    rw [q2]
    trivial
section
variable {X : Cx} {C fI : Addr} {B newId initId : String} {bmB : List Value}
/-- the error made, with its field: its own dict, new, holds it -/
def tMkF (C : Addr) (ta : TA) : L2.St → Hp → XK → Prop := fun σ H Q => ta σ H fun vs H1 => ∃ v, vs = [v] ∧ ∀ d, H1 d = none → Q (.ref C) (some d) (upd H1 d (.xd [(("place" : Str), v)]))
theorem pmk_fld {a : Expr} {ta : TA} {p pos : Pos} {k : Nat} (T : ExcF X.K C fI B newId initId bmB) (gC : X.mg "NoPlace" = some (.ref C)) (hr : Room k X.A) (ha : PA X [a] ta) (hg : Gl X "NoPlace" := by rfl)
    (he : starEach (a :: []) X.env = (false, eval a X.env) :: starEach [] X.env := by rfl) (hpl : (backTo pos (starEach [] X.env)).any (·.1) = false := by rfl) :
    PMk X (.Call (.Name "NoPlace" p) [a] [] pos) (tMkF C ta) := by
  intro pins s σ H Q I h
  refine wpAny_Call_Name_kw (ld_glob I hg gC ?_)
  refine PySem.W.callWith_K (h₀ := X.base) I.ok.mod.kin T.kC (thn (ha.run pos pins s σ H _ I h) fun us s1 hh => ?_) he hpl
  obtain ⟨vs, H1, I1, r1, v, ev, q1⟩ := hh
  subst ev
  refine ⟨I1.kIn, ?_⟩
  cases r1 with
  | cons rv rn =>
    rename_i v' us'
    cases rn
    show wpAny _ _ (call (.ref C) [v']) _ _ _
    have hlim := I1.nolimit
    obtain ⟨hp, g, dr, tk, os⟩ := s1
    refine wpAny_call (x_made T I1.kIn hlim (by have := hr.dp; omega) fun h' tk' e d M => ?_)
    show MkP X pins σ Q (.ref e) ⟨h', g, dr, tk', os⟩
    obtain ⟨oe, fv, hoe, hc, hd, hdat, h1⟩ := M.obj
    have hns := M.ns
    obtain ⟨G', g1, g2⟩ := restrict h' fun b => decide (b ≠ e)
    have gk : ∀ b, b ≠ e → G'.get? b = h'.get? b := fun b hb => g1 b (decide_eq_true hb)
    have ge : G'.get? e = none := g2 e (by simp)
    have old : ∀ b o, hp.get? b = some o → G'.get? b = some o := fun b o q => (gk b (Nat.ne_of_lt (Nat.lt_of_lt_of_le (Heap.lt_size q) M.new))).trans (M.keep b o q)
    have ob : ObjOk X.prog X.w (upd H1 d (.xd [(("place" : Str), v)])) G' d (.xd [(("place" : Str), v)]) :=
      ⟨_, hns.at (fun o q => (gk d M.dne).trans q), fun f => relO_fld rv f⟩
    have J : Inv X pins σ (upd H1 d (.xd [(("place" : Str), v)])) ⟨G', g, dr, tk', os⟩ := I1.laid (t' := tk') old M.dbig ob
    refine ⟨e, oe, fv, ⟨G', g, dr, tk', os⟩, _, .ref C, some d, rfl, J, fun b o q => ?_, ge, hoe, ⟨hc, hd⟩, hdat, h1, ?_, rfl, I1.bare, raises_own T.exC T.tyC, q1 d (I1.hok.fresh M.dbig)⟩
    · by_cases hb : b = e
      · have q' : G'.get? b = some o := q
        rw [hb, ge] at q'; cases q'
      · exact (gk b hb).symm.trans q
    · rw [upd_ne (Ne.symm M.dne)]
      exact I1.hok.fresh M.new
/-- e.place, e the exception that the suite holds -/
def tByF (C : Addr) (a : Addr) (cls : Value) (d : Option Addr) (te : TE) : TE := fun σ H Q => te σ H fun x H1 => x = .ref a ∧ cls = .ref C ∧ ∃ (dd : Addr) (v : V), d = some dd ∧ H1 dd = some (.xd [(("place" : Str), v)]) ∧ Q v H1
theorem pe_byF {a : Addr} {oe : Obj} {cls : Value} {d : Option Addr} {pn : List (Addr × Obj)} {e : Expr} {te : TE} {pos : Pos} (T : ExcF X.K C fI B newId initId bmB) (hz : Zc cls d oe) (hf : ∃ vs, oe.data = .fields vs) (he : PE (X.suite a ((a, oe) :: pn)) e te)
    (hb : attributeBase e "place" X.env (eval e X.env) = eval e X.env := by rfl) :
    PE (X.suite a ((a, oe) :: pn)) (.Attribute e "place" pos) (tByF C a cls d te) := by
  refine ⟨fun pins s σ H Q I h => ?_⟩
  refine attr_of hb (thn (he.run pins s σ H _ I h) fun u s1 hh => ?_)
  obtain ⟨x, H1, I1, rx, ex, ec, dd, v, ed, ea, q⟩ := hh
  subst ex
  obtain rfl : u = Value.ref a := rx
  subst ec
  subst ed
  obtain ⟨ha, _⟩ := I1.pin (a, oe) (List.mem_append_left _ List.mem_cons_self)
  obtain ⟨vs, hd⟩ := hf
  have hx : ObjOk X.prog X.w H1 s1.heap dd (.xd [(("place" : Str), v)]) := I1.hok dd _ ea
  obtain ⟨mA, hns, hr⟩ := hx
  obtain ⟨od, ho, hl⟩ := lookIn_ns hns
  have l : List.lookup ("place" : Str) [(("place" : Str), v)] = some v := by simp [List.lookup]
  obtain ⟨u, hu, ru⟩ := RelO.some_of (v := v) (o := mA "place") (by rw [← l]; exact hr "place")
  have J : PySem.W.InstAt s1.heap a oe C (some od) := ⟨ha, hz.1, by unfold PySem.W.notCls; rw [hd] <;> rfl, by rw [hz.2]; exact ho⟩
  exact HandSPX.exc_get I1.kIn J T.ga T.gg T.exC (PySem.W.findObj_own T.hdC T.noN rfl (by rw [hl, hu])) (handed_of ru) ⟨v, H1, I1.tok _, ru, q⟩
end
end XP
end Bb
namespace Bb
namespace XL
open PySem PySem.SeqAt PySem.W PySem.Calls PyProof.Rows PySem.HandSPX XF
/-! the text of such an __init__ -/
def aX (p1 p2 : Pos) : Arguments := { posonlyargs := [], args := [{ arg := "self", annotation := none, pos := p1 }, { arg := "line", annotation := none, pos := p2 }], vararg := none, kwonlyargs := [], kw_defaults := [], kwarg := none, defaults := [] }
def bX (q1 q2 q3 q4 : Pos) : List Stmt := [.Assign [.Attribute (.Name "self" q1) "line" q2] (.Name "line" q3) q4]
def sX : Scope := { kind := .function, names := [(PySem.Str.ofString "self", .local), (PySem.Str.ofString "line", .local)], isGenerator := false, isCoroutine := false, more := [] }
/-- the class at C, its __init__ at fI, what it stands on -/
structure ExcF (K : Frag) (C fI : Addr) (B newId initId : String) (bmB : List Value) : Prop where
  bas : ExcBaseFacts B newId initId bmB
  cls : ∃ nm q N bs bm sn sub ab col dd k0 k1 k2 k3 k5, K.lookup C = some (excClassObj nm q C N bs bm true sn sub ab col dd k0 k1 k2 k3 k5 newId) ∧ (∀ X : String, bm.contains (Value.type X) = bmB.contains (Value.type X)) ∧ ∀ self, refuseLoop self (Str.ofString "__setattr__") (Value.ref C :: bm) = pure ()
  sa : findIn K (.ref C) "__setattr__" = some (some (.builtin "object.__setattr__"))
  ga : findIn K (.ref C) "__getattribute__" = some (some (.builtin "BaseException.__getattribute__"))
  gg : findIn K (.ref C) "__getattr__" = some none
  noN : findIn K (.ref C) "line" = some none
  iC : findIn K (.ref C) "__init__" = some (some (.ref fI))
  tC : typeIn K (.ref fI) = some (.type "function")
  kC : keepIn K (.ref C) = true
  exC : subIn K (.ref C) (.type "BaseException") = some true
  tyC : typeIn K (.ref C) = some (.type "type")
  hdC : hasDictIn K C = true
  ob : mroIn K C (.type "object") = some true
  te : exmOne K (.ref C) (.ref C) = some true
  fn : ∃ (oc : Value) (od : Option Addr) (doc pm : Value) (an : Option Addr) (cdv ct : Value) (osl : Array (Option Value)) (p1 p2 q1 q2 q3 q4 : Pos),
    K.lookup fI = some ⟨oc, od, .func (fnOf "__init__" "NoText.__init__" (aX p1 p2) (bX q1 q2 q3 q4) sX .none .none doc pm an cdv ct), osl⟩ ∧ codeIn K cdv "NoText.__init__" = true
structure EndX (h h' : Heap) (x C dx t1 : Addr) (v : Value) : Prop where
  keep : ∀ b o, b ≠ x → h.get? b = some o → h'.get? b = some o
  obj : h'.get? x = some { cls := .ref C, dict := some dx, data := .fields #[.ref t1, .none, .none, .none, .bool false, .none] }
  dbig : h.objs.size ≤ dx
  dne : dx ≠ x
  ns : h'.Ns1 dx (fun y => if y = "line" then some v else none)
structure MadeX (h h' : Heap) (e C d : Addr) (v : Value) : Prop where
  keep : ∀ b o, h.get? b = some o → h'.get? b = some o
  new : h.objs.size ≤ e
  obj : ∃ oe vs, h'.get? e = some oe ∧ oe.cls = .ref C ∧ oe.dict = some d ∧ oe.data = .fields vs ∧ vs[1]? = some .none
  dbig : h.objs.size ≤ d
  dne : d ≠ e
  ns : h'.Ns1 d (fun y => if y = "line" then some v else none)
section
variable {prog : Program} {w : World} {A : Around} {E : Value → Shared → Prop} {R : Result → Shared → Prop} {s : Shared} {K : Frag} {C fI : Addr} {B newId initId : String} {bmB : List Value}
theorem x_init (T : ExcF K C fI B newId initId bmB) {x t0 : Addr} {v : Value} (X : K.In s.heap) (hlim : s.heap.NoLimit) (hx : s.heap.get? x = some (excO C t0)) (hnx : K.lookup x = none) (hroom : A.depth < recursionLimit)
    (hq : ∀ h' tk dx, EndX s.heap h' x C dx t0 v → R (.ok (.ret .none)) { s with heap := h', toks := tk }) :
    codeAny (model prog w) A (.call (.ref fI) ⟨[.ref x, v], []⟩) R s := by
  obtain ⟨oc, od, doc, pm, an, cdv, ct, osl, p1, p2, q1, q2, q3, q4, ho, hcd⟩ := T.fn
  obtain ⟨nm, q, N, bs, bm, sn, sub, ab, col, dd, k0, k1, k2, k3, k5, hC, hbm, hrf⟩ := T.cls
  have hcl : clsIn K C = some { name := nm, bases := bs, mro := .ref C :: bm, ns := N, qualname := q, hasDict := true, slotNames := sn, subclasses := sub, abstract := ab, collection := col, hasDel := false } := by unfold clsIn; rw [hC] <;> rfl
  refine Att.call_fn (binds := [("self", .ref x), ("line", v)]) X hlim ho hcd hroom (BindsTo.of_eq (by first | rfl | with_unfolding_all rfl)) (by first | rfl | decide | with_unfolding_all rfl) (fun s₁ IC => ?_) rfl rfl rfl
  obtain ⟨h₁, tk₁, rfl⟩ := IC.toInCall.same
  have k : ∀ b o, s.heap.get? b = some o → h₁.get? b = some o := IC.toInCall.keep
  have hn := IC.toInCall.ns
  have X₁ : K.In h₁ := X.keeps k
  have hx₁ := k _ _ hx
  show wpAny _ _ (execs _ _) _ _ _
  refine wpAny_execs_cons (plainObj_wpAny_Assign_Attribute ?_)
  refine ldX (v := v) hn (by first | rfl | with_unfolding_all rfl | kernel_rfl) (ldX (v := .ref x) hn (by first | rfl | with_unfolding_all rfl | kernel_rfl) ?_)
  refine set_plain X₁ (ox := excO C t0) (od := none) ⟨hx₁, rfl, rfl, trivial⟩ T.sa ?_
  refine exc_osaI X₁ hx₁ hcl hrf rfl T.noN T.ob (fun h₃ tk₃ dx k₃ dn dne hx₃ hn₃ => ?_)
  show wpAny _ _ (execs _ _) _ _ _
  have z : s.heap.objs.size < h₁.objs.size := hn.lt
  exact wpAny_execs_nil (hq h₃ tk₃ dx ⟨fun b o hb e => k₃ b o hb (k b o e), hx₃, Nat.le_of_lt (Nat.lt_of_lt_of_le z dn), dne, hn₃⟩)
theorem x_made (T : ExcF K C fI B newId initId bmB) {v : Value} (X : K.In s.heap) (hlim : s.heap.NoLimit) (hroom : A.depth + 1 < recursionLimit)
    (hq : ∀ h' tk e d, MadeX s.heap h' e C d v → R (.ok (.ret (.ref e))) { s with heap := h', toks := tk }) :
    codeAny (model prog w) A (.call (.ref C) ⟨[v], []⟩) R s := by
  obtain ⟨nm, q, N, bs, bm, sn, sub, ab, col, dd, k0, k1, k2, k3, k5, hC, hbm, hrf⟩ := T.cls
  obtain ⟨hp, g, dr, tk, os⟩ := s
  have k : ∀ b o, hp.get? b = some o → ((hp.push (kdv_tup [v])).push (excO C hp.objs.size)).get? b = some o := fun b o e => Heap.get?_push_of_some _ (Heap.get?_push_of_some _ e)
  have hget : ((hp.push (kdv_tup [v])).push (excO C hp.objs.size)).get? (hp.objs.size + 1) = some (excO C hp.objs.size) := by heap_get
  have hnx : K.lookup (hp.objs.size + 1) = none := by
    cases e : K.lookup (hp.objs.size + 1) with
    | none => rfl
    | some o =>
      have z : hp.get? (hp.objs.size + 1) = some o := X _ _ e
      exact absurd (Nat.lt_of_succ_lt (Heap.lt_size z)) (Nat.lt_irrefl _)
  refine call_own T.bas hbm (X _ _ hC) (looks_findIn X T.iC) (fun self => bind_fn X self T.tC) (one_sz v) ?_
  refine x_init (s := ⟨(hp.push (kdv_tup [v])).push (excO C hp.objs.size), g, dr, tk, os⟩) T (X.keeps k) (hlim.keeps k) hget hnx ?_ fun h' tk' dx ⟨k', hx, dn, dne, hns⟩ => ?_
  · show A.depth + 1 < recursionLimit
    exact hroom
  · have old : ∀ b o, hp.get? b = some o → h'.get? b = some o := fun b o e => k' b o (Nat.ne_of_lt (Nat.lt_succ_of_lt (Heap.lt_size e))) (k b o e)
    have z : hp.objs.size + 1 + 1 ≤ dx := by
      first
        | (simpa only [Heap.size_push] using dn)
        | exact dn
        | (have q := dn; rw [Heap.size_push, Heap.size_push] at q; exact q)
    exact ⟨rfl, hq h' tk' (hp.objs.size + 1) dx ⟨old, Nat.le_succ _, ⟨_, _, hx, rfl, rfl, rfl, rfl⟩, Nat.le_trans (Nat.le_trans (Nat.le_succ _) (Nat.le_succ _)) z, dne, hns⟩⟩
end
open PySem.Spec L2
theorem relO_fld {v : V} {v' : Value} (r : RelV v v') (f : Str) : RelO (List.lookup f [(("line" : Str), v)]) (if f = "line" then some v' else none) := by
  by_cases hw : f = "line"
  · subst hw
    rw [if_pos rfl]
    have q : List.lookup ("line" : Str) [(("line" : Str), v)] = some v := by simp [List.lookup]
    rw [q]
    exact r
  · rw [if_neg hw]
    have qw : (f == ("line" : Str)) = false := by simpa using hw
    have q2 : List.lookup f [(("line" : Str), v)] = none := by simp [List.lookup, qw]
    rw [q2]
    trivial
section
variable {X : Cx} {C fI : Addr} {B newId initId : String} {bmB : List Value}
/-- the error made, with its field: its own dict, new, holds it -/
def tMkF (C : Addr) (ta : TA) : L2.St → Hp → XK → Prop := fun σ H Q => ta σ H fun vs H1 => ∃ v, vs = [v] ∧ ∀ d, H1 d = none → Q (.ref C) (some d) (upd H1 d (.xd [(("line" : Str), v)]))
theorem pmk_fld {a : Expr} {ta : TA} {p pos : Pos} {k : Nat} (T : ExcF X.K C fI B newId initId bmB) (gC : X.mg "NoText" = some (.ref C)) (hr : Room k X.A) (ha : PA X [a] ta) (hg : Gl X "NoText" := by rfl)
    (he : starEach (a :: []) X.env = (false, eval a X.env) :: starEach [] X.env := by rfl) (hpl : (backTo pos (starEach [] X.env)).any (·.1) = false := by rfl) :
    PMk X (.Call (.Name "NoText" p) [a] [] pos) (tMkF C ta) := by
  intro pins s σ H Q I h
  refine wpAny_Call_Name_kw (ld_glob I hg gC ?_)
  refine PySem.W.callWith_K (h₀ := X.base) I.ok.mod.kin T.kC (thn (ha.run pos pins s σ H _ I h) fun us s1 hh => ?_) he hpl
  obtain ⟨vs, H1, I1, r1, v, ev, q1⟩ := hh
  subst ev
  refine ⟨I1.kIn, ?_⟩
  cases r1 with
  | cons rv rn =>
    rename_i v' us'
    cases rn
    show wpAny _ _ (call (.ref C) [v']) _ _ _
    have hlim := I1.nolimit
    obtain ⟨hp, g, dr, tk, os⟩ := s1
    refine wpAny_call (x_made T I1.kIn hlim (by have := hr.dp; omega) fun h' tk' e d M => ?_)
    show MkP X pins σ Q (.ref e) ⟨h', g, dr, tk', os⟩
    obtain ⟨oe, fv, hoe, hc, hd, hdat, h1⟩ := M.obj
    have hns := M.ns
    obtain ⟨G', g1, g2⟩ := restrict h' fun b => decide (b ≠ e)
    have gk : ∀ b, b ≠ e → G'.get? b = h'.get? b := fun b hb => g1 b (decide_eq_true hb)
    have ge : G'.get? e = none := g2 e (by simp)
    have old : ∀ b o, hp.get? b = some o → G'.get? b = some o := fun b o q => (gk b (Nat.ne_of_lt (Nat.lt_of_lt_of_le (Heap.lt_size q) M.new))).trans (M.keep b o q)
    have ob : ObjOk X.prog X.w (upd H1 d (.xd [(("line" : Str), v)])) G' d (.xd [(("line" : Str), v)]) :=
      ⟨_, hns.at (fun o q => (gk d M.dne).trans q), fun f => relO_fld rv f⟩
    have J : Inv X pins σ (upd H1 d (.xd [(("line" : Str), v)])) ⟨G', g, dr, tk', os⟩ := I1.laid (t' := tk') old M.dbig ob
    refine ⟨e, oe, fv, ⟨G', g, dr, tk', os⟩, _, .ref C, some d, rfl, J, fun b o q => ?_, ge, hoe, ⟨hc, hd⟩, hdat, h1, ?_, rfl, I1.bare, raises_own T.exC T.tyC, q1 d (I1.hok.fresh M.dbig)⟩
    · by_cases hb : b = e
      · have q' : G'.get? b = some o := q
        rw [hb, ge] at q'; cases q'
      · exact (gk b hb).symm.trans q
    · rw [upd_ne (Ne.symm M.dne)]
      exact I1.hok.fresh M.new
/-- e.line, e the exception that the suite holds -/
def tByF (C : Addr) (a : Addr) (cls : Value) (d : Option Addr) (te : TE) : TE := fun σ H Q => te σ H fun x H1 => x = .ref a ∧ cls = .ref C ∧ ∃ (dd : Addr) (v : V), d = some dd ∧ H1 dd = some (.xd [(("line" : Str), v)]) ∧ Q v H1
theorem pe_byF {a : Addr} {oe : Obj} {cls : Value} {d : Option Addr} {pn : List (Addr × Obj)} {e : Expr} {te : TE} {pos : Pos} (T : ExcF X.K C fI B newId initId bmB) (hz : Zc cls d oe) (hf : ∃ vs, oe.data = .fields vs) (he : PE (X.suite a ((a, oe) :: pn)) e te)
    (hb : attributeBase e "line" X.env (eval e X.env) = eval e X.env := by rfl) :
    PE (X.suite a ((a, oe) :: pn)) (.Attribute e "line" pos) (tByF C a cls d te) := by
  refine ⟨fun pins s σ H Q I h => ?_⟩
  refine attr_of hb (thn (he.run pins s σ H _ I h) fun u s1 hh => ?_)
  obtain ⟨x, H1, I1, rx, ex, ec, dd, v, ed, ea, q⟩ := hh
  subst ex
  obtain rfl : u = Value.ref a := rx
  subst ec
  subst ed
  obtain ⟨ha, _⟩ := I1.pin (a, oe) (List.mem_append_left _ List.mem_cons_self)
  obtain ⟨vs, hd⟩ := hf
  have hx : ObjOk X.prog X.w H1 s1.heap dd (.xd [(("line" : Str), v)]) := I1.hok dd _ ea
  obtain ⟨mA, hns, hr⟩ := hx
  obtain ⟨od, ho, hl⟩ := lookIn_ns hns
  have l : List.lookup ("line" : Str) [(("line" : Str), v)] = some v := by simp [List.lookup]
  obtain ⟨u, hu, ru⟩ := RelO.some_of (v := v) (o := mA "line") (by rw [← l]; exact hr "line")
  have J : PySem.W.InstAt s1.heap a oe C (some od) := ⟨ha, hz.1, by unfold PySem.W.notCls; rw [hd] <;> rfl, by rw [hz.2]; exact ho⟩
  exact HandSPX.exc_get I1.kIn J T.ga T.gg T.exC (PySem.W.findObj_own T.hdC T.noN rfl (by rw [hl, hu])) (handed_of ru) ⟨v, H1, I1.tok _, ru, q⟩
end
end XL
end Bb
set_option Elab.async false
set_option linter.all false
set_option maxRecDepth 100000
set_option maxHeartbeats 2000000
namespace Bb
open PySem PySem.SeqAt PySem.Spec PyProof.Rows L2
/-! repr of a tuple of a text and an own instance -/
theorem under_roomT {k : Nat} {A : Around} {args : Args} (h : Room (k + 1) A) : Room k (A.under (.builtin "tuple.__repr__" args)) := by
  obtain ⟨h1, h2, h3⟩ := h
  refine ⟨h1, ?_, ?_⟩
  · show A.depth + (Code.builtin "tuple.__repr__" args).weight + 3 * k + 5 < recursionLimit
    rw [show (Code.builtin "tuple.__repr__" args).weight = 1 from rfl]
    omega
  · show A.units + (Code.builtin "tuple.__repr__" args).cUnits + 16 * k + 200 < cLine
    rw [show (Code.builtin "tuple.__repr__" args).cUnits = 1 from rfl]
    omega
theorem quiet_tup (args : Args) : (Code.builtin "tuple.__repr__" args).quiet = true := Code.quiet_builtin args (by decide +kernel)
section
variable {X : Cx} {CX : CXT} {C f : Addr} {fd : FuncData} {ps : List Str} {sp : Sp} {k : Nat} {E : XK}
def rReprT2 (C : Addr) (sp : Sp) (E : XK) : List V → Hp → VK → Prop := fun xs H Q => ∃ (a b : Addr) (z0 z : Str), xs = [.ref a] ∧ H a = some (.tup [.str z0, .ref b]) ∧ (∃ dx fs, H b = some (.ins C dx fs)) ∧ (∀ H', Same H H' → sp [.ref b] H' (fun v H'' => v = .str z ∧ Same H' H'') E) ∧
  (tupleText [reprText z0, z]).length ≤ sizeLine ∧ ∀ H', Same H H' → Q (.str (tupleText [reprText z0, z])) H'
theorem call_reprT2 (F : FnL X.prog X.w X.K X.mg X.base CX k f fd ps sp) (gd : X.A.guards = some []) (hr : Room (k + 2) X.A) (hs : PySem.W.findIn X.K (.ref C) "__repr__" = some (some (.ref f))) (hf : PySem.W.isFn X.K (.ref f) = true)
    (hb : Binds X.K fd ps []) (hx : Passes CX X E) : CallR X (.builtin "repr") (rReprT2 C sp E) := by
  intro pins s σ H xs us Q I r h
  obtain ⟨a, b, z0, z, rfl, ha, ⟨dx, fs, hb0⟩, hsp, hz, q⟩ := h
  obtain ⟨u, rfl, ru⟩ := vals1 r
  cases ru
  obtain ⟨_, its, rv, o, e1, e2, n, e3⟩ := I.hok a _ ha
  have un := hr.units
  refine call_repr_slot (T := "tuple") (idr := "tuple.__repr__") (by omega) ⟨_, e1, e2⟩ PySem.F.slot_tuple_repr ?_
  refine wpAny_call ?_
  refine codeAny_call_builtin_own (quiet_tup _) PySem.F.entry_tuple_repr ?_
  refine PySem.F.slot_tuple_repr.check _ _ _ _ _ _ _ _ ⟨_, e1, e2⟩ (PySem.F.args_tuple_repr_1 _) ?_
  obtain ⟨c, ec⟩ : ∃ c, c = Code.builtin "tuple.__repr__" ⟨[.ref a], []⟩ := ⟨_, rfl⟩
  rw [← ec]
  show wpOwn _ _ c (Builtin.tupleReprAt 0 ⟨[.ref a], []⟩) _ _ _
  rw [tuple_repr_tree, tupleReprUnderWay_eq]
  refine wpOwn_bind (wpOwn_stackTailAny (g := []) gd (fun c p hc => ?_) (fun c p => ?_) ?_)
  · unfold tupGuardF
    split
    · rename_i id v rest kw p' e
      injection e with e1 e2
      by_cases hi : ["list.__repr__.loop", "tuple.__repr__", "dict.__repr__", "tuple.__repr__.under", "dict.__repr__.under"].contains id = true
      · exfalso
        rw [e1] at hc
        simp only [List.contains_cons, List.contains_nil, Bool.or_false, Bool.or_eq_true, beq_iff_eq] at hi
        rcases hi with rfl | rfl | rfl | rfl | rfl
        · exact absurd hc (show ¬ guardIds.contains "list.__repr__.loop" = false by decide)
        · exact absurd hc (show ¬ guardIds.contains "tuple.__repr__" = false by decide)
        · exact absurd hc (show ¬ guardIds.contains "dict.__repr__" = false by decide)
        · exact absurd hc (show ¬ guardIds.contains "tuple.__repr__.under" = false by decide)
        · exact absurd hc (show ¬ guardIds.contains "dict.__repr__.under" = false by decide)
      · rw [show (["list.__repr__.loop", "tuple.__repr__", "dict.__repr__", "tuple.__repr__.under", "dict.__repr__.under"].contains id) = false by simpa using hi, Bool.and_false]
    · rfl
  · unfold tupGuardF
    cases c with
    | builtin id args =>
      obtain ⟨pos, kw⟩ := args
      cases pos <;> rfl
    | _ => rfl
  show wpOwn _ _ c (tupleReprRest 0 (.ref a)) _ _ _
  refine wpOwn_of_wpAny ?_
  have room : Room k (X.A.in1.under c) := by
    rw [ec]
    exact under_roomT hr.in1
  have gds : (X.A.in1.under c).guards = some [c] := by
    show pushGuards c.guards X.A.guards = _
    rw [gd, ec]
    rfl
  have frs' : (X.A.in1.under c).frames = some X.stack := by
    show pushEnvs c.envs X.A.frames = _
    rw [ec]
    exact I.env0.frames
  obtain ⟨u1, u2, rfl, r1, r2⟩ : ∃ u1 u2, its = [u1, u2] ∧ RelV (.str z0) u1 ∧ RelV (.ref b) u2 := by
    cases rv with
    | cons r1 r2 =>
      cases r2 with
      | cons r2 r3 =>
        cases r3
        exact ⟨_, _, rfl, r1, r2⟩
  obtain ⟨t0, rfl⟩ := r1
  cases r2
  have sz := sizeLine_eq
  have zl : (reprText z0).length + z.length + 4 ≤ sizeLine := by
    have p1 := piled_le_tupleText [reprText z0, z]
    rw [piled_cons, piled_cons, piled_nil] at p1
    omega
  have un2 := room.un
  unfold tupleReprRest
  obtain ⟨hp, g0, d0, tk0, os0⟩ := s
  have ho : hp.get? a = some o := e1
  have hits : ∀ (Q' : Array Value → Shared → Prop) (E' : Value → Shared → Prop), Q' [Value.str z0 t0, Value.ref b].toArray ⟨hp, g0, d0, tk0, os0⟩ → wpAny (model X.prog X.w) (X.A.in1.under c) (Builtin.Tuple.tupleItemsOf (.ref a)) Q' E' ⟨hp, g0, d0, tk0, os0⟩ := fun Q' E' hq => by
    unfold Builtin.Tuple.tupleItemsOf
    wp_walk using AutoSeq1.wpAny_loadPart' ho
    rw [e3]
    wp_walk
    exact hq
  refine wpAny_bind (hits _ _ ?_)
  rw [show (forIn [Value.str z0 t0, Value.ref b].toArray ((#[] : Array Str), 0) tupBody) = (forIn [Value.str z0 t0, Value.ref b] ((#[] : Array Str), 0) tupBody) by simp]
  rw [List.forIn_cons]
  unfold tupBody
  refine wpAny_bind (wpAny_bind (wpAny_bind (ReprIs.str z0 t0 (by omega) _ (by show 0 + 1 + _ ≤ _; omega) _ _ _ _ fun tk1 => wpAny_pure ?_)))
  dsimp only
  rw [List.forIn_cons]
  have I1 := I.tok tk1
  obtain ⟨mA, J, _⟩ := ins_get I1.hok hb0
  obtain ⟨od, J, _⟩ := J.look
  have gk : GOk [c] H := by
    intro id v rest kw hm
    have q0 := List.mem_singleton.mp hm
    rw [ec] at q0
    injection q0 with q1 q2
    injection q2 with q3 q4
    injection q3 with q5 q6
    refine ⟨a, q5, fun z => ?_⟩
    rw [ha] at z
    cases z
  have env : Env0 X.prog X.w X.K X.mg X.base (X.A.in1.under c) X.stack ⟨hp, g0, d0, tk1, os0⟩ H := { I1.env0 with frames := frs' }
  have hl := F.args _ _ _ _ (hsp H (Same.refl H))
  have bnd := hb ⟨hp, g0, d0, tk1, os0⟩ [.ref b] I1.kIn (by simpa using hl)
  rw [List.append_nil] at bnd
  have cal := F.go [c] (X.A.in1.under c) X.stack ⟨hp, g0, d0, tk1, os0⟩ H ⟨[.ref b], []⟩ [.ref b] [.ref b] _ E gds gk room env bnd (.cons rfl .nil) (hsp H (Same.refl H))
  refine wpAny_bind (wpAny_bind (pyReprUnder_own (by show 0 + ((reprText z0).length + 2) + 1 ≤ sizeLine; omega) (by omega) I1.kIn J hs hf (wpAny_call (codeAny_mono cal ?_))))
  rintro (er | fl) s' hq
  · exact hx pins σ H _ er s' I1 hq
  · cases fl with
    | ret w' =>
      obtain ⟨v, H2, I2, rv2, rfl, s2⟩ := I1.after hq
      obtain ⟨t, rfl⟩ := rv2
      refine ⟨z, t, rfl, wpAny_pure ?_⟩
      show wpAny _ _ (pure _) _ _ _
      refine wpAny_pure ?_
      obtain ⟨hp2, g2, d2, tk2, os2⟩ := s'
      show wpAny _ _ (retStr (tupleText [reprText z0, z])) _ _ _
      obtain ⟨tt, ett⟩ : ∃ tt, tt = tupleText [reprText z0, z] := ⟨_, rfl⟩
      rw [← ett] at hz q ⊢
      wp_walk
      exact ⟨_, _, rfl, .str _, H2, I2.tok _, ⟨_, rfl⟩, q H2 s2⟩
    | next => exact hq.elim
    | brk => exact hq.elim
    | cont => exact hq.elim
end
end Bb
set_option Elab.async false
set_option linter.all false
set_option maxRecDepth 100000
set_option maxHeartbeats 2000000
namespace Bb
namespace Co
open PySem PySem.SeqAt PyProof.Rows
open AutoSeq1 (wpAny_loadPart')
open MeetsSeq MeetsSeq2 MeetsSeq3 SeqRoads2
/-! t != u of tuples of two, alike -/
theorem tup_ne2 {prog : Program} {w : World} {A : Around} {R : Result → Shared → Prop} {p q : Addr} {s : Shared} {u1 u2 v1 v2 : Value} {us vs : Array Value} {n m : Nat} {d1 d2 : Option Addr} {l1 l2 : Array (Option Value)} (hp1 : s.heap.get? p = some { cls := .type "tuple", dict := d1, data := .seq us n, slots := l1 }) (hq1 : s.heap.get? q = some { cls := .type "tuple", dict := d2, data := .seq vs m, slots := l2 }) (hz : us.toList.zip vs.toList = [(u1, v1), (u2, v2)]) (hs : us.size = 2) (hs2 : vs.size = 2)
    (h : wpAny (model prog w) A.in1 (eqBool u1 v1) (fun r s1 => r = true ∧ wpAny (model prog w) A.in1 (eqBool u2 v2) (fun r s2 => r = true ∧ R (.ok (.ret (.bool false))) s2) (fun e s' => R (.error e) s') s1) (fun e s' => R (.error e) s') s) :
    wpAny (model prog w) A.in1 (Builtin.«tuple.__ne__» ⟨[.ref p, .ref q], []⟩) (GQ.FinOf prog w A R) (fun e s' => R (.error e) s') s := by
  obtain ⟨hp, g, d, tk, os⟩ := s
  have f3 := AutoSeq1.sub_tuple_tuple
  wp_walk using wpAny_loadPart' hp1, wpAny_loadPart' hq1
  show wpAny _ _ (forIn (us.toList.zip vs.toList) ((none : Option PySem.Fin), ()) _) _ _ _
  rw [hz]
  rw [List.forIn_cons]
  refine wpAny_bind (wpAny_bind (wpAny_mono h (fun r s1 q => ?_) fun _ _ z => z))
  obtain ⟨rfl, q⟩ := q
  rw [if_neg (by decide)]
  refine wpAny_pure ?_
  dsimp only
  rw [List.forIn_cons]
  refine wpAny_bind (wpAny_bind (wpAny_mono q (fun r s1 q => ?_) fun _ _ z => z))
  obtain ⟨rfl, q⟩ := q
  rw [if_neg (by decide)]
  refine wpAny_pure ?_
  dsimp only
  rw [List.forIn_nil]
  refine wpAny_pure ?_
  dsimp only
  rw [hs, hs2]
  exact wpAny_pure q
end Co
open PySem PySem.Spec PyProof.Rows L2
section
variable {X : Cx} {n : Nat} {D : Eqv}
def rNeT2 (D : Eqv) : R2 := fun x y H Q => ∃ a b z p q, x = .ref a ∧ y = .ref b ∧ H a = some (.tup [.str z, p]) ∧ H b = some (.tup [.str z, q]) ∧ D p q H ∧ ∀ H', Ext H H' → Q (.bl false) H'
/-- ("..", x) != ("..", y): the same text, x and y equal by their own == -/
theorem op_neT2 (hD : Mon D) (h : EqG X n D) (hr : Room (n + 1) X.A) : OpR X (compareOp .NotEq) (rNeT2 D) := by
  intro pins s σ H x y v u Q I rx ry hq
  obtain ⟨a, b, z, p, q, rfl, rfl, ha, hb, d, qq⟩ := hq
  cases rx
  cases ry
  show wpAny (model X.prog X.w) X.A (richCompare .NotEq (.ref a) (.ref b)) (EP X pins σ Q) X.xe s
  obtain ⟨_, its, rv, o, e1, e2, k, e3⟩ := I.hok a _ ha
  obtain ⟨_, its2, rv2, o2, f1, f2, k2, f3⟩ := I.hok b _ hb
  obtain ⟨c1, d1, t1, l1⟩ := o
  obtain ⟨c2, d2, t2, l2⟩ := o2
  have e2 : c1 = .type "tuple" := e2
  have f2 : c2 = .type "tuple" := f2
  have e3 : t1 = .seq its.toArray k := e3
  have f3 : t2 = .seq its2.toArray k2 := f3
  subst e2 f2 e3 f3
  obtain ⟨u1, u2, rfl, r1, r2⟩ : ∃ u1 u2, its = [u1, u2] ∧ RelV (.str z) u1 ∧ RelV p u2 := by
    cases rv with
    | cons r1 r2 =>
      cases r2 with
      | cons r2 r3 =>
        cases r3
        exact ⟨_, _, rfl, r1, r2⟩
  obtain ⟨w1, w2, rfl, q1, q2⟩ : ∃ u1 u2, its2 = [u1, u2] ∧ RelV (.str z) u1 ∧ RelV q u2 := by
    cases rv2 with
    | cons r1 r2 =>
      cases r2 with
      | cons r2 r3 =>
        cases r3
        exact ⟨_, _, rfl, r1, r2⟩
  refine wpAny_richCompare_same_room (op := .NotEq) ⟨_, e1, rfl⟩ ⟨_, f1, rfl⟩ PySem.F.slot_tuple_ne (GQ.call_here PySem.F.slot_tuple_ne ⟨_, e1, rfl⟩ PySem.F.entry_tuple_ne (PySem.F.args_tuple_ne_2 _ _) ?_) hr.units0
  refine Co.tup_ne2 (R := wants (fun v s' => v ≠ .notImplemented ∧ EP X pins σ Q v s') X.xe) e1 f1 rfl rfl rfl ?_
  have hr0 : Room n X.A.in1 := hr.in1
  have z0 : DFlat (.str z) (.str z) H := ⟨rfl, rfl, by show (z == z) = true; exact beq_self_eq_true _⟩
  have g1 : wpAny (model X.prog X.w) X.A.in1 (eqBool u1 w1) (fun r s' => r = true ∧ ∃ H', Inv X pins σ H' s' ∧ Ext H H') X.xe s := eqG_flat (X := X) X.A.in1 pins s σ H (.str z) (.str z) u1 w1 ⟨hr0.mono (Nat.zero_le _), rfl⟩ I r1 q1 z0
  refine wpAny_mono g1 (fun r s1 hh => ?_) fun _ _ e => e
  obtain ⟨er, H1, I1, x1⟩ := hh
  have g2 : wpAny (model X.prog X.w) X.A.in1 (eqBool u2 w2) (fun r s' => r = true ∧ ∃ H', Inv X pins σ H' s' ∧ Ext H1 H') X.xe s1 := h X.A.in1 pins s1 σ H1 p q u2 w2 ⟨hr0, rfl⟩ I1 r2 q2 (hD _ _ _ _ x1 d)
  refine ⟨er, wpAny_mono g2 (fun r2 s2 hh2 => ?_) fun _ _ e => e⟩
  obtain ⟨er2, H2, I2, x2⟩ := hh2
  refine ⟨er2, ?_⟩
  exact ⟨(fun e => nomatch e), .bl false, H2, I2, rfl, qq H2 (x1.trans x2)⟩
end
end Bb
set_option Elab.async false
set_option linter.all false
set_option maxRecDepth 100000
set_option maxHeartbeats 2000000
namespace Bb
open PySem PySem.SeqAt PySem.Spec PyProof.Rows L2
/-! isinstance(e, T), T a builtin class that e is one of, e with a dict of its own -/
theorem isinst_sub {prog : Program} {w : World} {A : Around} {E : Value → Shared → Prop} {s : Shared} {K : PySem.W.Frag}
  {x D : Addr} {ox od : Obj} {Q : Value → Shared → Prop} {T : String} (KI : K.In s.heap) (J : PySem.W.InstAt s.heap x ox D (some od)) (hT : typeOf (Value.type T) = pure (Value.type "type")) (hm : PySem.W.mroIn K D (.type T) = some true)
   (q : Q (.bool true) s) : wpAny (model prog w) A (call (.builtin "isinstance") [.ref x, .type T]) Q E s := by
  refine PyProof.Rows.call_isinstance_of ?_
  have h1 := fun (A : Around) (Q : Value → Shared → Prop) (E : Value → Shared → Prop) (q : Q (.ref D) s) => (J.type (M := model prog w)).here (A := A) (Q := Q) (E := E) q
  have h2 := fun (A : Around) (Q : Bool → Shared → Prop) (E : Value → Shared → Prop) (q : Q true s) => (PySem.W.looks_mroIn (M := model prog w) KI hm).here (A := A) (Q := Q) (E := E) q
  unfold Builtin.«isinstance.nested»
  dsimp only
  refine wpAny_bind (h1 _ _ _ ?_)
  rw [if_neg (show ¬ (Value.ref D == Value.type T) = true from fun z => by cases z), hT]
  refine wpAny_bind (wpAny_pure ?_)
  rw [if_pos (show (Value.type "type" == Value.type "type") = true from rfl)]
  obtain ⟨hp, g, d, tk, os⟩ := s
  have jx : hp.get? x = some ox := J.at_
  wp_walk using AutoSeq1.wpAny_loadPart' jx
  rw [J.cls]
  refine h2 _ _ _ ?_
  rw [if_pos rfl]
  wp_walk
  exact q

def rIsTd (T : String) (a dd : Addr) : List V → Hp → VK → Prop := fun xs H Q => xs = [.ref a, .ty T] ∧ (∃ fs, H dd = some (.xd fs)) ∧ Q (.bl true) H
theorem call_isTd {X : Cx} {a D dd : Addr} {oe : Obj} {T : String} (hp : (a, oe) ∈ X.pn) (hm : PySem.W.mroIn X.K D (.type T) = some true) (hT : typeOf (Value.type T) = pure (Value.type "type")) (hz : Zc (.ref D) (some dd) oe) (hf : ∃ vs, oe.data = .fields vs) : CallR X (.builtin "isinstance") (rIsTd T a dd) := by
  intro pins s σ H xs us Q I r h
  obtain ⟨rfl, ⟨fs, hd⟩, q⟩ := h
  obtain ⟨u1, u2, rfl, r1, r2⟩ := vals2 r
  cases r1
  cases r2
  have there := (I.pin (a, oe) (List.mem_append_left _ hp)).1
  obtain ⟨vs, hv⟩ := hf
  have hx : ObjOk X.prog X.w H s.heap dd (.xd fs) := I.hok dd _ hd
  obtain ⟨mA, hns, hr⟩ := hx
  obtain ⟨od, ho, hl⟩ := lookIn_ns hns
  have J : PySem.W.InstAt s.heap a oe D (some od) := ⟨there, hz.1, by unfold PySem.W.notCls; rw [hv] <;> rfl, by rw [hz.2]; exact ho⟩
  exact isinst_sub I.kIn J hT hm ⟨.bl true, H, I, rfl, q⟩
end Bb
set_option Elab.async false
set_option linter.all false
set_option maxRecDepth 100000
set_option maxHeartbeats 2000000
namespace Bb
open PySem PySem.SeqAt PySem.Spec PyProof.Rows L2
/-! isinstance(e, C), isinstance(e, (C, D)): e the own exception that a suite holds, with a dict of its own -/
def rIsEd (K : PySem.W.Frag) (D a dd : Addr) : List V → Hp → VK → Prop := fun xs H Q => ∃ (c : V) (cv : Value) (b : Bool), xs = [.ref a, c] ∧ (∀ u, RelV c u → u = cv) ∧ PySem.W.kitOne K (.ref D) cv = some b ∧ (∃ fs, H dd = some (.xd fs)) ∧ Q (.bl b) H
def rIsEdT (K : PySem.W.Frag) (D a dd : Addr) : List V → Hp → VK → Prop := fun xs H Q => ∃ (tp : Addr) (cs : List V) (ws : List Value) (b : Bool), xs = [.ref a, .ref tp] ∧ H tp = some (.tup cs) ∧ Paired ClsV cs ws ∧ PySem.W.kitAny K (.ref D) ws = some b ∧ (∃ fs, H dd = some (.xd fs)) ∧ Q (.bl b) H
theorem exc_held {X : Cx} {a D dd : Addr} {oe : Obj} {pins : List (Addr × Obj)} {s : Shared} {σ : L2.St} {H : Hp} (I : Inv X pins σ H s) (hp : (a, oe) ∈ X.pn) (hz : Zc (.ref D) (some dd) oe) (hf : ∃ vs, oe.data = .fields vs) (hx : ∃ fs, H dd = some (.xd fs)) : ∃ od, PySem.W.InstAt s.heap a oe D (some od) := by
  have there := (I.pin (a, oe) (List.mem_append_left _ hp)).1
  obtain ⟨vs, hv⟩ := hf
  obtain ⟨fs, hd⟩ := hx
  have hx : ObjOk X.prog X.w H s.heap dd (.xd fs) := I.hok dd _ hd
  obtain ⟨mA, hns, hr⟩ := hx
  obtain ⟨od, ho, hl⟩ := lookIn_ns hns
  exact ⟨od, there, hz.1, by unfold PySem.W.notCls; rw [hv] <;> rfl, by rw [hz.2]; exact ho⟩
theorem held_cls {K : PySem.W.Frag} {D : Addr} (h : PySem.W.hasDictIn K D = true) : (PySem.W.clsIn K D).isSome = true := by
  unfold PySem.W.hasDictIn at h
  cases e : PySem.W.clsIn K D with
  | none =>
    rw [e] at h
    cases h
  | some c => rfl
theorem call_isEd {X : Cx} {a D dd : Addr} {oe : Obj} (hp : (a, oe) ∈ X.pn) (C : ExcC X.K D) (hz : Zc (.ref D) (some dd) oe) (hf : ∃ vs, oe.data = .fields vs) : CallR X (.builtin "isinstance") (rIsEd X.K D a dd) := by
  intro pins s σ H xs us Q I r h
  obtain ⟨c, cv, b, rfl, hcv, e, hx, q⟩ := h
  obtain ⟨u1, u2, rfl, r1, r2⟩ := vals2 r
  cases r1
  have ec := hcv _ r2
  subst ec
  obtain ⟨od, J⟩ := exc_held I hp hz hf hx
  exact PySem.W.kia_one (PySem.W.kitx_exc (held_cls C.hd) C.hg C.hk C.hs C.ha C.hn C.ht C.hm) I.kIn J e (fun z => nomatch z) fun tk => ⟨.bl b, H, I.tok tk, rfl, q⟩
theorem call_isEdT {X : Cx} {a D dd : Addr} {oe : Obj} (hp : (a, oe) ∈ X.pn) (C : ExcC X.K D) (hz : Zc (.ref D) (some dd) oe) (hf : ∃ vs, oe.data = .fields vs) : CallR X (.builtin "isinstance") (rIsEdT X.K D a dd) := by
  intro pins s σ H xs us Q I r h
  obtain ⟨tp, cs, ws, b, rfl, hT, k, e, hx, q⟩ := h
  obtain ⟨u1, u2, rfl, r1, r2⟩ := vals2 r
  cases r1
  cases (show u2 = Value.ref tp from r2)
  obtain ⟨od, J⟩ := exc_held I hp hz hf hx
  obtain ⟨_, its, rv, o, h1, h2, n, h3⟩ := (show ObjOk X.prog X.w H s.heap tp (.tup cs) from I.hok tp _ hT)
  have e3 := ClsV.all k rv
  subst e3
  obtain ⟨oc, od2, dt, sl⟩ := o
  simp only at h2 h3
  subst h2 h3
  exact PySem.W.kia_tup (PySem.W.kitx_exc (held_cls C.hd) C.hg C.hk C.hs C.ha C.hn C.ht C.hm) I.kIn J h1 e (fun z => nomatch z) fun tk => ⟨.bl b, H, I.tok tk, rfl, q⟩
theorem call_or {X : Cx} {f : Value} {r1 r2 : List V → Hp → VK → Prop} (h1 : CallR X f r1) (h2 : CallR X f r2) : CallR X f (fun xs H Q => r1 xs H Q ∨ r2 xs H Q) := fun pins s σ H xs us Q I rx h => by
  rcases h with h | h
  · exact h1 pins s σ H xs us Q I rx h
  · exact h2 pins s σ H xs us Q I rx h
end Bb
set_option Elab.async false
set_option linter.all false
set_option maxRecDepth 100000
set_option maxHeartbeats 4000000
namespace K13
open PySem PySem.Spec PyProof.Rows L2 Bb

/-! the text by places -/
def top (i : Nat) : Stmt := PySem.Challenge.pw_bestsbook_k13_texts_that_write_none.main.body.getD i (.Pass ⟨0, 0, 0, 0⟩)
abbrev sIsNum : Stmt := top 12
abbrev sFrom : Stmt := top 13
abbrev sIsName : Stmt := top 14
abbrev sIsDay : Stmt := top 15
abbrev sIsHour : Stmt := top 16
abbrev sIsWind : Stmt := top 17
abbrev sIsMark : Stmt := top 21
abbrev sCell : Stmt := top 37
abbrev sPen : Stmt := top 38
abbrev sDraw : Stmt := top 39
abbrev sPick : Stmt := top 40
abbrev sAny : Stmt := top 41
abbrev sName : Stmt := top 42
abbrev sNum : Stmt := top 44
abbrev sLName : Stmt := top 45
abbrev sWhen : Stmt := top 43
abbrev sFeat : Stmt := top 46
abbrev sIsFeat : Stmt := top 47
abbrev sFeats : Stmt := top 48
abbrev sShown : Stmt := top 49
abbrev sValues : Stmt := top 50
abbrev sBent : Stmt := top 55
abbrev sLaw : Stmt := top 56
abbrev sIni : Stmt := inClass (top 23) 0
abbrev sEq : Stmt := inClass (top 23) 1
abbrev sStr : Stmt := inClass (top 23) 2
abbrev sRepr : Stmt := inClass (top 23) 3
abbrev sParts : Stmt := inClass (top 23) 4
abbrev sTime : Stmt := inClass (top 23) 5
abbrev sSIni : Stmt := inClass (top 27) 0
abbrev sSEq : Stmt := inClass (top 27) 1
abbrev sSLen : Stmt := inClass (top 27) 2
abbrev sSStr : Stmt := inClass (top 27) 3
abbrev sSRepr : Stmt := inClass (top 27) 4
abbrev sSSorted : Stmt := inClass (top 27) 5
abbrev sSAll : Stmt := inClass (top 27) 8
abbrev sSHas : Stmt := inClass (top 27) 10
abbrev sSAt : Stmt := inClass (top 27) 6
abbrev sSPlus : Stmt := inClass (top 27) 7
abbrev sSBy : Stmt := inClass (top 27) 9
abbrev sAreD : Stmt := top 26
abbrev sWrites : Stmt := top 33
abbrev sDeedOf : Stmt := top 34
abbrev sRead : Stmt := top 35
abbrev sFigs : Stmt := top 51
abbrev sRowIn : Stmt := top 52
abbrev sDue : Stmt := top 53
abbrev sLRead : Stmt := top 54
abbrev sNTI : Stmt := inClass (top 5) 0
abbrev Fn (K : PySem.W.Frag) (x q : Str) (st : Stmt) (f : Addr) (fd : FuncData) : Prop := FunD K x q (defArgs st) (defBody st) (defScope st) [] [] f fd

/-! things of any kind, as the law makes them -/
inductive Th (H : Hp) : V → Prop where
  | non : Th H .non
  | bl (b : Bool) : Th H (.bl b)
  | int (i : Int) : Th H (.int i)
  | str (z : Str) : Th H (.str z)
  | lst {a : Addr} {xs : List V} (h : H a = some (.lst xs)) : Th H (.ref a)
  | tup {a : Addr} {xs : List V} (h : H a = some (.tup xs)) : Th H (.ref a)
  | dic {a : Addr} {kvs : List (Key × V)} (h : H a = some (.dK kvs)) : Th H (.ref a)
def isNum : V → Bool
  | .int _ => true
  | _ => false
def numIn (lo hi : Int) : V → Bool
  | .int i => decide (lo ≤ i) && decide (i ≤ hi)
  | _ => false
def anInt : V → Bool
  | .int _ => true
  | .bl _ => true
  | _ => false
def aBool : V → Bool
  | .bl _ => true
  | _ => false
theorem kt {a b : String} {r r' : Bool} (h : kitB a b = some r) (e : r = r') : kitB a b = some r' := by
  rw [← e]
  exact h
theorem Th.ty {K : PySem.W.Frag} {H : Hp} {x : V} (h : Th H x) : ∃ n, TyX K H x (.type n) ∧ kitB n "int" = some (anInt x) ∧ kitB n "bool" = some (aBool x) := by
  cases h with
  | non => exact ⟨_, .base .non, kt (r := false) (by decide +kernel) rfl, kt (r := false) (by decide +kernel) rfl⟩
  | bl b => exact ⟨_, .base (.bl b), kt (r := true) (by decide +kernel) rfl, kt (r := true) (by decide +kernel) rfl⟩
  | int i => exact ⟨_, .base (.int i), kt (r := true) (by decide +kernel) rfl, kt (r := false) (by decide +kernel) rfl⟩
  | str z => exact ⟨_, .base (.str z), kt (r := false) (by decide +kernel) rfl, kt (r := false) (by decide +kernel) rfl⟩
  | lst h => exact ⟨_, .base (.lst h), kt (r := false) (by decide +kernel) rfl, kt (r := false) (by decide +kernel) rfl⟩
  | tup h => exact ⟨_, .base (.tup h), kt (r := false) (by decide +kernel) rfl, kt (r := false) (by decide +kernel) rfl⟩
  | dic h => exact ⟨_, .base (.dK h), kt (r := false) (by decide +kernel) rfl, kt (r := false) (by decide +kernel) rfl⟩
/-- the built-in names are nobody else's -/
structure Free (mg : Str → Option Value) : Prop where
  isi : mg "isinstance" = none
  int_ : mg "int" = none
  bool_ : mg "bool" = none
  tup_ : mg "tuple" = none
  list_ : mg "list" = none
  str_ : mg "str" = none
  len_ : mg "len" = none
  all_ : mg "all" = none
  rng_ : mg "range" = none
  enu_ : mg "enumerate" = none
  rep_ : mg "repr" = none
  min_ : mg "min" = none
  max_ : mg "max" = none
  srt_ : mg "sorted" = none
  zip_ : mg "zip" = none
  ve_ : mg "ValueError" = none
  le_ : mg "LookupError" = none

/-! is_number, is_number_from, _law_number -/
def spIsNum : Sp := fun vs H Q _ => ∃ x, vs = [x] ∧ Th H x ∧ Q (.bl (isNum x)) H
def spFrom : Sp := fun vs H Q _ => ∃ x lo hi, vs = [x, .int lo, .int hi] ∧ Th H x ∧ Q (.bl (numIn lo hi x)) H
section
variable {P : Program} {w : World} {K : PySem.W.Frag} {mg : Str → Option Value} {base : Heap} {f : Addr} {fd : FuncData}
theorem scIsNum : FnScope ["thing"] ["thing"] (defScope sIsNum) := ⟨rfl, rfl, rfl, by decide +kernel, rfl, by decide +kernel, by decide +kernel⟩
theorem ok_isnum (F : Fn K "is_number" "is_number" sIsNum f fd) (T : Free mg) : FnOk P w K mg base L2.CX0 1 f fd ["thing"] spIsNum := by
  refine F.ok scIsNum (fun vs H Q E h => ?_) (fun cdv A outer s H vs Q E hr h => ?_)
  · obtain ⟨x, rfl, _⟩ := h
    rfl
  · obtain ⟨x, rfl, hx, q⟩ := h
    obtain ⟨n, ty, k1, k2⟩ := hx.ty (K := K)
    refine ⟨_, PSs.nox (pss_one (ps_ret (pe_and (pe_callB call_isi rfl T.isi boot_isinstance (pa_cons (pv 0) (pa_cons (pe_bltn rfl T.int_ (by decide +kernel) (v := .ty "int") rfl) pa_nil)))
      (pe_one (pe_not (pe_callB call_isi rfl T.isi boot_isinstance (pa_cons (pv 0) (pa_cons (pe_bltn rfl T.bool_ (by decide +kernel) (v := .ty "bool") rfl) pa_nil)))))))), ?_⟩
    refine ⟨x, rfl, _, _, _, _, _, rfl, .ty "int", ty, kit_ty k1, _, rfl, ?_⟩
    cases x with
    | int i => exact ⟨_, rfl, _, _, _, _, _, rfl, .ty "bool", ty, kit_ty k2, _, rfl, q⟩
    | bl b => exact ⟨_, rfl, _, _, _, _, _, rfl, .ty "bool", ty, kit_ty k2, _, rfl, q⟩
    | _ => exact q
theorem scFrom : FnScope ["thing", "least", "most"] ["thing", "least", "most"] (defScope sFrom) := ⟨rfl, rfl, rfl, by decide +kernel, rfl, by decide +kernel, by decide +kernel⟩
theorem ok_from {fN : Addr} {fdN : FuncData} (F : Fn K "is_number_from" "is_number_from" sFrom f fd) (FN : Fn K "is_number" "is_number" sIsNum fN fdN) (gN : mg "is_number" = some (.ref fN)) (T : Free mg) : FnOk P w K mg base L2.CX0 2 f fd ["thing", "least", "most"] spFrom := by
  have GN : FnOk P w K mg base L2.CX0 1 fN fdN ["thing"] spIsNum := ok_isnum FN T
  have bN : Binds K fdN ["thing"] [] := FN.bindsN fun _ _ _ _ _ _ us hl => match us, hl with | [_], _ => rfl
  refine F.ok scFrom (fun vs H Q E h => ?_) (fun cdv A outer s H vs Q E hr h => ?_)
  · obtain ⟨x, lo, hi, rfl, _⟩ := h
    rfl
  · obtain ⟨x, lo, hi, rfl, hx, q⟩ := h
    refine ⟨_, PSs.nox (pss_one (ps_ret (pe_and (pe_call GN hr rfl gN FN.kp bN .nil pass0 (pa_cons (pv 0) pa_nil)) (pe_one (pe_chain op_le op_le (pv 1) (pv 0) (pv 2)))))), ?_⟩
    refine ⟨x, rfl, x, rfl, hx, _, rfl, ?_⟩
    cases x with
    | int i =>
      refine ⟨_, rfl, _, rfl, _, _, rfl, rfl, _, rfl, ?_⟩
      refine ite2 (fun c => ?_) (fun c => ?_)
      · refine ⟨_, rfl, _, _, rfl, rfl, ?_⟩
        have e : numIn lo hi (.int i) = decide (i ≤ hi) := by
          show (decide (lo ≤ i) && decide (i ≤ hi)) = _
          rw [c, Bool.true_and]
        rw [e] at q
        exact q
      · have e : numIn lo hi (.int i) = false := by
          show (decide (lo ≤ i) && decide (i ≤ hi)) = _
          rw [Bool.eq_false_iff.mpr c, Bool.false_and]
        rw [e] at q
        exact q
    | _ => exact q
end
end K13
set_option Elab.async false
set_option linter.all false
set_option maxRecDepth 100000
set_option maxHeartbeats 4000000
namespace K13
open PySem PySem.Spec PyProof.Rows L2 Bb
theorem same_upd {H H' : Hp} {D : Addr} {o : HO} (s : Same H H') (hD : H D = none) : Same H (upd H' D o) := fun b u e => by
  rw [upd_ne (ne_of_none e hD)]
  exact s b u e
theorem sqt_same {K : PySem.W.Frag} {H H' : Hp} {a : Addr} {xs : List V} (h : SqT K H a xs) (s : Same H H') : SqT K H' a xs := h.ext s
theorem sql_same {K : PySem.W.Frag} {H H' : Hp} {a : Addr} {xs : List V} (h : SqL K H a xs) (s : Same H H') : SqL K H' a xs := h.ext s
theorem get_map {ns : List Int} {i : Nat} {x : V} (h : (ns.map V.int)[i]? = some x) : ∃ n, ns[i]? = some n ∧ x = .int n := by
  rw [List.getElem?_map] at h
  cases e : ns[i]? with
  | none =>
    rw [e] at h
    cases h
  | some n =>
    rw [e] at h
    exact ⟨n, rfl, (Option.some.inj h).symm⟩
/-- a constant of the module -/
def IsI (mg : Str → Option Value) (x : Str) (i : Int) : Prop := ∃ t, mg x = some (.int i t)
theorem pe_k {X : Cx} {x : Str} {i : Int} {pos : Pos} (h : IsI X.mg x i) (hg : Gl X x) (hd : (x == ("__debug__" : Str)) = false := by decide) : PE X (.Name x pos) (tC (.int i)) := by
  obtain ⟨t, e⟩ := h
  exact pe_glob hg e ⟨t, rfl⟩ hd
structure ErrT (K : PySem.W.Frag) (mg : Str → Option Value) (x : Str) (C : Addr) : Prop where
  g : mg x = some (.ref C)
  ex : PySem.W.excIn K C He.veBase "ValueError.__new__" = true
  kp : PySem.W.keepIn K (.ref C) = true
  sb : PySem.W.subIn K (.ref C) (.type "BaseException") = some true
  ty : PySem.W.typeIn K (.ref C) = some (.type "type")
/-- a text of the module -/
def IsS (mg : Str → Option Value) (x z : Str) : Prop := ∃ t, mg x = some (.str z t)
theorem pe_kS {X : Cx} {x z : Str} {pos : Pos} (h : IsS X.mg x z) (hg : Gl X x) (hd : (x == ("__debug__" : Str)) = false := by decide) : PE X (.Name x pos) (tC (.str z)) := by
  obtain ⟨t, e⟩ := h
  exact pe_glob hg e ⟨t, rfl⟩ hd
abbrev letters : Str := "abcdefghijklmnopqrstuvwxyz"
structure Cons (mg : Str → Option Value) : Prop where
  day : IsI mg "MOST_DAY" 40000
  hour : IsI mg "LAST_HOUR" 23
  wind : IsI mg "MOST_WIND" 99
  least : IsI mg "LEAST_MARK" 1
  most : IsI mg "MOST_MARK" 1000000
  long : IsI mg "LONGEST_NAME" 8
  deeds : IsI mg "MOST_DEEDS" 60
  wod : IsI mg "WORDS_OF_DEED" 7
  mfig : IsI mg "MOST_FIGURES" 7
  lett : IsS mg "LETTERS" letters
  nod : IsS mg "NO_DEEDS" (Str.ofString "none")
  figs : IsS mg "FIGURES" (Str.ofString "0123456789")
end K13
set_option Elab.async false
set_option linter.all false
set_option maxRecDepth 100000
set_option maxHeartbeats 4000000
namespace K13
open PySem PySem.Spec PyProof.Rows L2 Bb
/-! the law's pen: a list of two ints; all else stays -/
def Pen (H : Hp) (p : Addr) : Prop := ∃ x f : Int, H p = some (.lst [.int x, .int f])
structure Kp (p : Addr) (H H' : Hp) : Prop where
  keep : ∀ b o, H b = some o → b ≠ p → H' b = some o
  pen : Pen H' p
theorem Kp.refl {p : Addr} {H : Hp} (h : Pen H p) : Kp p H H := ⟨fun _ _ e _ => e, h⟩
theorem Kp.trans {p : Addr} {H H1 H2 : Hp} (a : Kp p H H1) (b : Kp p H1 H2) : Kp p H H2 := ⟨fun c o e n => b.keep c o (a.keep c o e n) n, b.pen⟩
theorem Kp.same {p : Addr} {H H1 H2 : Hp} (a : Kp p H H1) (s : Same H1 H2) : Kp p H H2 := ⟨fun c o e n => s c o (a.keep c o e n), let ⟨x, f, e⟩ := a.pen; ⟨x, f, s _ _ e⟩⟩
theorem Kp.free {p q : Addr} {H H' : Hp} (a : Kp p H H') (hp : Pen H p) (h : H' q = none) : H q = none := by
  cases e : H q with
  | none => rfl
  | some o =>
    by_cases z : q = p
    · obtain ⟨x, f, e2⟩ := a.pen
      rw [z, e2] at h
      cases h
    · rw [a.keep _ _ e z] at h
      cases h
theorem pen_ne {H : Hp} {p a : Addr} {o : HO} (hp : Pen H p) (h : H a = some o) (n : ∀ x f : Int, o ≠ .lst [.int x, .int f]) : a ≠ p := by
  rintro rfl
  obtain ⟨x, f, e⟩ := hp
  rw [h] at e
  exact n x f (Option.some.inj e)
def spCell (K : PySem.W.Frag) : Sp := fun vs H Q _ => ∃ (a : Addr) (ns : List Int), vs = [.ref a, .int 0] ∧ SqL K H a (ns.map V.int) ∧ ns.length ≤ 63 ∧ ∀ z, Q (.int z) H
def spPen : Sp := fun vs H Q _ => ∃ z : Int, vs = [.int z] ∧ ∀ p H', H p = none → Same H H' → Pen H' p → Q (.ref p) H'
def spDraw : Sp := fun vs H Q _ => ∃ (p : Addr) (m : Int), vs = [.ref p, .int m] ∧ Pen H p ∧ (0 < m ∧ m < 1073741824) ∧ ∀ r H', 0 ≤ r → r < m → Kp p H H' → Q (.int r) H'
def spPick (K : PySem.W.Frag) : Sp := fun vs H Q _ => ∃ (p a : Addr) (xs : List V), vs = [.ref p, .ref a] ∧ Pen H p ∧ H a = some (.lst xs) ∧ a ≠ p ∧ (0 < xs.length ∧ xs.length ≤ 1000) ∧ ∀ v H', v ∈ xs → Kp p H H' → Q v H'
section
variable {P : Program} {w : World} {K : PySem.W.Frag} {mg : Str → Option Value} {base : Heap} {f : Addr} {fd : FuncData}
theorem scCell : FnScope ["_law_script", "_law_k"] ["_law_script", "_law_k"] (defScope sCell) := ⟨rfl, rfl, rfl, by decide +kernel, rfl, by decide +kernel, by decide +kernel⟩
theorem ok_cell (F : Fn K "_law_cell" "_law_cell" sCell f fd) (T : Free mg) : FnOk P w K mg base L2.CX0 1 f fd ["_law_script", "_law_k"] (spCell K) := by
  refine F.ok scCell (fun vs H Q E h => ?_) (fun cdv A outer s H vs Q E hr hh => ?_)
  · obtain ⟨a, ns, rfl, _⟩ := h
    rfl
  · obtain ⟨a, ns, rfl, ha, hn, q⟩ := hh
    refine ⟨_, PSs.nox (pss_cons (ps_if (pt_cmpR op_lt (pv 1) (pe_callB call_len_seq rfl T.len_ boot_len (pa_cons (pv 0) pa_nil)) (nomark _)) (pss_one (ps_ret (pe_ix ix_list (pv 0) (pv 1) (fun _ _ => rfl)))) pss_nil) (pss_one (ps_ret pe_int))), ?_⟩
    refine ⟨_, rfl, _, rfl, a, _, rfl, .inl ha, _, _, rfl, rfl, _, rfl, ?_⟩
    refine ite2 (fun c => ?_) (fun c => ?_)
    · have c' : (0 : Int) < (((ns.map V.int).length : Nat) : Int) := of_decide_eq_true c
      rw [List.length_map] at c'
      have h0 : (ns.map V.int)[0]? = some (V.int (ns[0]'(by omega))) := by
        rw [List.getElem?_map, List.getElem?_eq_getElem (by omega)]
        rfl
      exact ⟨_, rfl, _, rfl, a, _, 0, _, rfl, rfl, ha, at_of (j := 0) rfl h0, q _⟩
    · exact q 0
theorem scPen : FnScope ["_law_cell_here"] ["_law_cell_here"] (defScope sPen) := ⟨rfl, rfl, rfl, by decide +kernel, rfl, by decide +kernel, by decide +kernel⟩
theorem ok_pen (F : Fn K "_law_pen" "_law_pen" sPen f fd) (T : Free mg) : FnOk P w K mg base L2.CX0 1 f fd ["_law_cell_here"] spPen := by
  refine F.ok scPen (fun vs H Q E h => ?_) (fun cdv A outer s H vs Q E hr hh => ?_)
  · obtain ⟨z, rfl, _⟩ := h
    rfl
  · obtain ⟨z, rfl, q⟩ := hh
    refine ⟨_, PSs.nox (pss_one (ps_ret (pe_lst (pa_cons (pv 0) (pa_cons (pe_callTy call_int1 rfl T.int_ (by decide +kernel) (pa_cons (pe_cmpR op_ge (pv 0) (pe_op op_pow pe_int pe_int) (nomark _)) pa_nil)) pa_nil))))), ?_⟩
    refine ⟨_, rfl, _, rfl, _, _, rfl, rfl, ⟨by decide, by decide, by decide⟩, _, _, rfl, rfl, .inr ⟨_, rfl, ?_⟩⟩
    refine ⟨(by show 2 ≤ sizeLine; decide), fun p hp => ?_⟩
    exact q p _ hp (same_upd (Same.refl H) hp) ⟨_, _, upd_same⟩
theorem scDraw : FnScope ["_law_pen_here", "_law_many", "_law_drawn"] ["_law_pen_here", "_law_many"] (defScope sDraw) := ⟨rfl, rfl, rfl, by decide +kernel, rfl, by decide +kernel, by decide +kernel⟩
theorem ok_draw (F : Fn K "_law_draw" "_law_draw" sDraw f fd) : FnOk P w K mg base L2.CX0 1 f fd ["_law_pen_here", "_law_many"] spDraw := by
  refine F.ok scDraw (fun vs H Q E h => ?_) (fun cdv A outer s H vs Q E hr hh => ?_)
  · obtain ⟨p, m, rfl, _⟩ := h
    rfl
  · obtain ⟨p, m, rfl, ⟨x, g, hp⟩, ⟨m0, m1⟩, q⟩ := hh
    refine ⟨_, PSs.nox (pss_cons (ps_if (pt_cmpR op_eq (pe_ix ix_list (pv 0) pe_int (fun _ _ => rfl)) pe_int (nomark _))
        (pss_cons (ps_set (i := 2) scDraw.nd rfl (.inl rfl) (pe_op op_mod (pe_ix ix_list (pv 0) pe_int (fun _ _ => rfl)) (pv 1)))
        (pss_cons (ps_asg (pe_op op_fdiv (pe_ix ix_list (pv 0) pe_int (fun _ _ => rfl)) (pv 1)) (pg_sub (pv 0) pe_int set_list))
        (pss_one (ps_ret (pv 2))))) pss_nil)
      (pss_cons (ps_asg (pe_op op_mod (pe_op op_add (pe_op op_mul (pe_op op_mod (pe_ix ix_list (pv 0) pe_int (fun _ _ => rfl)) pe_int) pe_int) pe_int) pe_int) (pg_sub (pv 0) pe_int set_list))
      (pss_one (ps_ret (pe_op op_mod (pe_op op_fdiv (pe_op op_mod (pe_op op_add (pe_op op_mul (pe_ix ix_list (pv 0) pe_int (fun _ _ => rfl)) (pe_ix ix_list (pv 0) pe_int (fun _ _ => rfl)))
        (pe_op op_mul pe_int (pe_ix ix_list (pv 0) pe_int (fun _ _ => rfl)))) pe_int) pe_int) (pv 1)))))), ?_⟩
    have i0 : ∀ {a b : V}, atI [a, b] (0 : Int) = some a := fun {a b} => at_of (j := 0) rfl rfl
    have i1 : ∀ {a b : V}, atI [a, b] (1 : Int) = some b := fun {a b} => at_of (j := 1) rfl rfl
    refine ⟨_, rfl, p, _, 1, _, rfl, rfl, SqL.of hp, i1, rfl, _, rfl, ?_⟩
    refine ite2 (fun c => ?_) (fun c => ?_)
    · refine ⟨_, rfl, p, _, 0, _, rfl, rfl, SqL.of hp, i0, _, rfl, x, m, rfl, rfl, m0, ?_⟩
      refine ⟨_, rfl, p, _, 0, _, rfl, rfl, SqL.of hp, i0, _, rfl, x, m, rfl, rfl, ⟨m0, m1⟩, ?_⟩
      refine ⟨_, rfl, p, _, 0, 0, rfl, rfl, hp, rfl, _, rfl, ?_⟩
      refine q _ _ (Int.emod_nonneg _ (by omega)) (Int.emod_lt_of_pos _ m0) ⟨fun b o e n => ?_, ?_⟩
      · rw [upd_ne n]
        exact e
      · exact ⟨x / m, g, upd_same⟩
    · refine ⟨_, rfl, p, _, 0, _, rfl, rfl, SqL.of hp, i0, x, 2147483629, rfl, rfl, (by show (0 : Int) < 2147483629; decide), ?_⟩
      have b1 := Int.emod_nonneg x (show (2147483629 : Int) ≠ 0 by decide)
      have b2 := Int.emod_lt_of_pos x (show (0 : Int) < 2147483629 by decide)
      refine ⟨_, _, rfl, rfl, .inl ⟨by omega, by omega⟩, _, _, rfl, rfl, _, _, rfl, rfl, (by show (0 : Int) < 2147483629; decide), ?_⟩
      have c1 := Int.emod_nonneg (x % 2147483629 * 48271 + 11) (show (2147483629 : Int) ≠ 0 by decide)
      have c2 := Int.emod_lt_of_pos (x % 2147483629 * 48271 + 11) (show (0 : Int) < 2147483629 by decide)
      obtain ⟨z, hz⟩ : ∃ z, z = (x % 2147483629 * 48271 + 11) % 2147483629 := ⟨_, rfl⟩
      rw [← hz] at c1 c2
      refine ⟨_, rfl, p, _, 0, 0, rfl, rfl, hp, rfl, ?_⟩
      have hp2 : (upd H p (.lst ([V.int x, V.int g].set 0 (.int ((x % 2147483629 * 48271 + 11) % 2147483629))))) p = some (.lst [.int z, .int g]) := by
        rw [hz]
        exact upd_same
      refine ⟨_, rfl, p, _, 0, _, rfl, rfl, SqL.of hp2, i0, _, rfl, p, _, 0, _, rfl, rfl, SqL.of hp2, i0, z, z, rfl, rfl, .inl ⟨by omega, by omega⟩, ?_⟩
      refine ⟨_, rfl, p, _, 0, _, rfl, rfl, SqL.of hp2, i0, 40692, z, rfl, rfl, .inl ⟨by decide, by decide⟩, ?_⟩
      refine ⟨_, _, rfl, rfl, _, _, rfl, rfl, (by show (0 : Int) < 2147483647; decide), _, _, rfl, rfl, ⟨by decide, by decide⟩, _, rfl, _, _, rfl, rfl, m0, ?_⟩
      refine q _ _ (Int.emod_nonneg _ (by omega)) (Int.emod_lt_of_pos _ m0) ⟨fun b o e n => ?_, ?_⟩
      · rw [upd_ne n]
        exact e
      · exact ⟨z, g, hp2⟩
theorem scPick : FnScope ["_law_pen_here", "_law_things"] ["_law_pen_here", "_law_things"] (defScope sPick) := ⟨rfl, rfl, rfl, by decide +kernel, rfl, by decide +kernel, by decide +kernel⟩
theorem ok_pick {fD : Addr} {fdD : FuncData} (F : Fn K "_law_pick" "_law_pick" sPick f fd) (FD : Fn K "_law_draw" "_law_draw" sDraw fD fdD) (gD : mg "_law_draw" = some (.ref fD)) (T : Free mg) : FnOk P w K mg base L2.CX0 2 f fd ["_law_pen_here", "_law_things"] (spPick K) := by
  have GD : FnOk P w K mg base L2.CX0 1 fD fdD ["_law_pen_here", "_law_many"] spDraw := ok_draw FD
  have bD : Binds K fdD ["_law_pen_here", "_law_many"] [] := FD.bindsN fun _ _ _ _ _ _ us hl => match us, hl with | [_, _], _ => rfl
  refine F.ok scPick (fun vs H Q E h => ?_) (fun cdv A outer s H vs Q E hr hh => ?_)
  · obtain ⟨p, a, xs, rfl, _⟩ := h
    rfl
  · obtain ⟨p, a, xs, rfl, hp, ha, ne, hl, q⟩ := hh
    refine ⟨_, PSs.nox (pss_one (ps_ret (pe_ix ix_list (pv 1) (pe_call GD hr rfl gD FD.kp bD .nil pass0 (pa_cons (pv 0) (pa_cons (pe_callB call_len_seq rfl T.len_ boot_len (pa_cons (pv 1) pa_nil)) pa_nil))) (fun _ _ => rfl)))), ?_⟩
    refine ⟨_, rfl, _, rfl, _, rfl, a, xs, rfl, .inl (SqL.of ha), p, _, rfl, hp, ⟨by omega, by omega⟩, fun r H' r0 r1 kp => ?_⟩
    have hlt : r.toNat < xs.length := by omega
    refine ⟨a, xs, r, xs[r.toNat], rfl, rfl, SqL.of (kp.keep _ _ ha ne), ?_, q _ _ (List.getElem_mem _) kp⟩
    exact at_of (j := r.toNat) (by omega) (List.getElem?_eq_getElem hlt)
end
end K13
set_option Elab.async false
set_option linter.all false
set_option maxRecDepth 100000
set_option maxHeartbeats 4000000
namespace K13
open PySem PySem.Spec PyProof.Rows L2 Bb
theorem Th.kp {H H' : Hp} {p : Addr} {x : V} (h : Th H x) (k : Kp p H H') : Th H' x := by
  have one : ∀ {a : Addr} {o : HO}, H a = some o → Th H (.ref a) → (∀ H2 : Hp, H2 a = some o → Th H2 (.ref a)) → Th H' (.ref a) := by
    intro a o e _ back
    by_cases z : a = p
    · obtain ⟨x, f, e2⟩ := k.pen
      rw [z]
      exact .lst e2
    · exact back H' (k.keep _ _ e z)
  cases h with
  | non => exact .non
  | bl b => exact .bl b
  | int i => exact .int i
  | str z => exact .str z
  | lst e => exact one e (.lst e) fun _ e2 => .lst e2
  | tup e => exact one e (.tup e) fun _ e2 => .tup e2
  | dic e => exact one e (.dic e) fun _ e2 => .dic e2
theorem Th.same {H H' : Hp} {x : V} (h : Th H x) (s : Same H H') : Th H' x := by
  cases h with
  | non => exact .non
  | bl b => exact .bl b
  | int i => exact .int i
  | str z => exact .str z
  | lst e => exact .lst (s _ _ e)
  | tup e => exact .tup (s _ _ e)
  | dic e => exact .dic (s _ _ e)
theorem pen_same {H H' : Hp} {p : Addr} (h : Pen H p) (s : Same H H') : Pen H' p := by
  obtain ⟨x, f, e⟩ := h
  exact ⟨x, f, s _ _ e⟩
theorem up1 {H H1 : Hp} {q : Addr} {o : HO} (s : Same H H1) (h : H1 q = none) : Same H (upd H1 q o) := same_upd s (Same.free s h)
theorem up2 {H1 : Hp} {q : Addr} {o : HO} (h : H1 q = none) : Same H1 (upd H1 q o) := same_upd (Same.refl _) h
section
variable {P : Program} {w : World} {K : PySem.W.Frag} {mg : Str → Option Value} {base : Heap} {f : Addr} {fd : FuncData}
/-- the law's first helpers as they stand -/
structure Hl (K : PySem.W.Frag) (mg : Str → Option Value) : Prop where
  draw : ∃ a d, Fn K "_law_draw" "_law_draw" sDraw a d ∧ mg "_law_draw" = some (.ref a)
  pick : ∃ a d, Fn K "_law_pick" "_law_pick" sPick a d ∧ mg "_law_pick" = some (.ref a)
  fr : Free mg
theorem Hl.dr (h : Hl K mg) : ∃ a d, FnOk P w K mg base L2.CX0 1 a d ["_law_pen_here", "_law_many"] spDraw ∧ mg "_law_draw" = some (.ref a) ∧ PySem.W.keepIn K (.ref a) = true ∧ Binds K d ["_law_pen_here", "_law_many"] [] := by
  obtain ⟨a, d, F, g⟩ := h.draw
  exact ⟨a, d, ok_draw F, g, F.kp, F.bindsN fun _ _ _ _ _ _ us hl => match us, hl with | [_, _], _ => rfl⟩
theorem Hl.pk (h : Hl K mg) : ∃ a d, FnOk P w K mg base L2.CX0 2 a d ["_law_pen_here", "_law_things"] (spPick K) ∧ mg "_law_pick" = some (.ref a) ∧ PySem.W.keepIn K (.ref a) = true ∧ Binds K d ["_law_pen_here", "_law_things"] [] := by
  obtain ⟨a1, d1, F1, g1⟩ := h.draw
  obtain ⟨a, d, F, g⟩ := h.pick
  exact ⟨a, d, ok_pick F F1 g1 h.fr, g, F.kp, F.bindsN fun _ _ _ _ _ _ us hl => match us, hl with | [_, _], _ => rfl⟩
end
end K13
set_option Elab.async false
set_option linter.all false
set_option maxRecDepth 100000
set_option maxHeartbeats 4000000
namespace K13
open PySem PySem.Spec PyProof.Rows L2 Bb
/-! things of any kind, as data -/
theorem Sm.str {z : Str} (h : (reprText z).length ≤ 200) : Sm (.str z) := ⟨rfl, Nat.zero_le _, h, fun z => (by cases z), fun ds z => (by cases z)⟩
theorem sm_t0 : Sm (.tuple []) := by exact ⟨by decide +kernel, by decide +kernel, by decide +kernel, by decide +kernel, fun ds e => by first | (cases e; done) | (cases e; decide +kernel)⟩
theorem sm_l0 : Sm (.list []) := by exact ⟨by decide +kernel, by decide +kernel, by decide +kernel, by decide +kernel, fun ds e => by first | (cases e; done) | (cases e; decide +kernel)⟩
theorem sm_d0 : Sm (.dict []) := by exact ⟨by decide +kernel, by decide +kernel, by decide +kernel, by decide +kernel, fun ds e => by first | (cases e; done) | (cases e; decide +kernel)⟩
theorem sm_t1 : Sm (.tuple [.int 0]) := by exact ⟨by decide +kernel, by decide +kernel, by decide +kernel, by decide +kernel, fun ds e => by first | (cases e; done) | (cases e; decide +kernel)⟩
theorem sm_t1b : Sm (.tuple [.int 1]) := by exact ⟨by decide +kernel, by decide +kernel, by decide +kernel, by decide +kernel, fun ds e => by first | (cases e; done) | (cases e; decide +kernel)⟩
theorem sm_l1 : Sm (.list [.int 0]) := by exact ⟨by decide +kernel, by decide +kernel, by decide +kernel, by decide +kernel, fun ds e => by first | (cases e; done) | (cases e; decide +kernel)⟩
theorem sm_tt : Sm (.tuple [.tuple []]) := by exact ⟨by decide +kernel, by decide +kernel, by decide +kernel, by decide +kernel, fun ds e => by first | (cases e; done) | (cases e; decide +kernel)⟩
theorem sm_t2 : Sm (.tuple [.int 1, .int 2]) := by exact ⟨by decide +kernel, by decide +kernel, by decide +kernel, by decide +kernel, fun ds e => by first | (cases e; done) | (cases e; decide +kernel)⟩
theorem sm_d1 : Sm (.dict [(.int 0, .int 0)]) := by exact ⟨by decide +kernel, by decide +kernel, by decide +kernel, by decide +kernel, fun ds e => by first | (cases e; done) | (cases e; decide +kernel)⟩
/-- all but the pen's address -/
abbrev Zp (p : Addr) : Addr → Prop := fun b => b = p
theorem Kp.keeps {p : Addr} {H H' : Hp} (k : Kp p H H') : Keeps (Zp p) H H' := fun b o e _ n => k.keep b o e n
/-- what stood at the entry -/
abbrev Old (H : Hp) : Addr → Prop := fun b => H b ≠ none
theorem Kp.keepsO {p : Addr} {H H' : Hp} {Z : Addr → Prop} (k : Kp p H H') (z : Z p) : Keeps Z H H' := fun b o e _ n => k.keep b o e fun q => n (by rw [q]; exact z)
theorem pen_old {p : Addr} {H : Hp} (hp : Pen H p) : H p ≠ none := fun z => by
  obtain ⟨x, f, e⟩ := hp
  rw [z] at e
  cases e
mutual
/-- no text, no list is long -/
def shortD : PyData → Bool
  | .str z => decide (z.length ≤ 100000) && PyData.canLay0 (.str z)
  | .list ds => decide (ds.length ≤ 1000) && shortAll ds
  | .tuple ds => decide (ds.length ≤ 1000) && shortAll ds
  | _ => true
def shortAll : List PyData → Bool
  | [] => true
  | d :: ds => shortD d && shortAll ds
end
def itemsD : PyData → List PyData
  | .list ds => ds
  | .tuple ds => ds
  | _ => []
def t9D : PyData → Bool
  | .str z => (TL.tl z).all (fun c => decide (c = 9) || decide (okC c))
  | _ => true
def layD (d : PyData) : Bool := PyData.canLayAll0 (itemsD d) && decide (PyData.depthAll (itemsD d) ≤ 8) && t9D d
def spThingD : Sp := fun vs H Q _ => ∃ p, vs = [.ref p] ∧ Pen H p ∧ ∀ v d H', Kp p H H' → Da (Old H) H' v d → Sm d → shortD d = true → layD d = true → Q v H'
def spOddD : Sp := fun vs H Q _ => ∃ (p : Addr) (lo hi : Int), vs = [.ref p, .int lo, .int hi] ∧ Pen H p ∧ (lo.natAbs < 10 ^ 17 ∧ hi.natAbs < 10 ^ 17) ∧ ∀ v d H', Kp p H H' → Da (Old H) H' v d → Sm d → shortD d = true → layD d = true → PyData.canLay0 d = true → Q v H'
section
variable {P : Program} {w : World} {K : PySem.W.Frag} {mg : Str → Option Value} {base : Heap} {f : Addr} {fd : FuncData}
theorem scAny : FnScope ["_law_pen_here", "_law_odd"] ["_law_pen_here"] (defScope sAny) := ⟨rfl, rfl, rfl, by decide +kernel, rfl, by decide +kernel, by decide +kernel⟩
theorem ok_any (F : Fn K "_law_anything" "_law_anything" sAny f fd) (h : Hl K mg) : FnOk P w K mg base L2.CX0 3 f fd ["_law_pen_here"] spThingD := by
  obtain ⟨aP, dP, GP, gP, kP, bP⟩ := h.pk (P := P) (w := w) (base := base)
  refine F.ok scAny (fun vs H Q E h => ?_) (fun cdv A outer s H vs Q E hr hh => ?_)
  · obtain ⟨p, rfl, _⟩ := h
    rfl
  · obtain ⟨p, rfl, hp, q⟩ := hh
    refine ⟨_, PSs.nox (pss_cons (ps_set (i := 1) scAny.nd rfl (.inl rfl) (pe_lst (pa_cons pe_non (pa_cons pe_bl (pa_cons pe_bl (pa_cons pe_str (pa_cons pe_str (pa_cons pe_str (pa_cons (pe_tup pa_nil) (pa_cons (pe_lst pa_nil) (pa_cons pe_dnewK
        (pa_cons (pe_un un_neg pe_int) (pa_cons (pe_op op_pow pe_int pe_int) (pa_cons pe_int (pa_cons pe_int (pa_cons (pe_tup (pa_cons pe_int pa_nil)) (pa_cons (pe_lst (pa_cons pe_int pa_nil)) (pa_cons (pe_tup (pa_cons (pe_tup pa_nil) pa_nil))
        (pa_cons (pe_tup (pa_cons pe_int (pa_cons pe_int pa_nil))) (pa_cons (pe_disp (pps_cons pe_int pe_int pps_nil) (by rfl) (by rfl) (fun z => by cases z) (by decide)) pa_nil))))))))))))))))))))
      (pss_one (ps_ret (pe_call GP hr rfl gP kP bP .nil pass0 (pa_cons (pv 0) (pa_cons (pv 1) pa_nil)))))), ?_⟩
    have zs : 0 ≤ sizeLine := Nat.zero_le _
    have os : 1 ≤ sizeLine := by decide
    have ts : 2 ≤ sizeLine := by decide
    refine ⟨zs, fun t1 h1 => ⟨zs, fun l1 h2 => fun d1 h3 => ⟨_, rfl, _, _, rfl, rfl, ⟨by decide, by decide, by decide⟩, os, fun t2 h4 => ⟨os, fun l2 h5 => ⟨zs, fun t3 h6 => ⟨os, fun t4 h7 => ⟨ts, fun t5 h8 => fun d2 h9 => ⟨upd_same, [(Sum.inl 0, .int 0)], rfl, (by decide), ?_⟩⟩⟩⟩⟩⟩⟩⟩
    refine ⟨(by show 18 ≤ sizeLine; decide), fun L hL => ?_⟩
    have c1 := up2 (o := .tup []) h1
    have c2 := up2 (o := .lst []) h2
    have c3 := up2 (o := .dK []) h3
    have c4 := up2 (o := .tup [V.int 0]) h4
    have c5 := up2 (o := .lst [V.int 0]) h5
    have c6 := up2 (o := .tup []) h6
    have c7 := up2 (o := .tup [V.ref t3]) h7
    have c8 := up2 (o := .tup [V.int 1, V.int 2]) h8
    have c10 := same_upd (o := .dK (mergeK [] [(Sum.inl 0, V.int 0)])) (up2 (o := .dK []) h9) h9
    have r9 := up2 (o := .lst [.non, .bl true, .bl false, .str "", .str "ann", .str "less", .ref t1, .ref l1, .ref d1, .int (-1), .int (10 ^ 39), .int 0, .int 7, .ref t2, .ref l2, .ref t4, .ref t5, .ref d2]) hL
    have r8 := c10.trans r9
    have r7 := c8.trans r8
    have r6 := c7.trans r7
    have r5 := c6.trans r6
    have r4 := c5.trans r5
    have r3 := c4.trans r4
    have r2 := c3.trans r3
    have r1 := c2.trans r2
    have r0 := c1.trans r1
    have hp' := pen_same hp r0
    refine ⟨_, rfl, _, rfl, p, L, _, rfl, hp', upd_same, ?_, ⟨(by show 0 < 18; decide), (by show 18 ≤ 1000; decide)⟩, fun v H' hv kp => ?_⟩
    · exact pen_ne hp' upd_same (fun x f z => by injection z with z; injection z with z _; cases z)
    · have k2 := ((Kp.refl hp).same r0).trans kp
      have kk : Keeps (Old H) _ _ := Kp.keepsO kp (pen_old hp)
      have fin : ∀ {u : V} {d : PyData}, Da (Old H) _ u d → Sm d → shortD d = true → layD d = true → Q u H' := fun {u d} a s t y => q u d H' k2 (Da.keep kk _ _ a) s t y
      have b1 := c1
      have b2 := b1.trans c2
      have b3 := b2.trans c3
      have b4 := b3.trans c4
      have b5 := b4.trans c5
      have b6 := b5.trans c6
      have b7 := b6.trans c7
      have b8 := b7.trans c8
      have fr : ∀ {G : Hp} {t : Addr}, Same H G → G t = none → ¬ Old H t := fun s e z => z (Same.free s e)
      simp only [List.mem_cons, List.not_mem_nil, or_false] at hv
      rcases hv with rfl | rfl | rfl | rfl | rfl | rfl | rfl | rfl | rfl | rfl | rfl | rfl | rfl | rfl | rfl | rfl | rfl | rfl
      · exact fin .non Sm.non (by first | rfl | decide +kernel) (by first | rfl | decide +kernel)
      · exact fin (.bl _) (Sm.bl _) (by first | rfl | decide +kernel) (by first | rfl | decide +kernel)
      · exact fin (.bl _) (Sm.bl _) (by first | rfl | decide +kernel) (by first | rfl | decide +kernel)
      · exact fin (.str _) (Sm.str (by decide +kernel)) (by first | rfl | decide +kernel) (by first | rfl | decide +kernel)
      · exact fin (.str _) (Sm.str (by decide +kernel)) (by first | rfl | decide +kernel) (by first | rfl | decide +kernel)
      · exact fin (.str _) (Sm.str (by decide +kernel)) (by first | rfl | decide +kernel) (by first | rfl | decide +kernel)
      · have e := r1 _ _ upd_same
        exact fin (.tup e (fr (Same.refl H) h1) .nil) sm_t0 (by first | rfl | decide +kernel) (by first | rfl | decide +kernel)
      · have e := r2 _ _ upd_same
        exact fin (.lst e (fr b1 h2) .nil) sm_l0 (by first | rfl | decide +kernel) (by first | rfl | decide +kernel)
      · have e := r3 _ _ upd_same
        exact fin (.d0 e (fr b2 h3)) sm_d0 (by first | rfl | decide +kernel) (by first | rfl | decide +kernel)
      · exact fin (.int _) (Sm.int (by decide)) (by first | rfl | decide +kernel) (by first | rfl | decide +kernel)
      · exact fin (.int _) (Sm.int (by decide +kernel)) (by first | rfl | decide +kernel) (by first | rfl | decide +kernel)
      · exact fin (.int _) (Sm.int (by decide)) (by first | rfl | decide +kernel) (by first | rfl | decide +kernel)
      · exact fin (.int _) (Sm.int (by decide)) (by first | rfl | decide +kernel) (by first | rfl | decide +kernel)
      · have e := r4 _ _ upd_same
        exact fin (.tup e (fr b3 h4) (.cons (.int _) .nil)) sm_t1 (by first | rfl | decide +kernel) (by first | rfl | decide +kernel)
      · have e := r5 _ _ upd_same
        exact fin (.lst e (fr b4 h5) (.cons (.int _) .nil)) sm_l1 (by first | rfl | decide +kernel) (by first | rfl | decide +kernel)
      · have e := r7 _ _ upd_same
        have e3 := r6 _ _ upd_same
        exact fin (.tup e (fr b6 h7) (.cons (.tup e3 (fr b5 h6) .nil) .nil)) sm_tt (by first | rfl | decide +kernel) (by first | rfl | decide +kernel)
      · have e := r8 _ _ upd_same
        exact fin (.tup e (fr b7 h8) (.cons (.int _) (.cons (.int _) .nil))) sm_t2 (by first | rfl | decide +kernel) (by first | rfl | decide +kernel)
      · have e := r9 _ _ upd_same
        exact fin (.d1 e (fr b8 h9)) sm_d1 (by first | rfl | decide +kernel) (by first | rfl | decide +kernel)
end
end K13
set_option Elab.async false
set_option linter.all false
set_option maxRecDepth 100000
set_option maxHeartbeats 4000000
namespace K13
open PySem PySem.Spec PyProof.Rows L2 Bb
/-! what a name, a way, an event, a mark is -/
def nameZ (z : Str) : Bool := decide (1 ≤ z.length ∧ z.length ≤ 8) && z.cps.toList.all (fun c => decide (c ∈ letters.cps.toList))
def nameD : PyData → Bool
  | .str z => nameZ z
  | _ => false
def wayZ (z : Str) : Bool := decide (z = "less") || decide (z = "more")
def wayD : PyData → Bool
  | .str z => wayZ z
  | _ => false
def markD : PyData → Bool
  | .int i => decide (1 ≤ i) && decide (i ≤ 1000000)
  | _ => false
def evD : PyData → Bool
  | .tuple [n, w, b] => nameD n && (wayD w && dBool b)
  | _ => false
def spPred (p : PyData → Bool) : Sp := fun vs H Q _ => ∃ (Z : Addr → Prop) (x : V) (d : PyData), vs = [x] ∧ Da Z H x d ∧ shortD d = true ∧ ∀ H', Same H H' → Q (.bl (p d)) H'
theorem nameZ_of {z : Str} {b : Bool} (h1 : 1 ≤ z.length) (h2 : z.length ≤ 8) (e : b = z.cps.toList.all (fun c => decide (c ∈ letters.cps.toList))) : nameZ z = b := by
  unfold nameZ
  rw [decide_eq_true ⟨h1, h2⟩, Bool.true_and, e]
theorem nameZ_no {z : Str} (h : ¬ (1 ≤ z.length ∧ z.length ≤ 8)) : nameZ z = false := by
  unfold nameZ
  rw [decide_eq_false h, Bool.false_and]
theorem take_sn {α : Type} {l : List α} {i : Nat} {x : α} (h : l[i]? = some x) : l.take (i + 1) = l.take i ++ [x] := by
  rw [List.take_succ, h]
  rfl
theorem strlen (z : Str) : z.length = z.cps.toList.length := by
  show z.cps.size = _
  rw [Array.length_toList]
theorem sign_at {z : Str} {i : Nat} {c : Nat} (h : z.cps[i]? = some c) : z.cps.toList[i]? = some c := by
  rw [Array.getElem?_toList]
  exact h
section
variable {P : Program} {w : World} {K : PySem.W.Frag} {mg : Str → Option Value} {base : Heap} {f : Addr} {fd : FuncData}
theorem scIsName : FnScope ["thing", "letter"] ["thing"] (defScope sIsName) := ⟨rfl, rfl, rfl, by decide +kernel, rfl, by decide +kernel, by decide +kernel⟩
theorem ok_isname (F : Fn K "is_name" "is_name" sIsName f fd) (T : Free mg) (C : Cons mg) : FnOk P w K mg base L2.CX0 1 f fd ["thing"] (spPred nameD) := by
  refine F.ok scIsName (fun vs H Q E h => ?_) (fun cdv A outer s H vs Q E hr hh => ?_)
  · obtain ⟨Z, x, d, rfl, _⟩ := h
    rfl
  · obtain ⟨Z, x, d, rfl, hx, sh, q⟩ := hh
    obtain ⟨n, ty⟩ := hx.ty (K := K)
    refine ⟨_, PSs.nox (pss_cons (ps_if (PW.pt (pw_or (pt_not (pt_val (pe_callB call_isi rfl T.isi boot_isinstance (pa_cons (pv 0) (pa_cons (pe_bltn rfl T.str_ (by decide +kernel) (v := .ty "str") rfl) pa_nil)))))
        (pw_or1 (pt_not (pt_chain op_le op_le pe_int (pe_callB call_len_str rfl T.len_ boot_len (pa_cons (pv 0) pa_nil)) (pe_k C.long rfl)))))) (pss_one (ps_ret pe_bl)) pss_nil)
      (pss_one (ps_ret (pe_callB (cr_all rfl) rfl T.all_ (by decide +kernel) (pa_cons (pe_lc (own := [("letter", 1)]) (g := gName 1) (tt := tYes) rfl scIsName.nd (pi_str (pv 0)) (blkOk_by (N := ["thing", "letter"]) (sc := defScope sIsName) (by decide +kernel)) (fun _ _ _ _ _ => pg_name (i := 1) scIsName.nd rfl (Or.inl rfl)) (fun _ _ _ _ _ => pts_nil)
        (fun _ _ _ _ _ => pe_cmpR op_in_sign (pv 1) (pe_kS C.lett rfl) rfl)) pa_nil))))), ?_⟩
    refine ⟨_, rfl, _, _, _, _, _, rfl, .ty "str", ty.ty, kit_ty ty.s, _, rfl, ?_⟩
    cases d with
    | str z =>
      cases hx
      refine iteF ?_
      have hz : z.length ≤ 100000 := of_decide_eq_true (Bool.and_eq_true_iff.mp sh).1
      refine ⟨_, rfl, z, rfl, (by have := sizeLine_eq; omega), _, _, rfl, rfl, _, rfl, ?_⟩
      refine ite2 (fun c => ?_) (fun c => ?_)
      · have h1 : (1 : Int) ≤ (z.length : Int) := of_decide_eq_true c
        refine ⟨_, _, rfl, rfl, _, rfl, ?_⟩
        refine ite2 (fun c2 => ?_) (fun c2 => ?_)
        · have h2 : ¬ ((z.length : Int) ≤ 8) := by simpa using c2
          have e : nameD (.str z) = false := nameZ_no (fun z => h2 (by omega))
          rw [e] at q
          exact q H (Same.refl H)
        · have h2 : ((z.length : Int) ≤ 8) := by simpa using c2
          refine ⟨_, rfl, z, rfl, fun D hD => lc_it walk_str (fun i H' => Same H H' ∧ H' D = some (.lst ((z.cps.toList.take i).map fun c => V.bl (decide (c ∈ letters.cps.toList)))))
            ⟨up2 hD, by rw [List.take_zero]; exact upd_same⟩ (fun _ _ _ _ => True.intro) ?_ ?_⟩
          · rintro i v H1 H2 hi ⟨sm, hl⟩ ⟨rfl, c, hc, rfl⟩
            refine ⟨rfl, ?_⟩
            unfold tYes
            dsimp only
            rw [if_pos rfl]
            refine ⟨_, rfl, c, _, rfl, rfl, _, hl, small1000 ?_, same_upd sm hD, ?_⟩
            · rw [List.length_map, List.length_take]
              have := strlen z
              omega
            · rw [upd_same, take_sn (sign_at hc), List.map_append]
              rfl
          · rintro H1 ⟨sm, hl⟩
            rw [show z.cps.size = z.cps.toList.length by rw [Array.length_toList], List.take_length] at hl
            refine ⟨D, z.cps.toList.map (fun c => decide (c ∈ letters.cps.toList)), rfl, ?_, ?_⟩
            · have e : (z.cps.toList.map (fun c => decide (c ∈ letters.cps.toList))).map V.bl = z.cps.toList.map fun c => V.bl (decide (c ∈ letters.cps.toList)) := by
                rw [List.map_map]
                rfl
              rw [e]
              exact SqL.of hl
            · have e : nameD (.str z) = (z.cps.toList.map (fun c => decide (c ∈ letters.cps.toList))).all id := nameZ_of (by omega) (by omega) (by rw [List.all_map]; rfl)
              rw [e] at q
              exact q H1 sm
      · have h1 : ¬ ((1 : Int) ≤ (z.length : Int)) := fun z => c (decide_eq_true z)
        refine ⟨_, rfl, iteT ?_⟩
        have e : nameD (.str z) = false := nameZ_no (fun z => h1 (by omega))
        rw [e] at q
        exact q H (Same.refl H)
    | _ => exact q H (Same.refl H)
end
end K13
set_option Elab.async false
set_option linter.all false
set_option maxRecDepth 100000
set_option maxHeartbeats 4000000
namespace K13
open PySem PySem.Spec PyProof.Rows L2 Bb
theorem da_th {Z : Addr → Prop} {H : Hp} {x : V} {d : PyData} (h : Da Z H x d) : Th H x := by
  cases h with
  | non => exact .non
  | bl b => exact .bl b
  | int i => exact .int i
  | str z => exact .str z
  | lst e _ _ => exact .lst e
  | tup e _ _ => exact .tup e
  | d0 e _ => exact .dic e
  | d1 e _ => exact .dic e
end K13
set_option Elab.async false
set_option linter.all false
set_option maxRecDepth 100000
set_option maxHeartbeats 4000000
namespace K13
open PySem PySem.Spec PyProof.Rows L2 Bb
theorem sign_ok {z : Str} {i : Nat} {c : Nat} (h : PyData.canLay0 (.str z) = true) (e : z.cps[i]? = some c) : PyData.canLay0 (.str ⟨#[c]⟩) = true := by
  have h1 : z.cps.all (· < 0x110000) = true := h
  show (#[c] : Array Nat).all (· < 0x110000) = true
  rw [Array.all_eq_true_iff_forall_mem] at h1 ⊢
  intro x hx
  have ex : x = c := by simpa using hx
  rw [ex]
  exact h1 c (Array.mem_of_getElem? e)
/-- the signs that are no letters, as data -/
def oddSigns (l : List Nat) : List Nat := l.filter fun c => !decide (c ∈ letters.cps.toList)
def sV (l : List Nat) : List V := l.map fun c => V.str ⟨#[c]⟩
def sD (l : List Nat) : List PyData := l.map fun c => PyData.str ⟨#[c]⟩
theorem dp_signs {K : PySem.W.Frag} {H : Hp} : ∀ l : List Nat, DpAll K H (sV l) (sD l)
  | [] => .nil
  | c :: l => .cons (.str _) (dp_signs l)
theorem lay_signs : ∀ {l : List Nat}, (∀ c ∈ l, PyData.canLay0 (.str ⟨#[c]⟩) = true) → PyData.canLayAll0 (sD l) = true
  | [], _ => rfl
  | c :: l, h => by
    show (PyData.canLay0 (.str ⟨#[c]⟩) && PyData.canLayAll0 (sD l)) = true
    rw [h c List.mem_cons_self, lay_signs fun x hx => h x (List.mem_cons_of_mem _ hx)]
    rfl
theorem depth_signs : ∀ l : List Nat, PyData.depthAll (sD l) = 0
  | [] => rfl
  | c :: l => by
    show max (PyData.depth (.str ⟨#[c]⟩)) (PyData.depthAll (sD l)) = 0
    rw [depth_signs l]
    rfl
theorem eqv_nil {es : List PyData} : PyData.eqv (.list es) (.list []) = decide (es = []) := by
  cases es with
  | nil => simp [PyData.eqv, PyData.eqvAll]
  | cons e es => simp [PyData.eqv, PyData.eqvAll]
theorem odd_nil (l : List Nat) : decide (sD (oddSigns l) = []) = l.all (fun c => decide (c ∈ letters.cps.toList)) := by
  rw [Bool.eq_iff_iff, decide_eq_true_iff, List.all_eq_true]
  unfold sD oddSigns
  rw [List.map_eq_nil_iff, List.filter_eq_nil_iff]
  constructor
  · intro h c hc
    have z := h c hc
    cases e : decide (c ∈ letters.cps.toList) with
    | true => rfl
    | false =>
      rw [e] at z
      exact absurd rfl z
  · intro h c hc
    rw [h c hc]
    decide
end K13
set_option Elab.async false
set_option linter.all false
set_option maxRecDepth 100000
set_option maxHeartbeats 4000000
namespace K13
open PySem PySem.Spec PyProof.Rows L2 Bb
/-! texts that are short; things that can be shown -/
def okS (z : Str) : Prop := z.length ≤ 10 ∧ PyData.canLay0 (.str z) = true
theorem okS.sm {z : Str} (h : okS z) : Sm (.str z) := by
  refine Sm.str ?_
  have h2 : z.cps.all (· < 0x110000) = true := h.2
  have := PySem.StrLaws.reprText_len z fun c hc => by
    rw [Array.all_eq_true_iff_forall_mem] at h2
    have z2 := h2 c (by simpa using hc)
    have z3 := of_decide_eq_true z2
    exact Nat.lt_of_lt_of_le z3 (by decide)
  have := h.1
  omega
theorem okS.sh {z : Str} (h : okS z) : shortD (.str z) = true := by
  show (decide (z.length ≤ 100000) && PyData.canLay0 (.str z)) = true
  rw [h.2, decide_eq_true (show z.length ≤ 100000 from Nat.le_trans h.1 (by decide))]
  rfl
theorem okS_name {z : Str} (h : nameZ z = true) : okS z := by
  unfold nameZ at h
  rw [Bool.and_eq_true] at h
  have h1 := of_decide_eq_true h.1
  refine ⟨by omega, ?_⟩
  show z.cps.all (· < 0x110000) = true
  rw [Array.all_eq_true_iff_forall_mem]
  intro c hc
  have h2 := List.all_eq_true.mp h.2 c (by simpa using hc)
  have h3 : c ∈ letters.cps.toList := of_decide_eq_true h2
  have h4 : (letters.cps.toList.all fun c => decide (c < 0x110000)) = true := by decide +kernel
  exact List.all_eq_true.mp h4 c h3
theorem okS_sign {c : Nat} (h : c < 0x110000) : okS ⟨#[c]⟩ := by
  refine ⟨?_, ?_⟩
  · show (1 : Nat) ≤ 10
    decide
  · show (#[c] : Array Nat).all (· < 0x110000) = true
    simp [h]
theorem okS_app {a b : Str} (h : okS a) (g : okS b) (l : a.length + b.length ≤ 10) : okS (a ++ b) := by
  refine ⟨by rw [strLen_append]; exact l, ?_⟩
  have h2 : a.cps.all (· < 0x110000) = true := h.2
  have g2 : b.cps.all (· < 0x110000) = true := g.2
  show (a.cps ++ b.cps).all (· < 0x110000) = true
  rw [Array.all_append, h2, g2]
  rfl
structure Shw (d : PyData) : Prop where
  nl : d.hasDict = true → noList d = true
  sh : d.showable = true
  dp : d.depth ≤ 60
  ln : d.shown.length ≤ sizeLine
theorem sm_shw {d : PyData} (s : Sm d) : Shw d := ⟨s.nl, s.sh, by have := s.dp; omega, by have := s.ln; have := sizeLine_eq; omega⟩
theorem all_shw : ∀ {ds : List PyData}, (∀ d ∈ ds, Sm d) → PyData.showableAll ds = true ∧ PyData.depthAll ds ≤ 4 ∧ piled (PyData.shownAll ds) ≤ 202 * ds.length
  | [], _ => ⟨rfl, Nat.zero_le _, Nat.le_refl _⟩
  | d :: ds, h => by
    obtain ⟨h1, h2, h3⟩ := all_shw (ds := ds) fun x hx => h x (List.mem_cons_of_mem _ hx)
    have s := h d List.mem_cons_self
    refine ⟨?_, ?_, ?_⟩
    · show (d.showable && PyData.showableAll ds) = true
      rw [s.sh, h1]
      rfl
    · show max d.depth (PyData.depthAll ds) ≤ 4
      have := s.dp
      omega
    · show piled (d.shown :: PyData.shownAll ds) ≤ 202 * (d :: ds).length
      rw [piled_cons, List.length_cons]
      have := s.ln
      omega
theorem shw_tup {ds : List PyData} (h : ∀ d ∈ ds, Sm d) (l : ds.length ≤ 8) (one : PyData.hasDictAll ds = true → noLists ds = true) : Shw (.tuple ds) := by
  obtain ⟨h1, h2, h3⟩ := all_shw h
  refine ⟨one, h1, ?_, ?_⟩
  · show PyData.depthAll ds + 1 ≤ 60
    omega
  · have t := tupleText_le (PyData.shownAll ds)
    have sz := sizeLine_eq
    show (tupleText (PyData.shownAll ds)).length ≤ sizeLine
    omega
theorem shw_lst {ds : List PyData} (h : ∀ d ∈ ds, Sm d) (l : ds.length ≤ 8) (no : PyData.hasDictAll ds = false) : Shw (.list ds) := by
  obtain ⟨h1, h2, h3⟩ := all_shw h
  refine ⟨fun z => ?_, h1, ?_, ?_⟩
  · have z2 : PyData.hasDictAll ds = true := z
    rw [no] at z2
    cases z2
  · show PyData.depthAll ds + 1 ≤ 60
    omega
  · have t := listText_le (PyData.shownAll ds)
    have sz := sizeLine_eq
    show (listText (PyData.shownAll ds)).length ≤ sizeLine
    omega
def Odd (Z : Addr → Prop) (H : Hp) (v : V) : Prop := ∃ d, Da Z H v d ∧ Sm d ∧ shortD d = true
def Big (Z : Addr → Prop) (H : Hp) (v : V) : Prop := ∃ d, Da Z H v d ∧ Shw d ∧ shortD d = true
theorem Odd.big {Z : Addr → Prop} {H : Hp} {v : V} (o : Odd Z H v) : Big Z H v := by
  obtain ⟨d, a, s, t⟩ := o
  exact ⟨d, a, sm_shw s, t⟩
theorem Odd.keep {Z : Addr → Prop} {H H' : Hp} {v : V} (o : Odd Z H v) (k : Keeps Z H H') : Odd Z H' v := by
  obtain ⟨d, a, s, t⟩ := o
  exact ⟨d, Da.keep k _ _ a, s, t⟩
theorem Big.keep {Z : Addr → Prop} {H H' : Hp} {v : V} (o : Big Z H v) (k : Keeps Z H H') : Big Z H' v := by
  obtain ⟨d, a, s, t⟩ := o
  exact ⟨d, Da.keep k _ _ a, s, t⟩
theorem Odd.str {Z : Addr → Prop} {H : Hp} {z : Str} (h : okS z) : Odd Z H (.str z) := ⟨_, .str z, h.sm, h.sh⟩
theorem Odd.non {Z : Addr → Prop} {H : Hp} : Odd Z H .non := ⟨_, .non, Sm.non, rfl⟩
theorem Odd.bl {Z : Addr → Prop} {H : Hp} (b : Bool) : Odd Z H (.bl b) := ⟨_, .bl b, Sm.bl b, rfl⟩
theorem Odd.int {Z : Addr → Prop} {H : Hp} {i : Int} (h : i.natAbs < 10 ^ 40) : Odd Z H (.int i) := ⟨_, .int i, Sm.int h, rfl⟩
/-- at most one of the parts is odd -/
def Cl (d : PyData) : Prop := d.hasDict = false ∧ noList d = true
theorem cl_str (z : Str) : Cl (.str z) := ⟨rfl, rfl⟩
theorem cl_bl (b : Bool) : Cl (.bool b) := ⟨rfl, rfl⟩
theorem cl_int (i : Int) : Cl (.int i) := ⟨rfl, rfl⟩
theorem cls_all : ∀ {ds : List PyData}, (∀ d ∈ ds, Cl d) → PyData.hasDictAll ds = false ∧ noLists ds = true
  | [], _ => ⟨rfl, rfl⟩
  | d :: ds, h => by
    obtain ⟨h1, h2⟩ := cls_all (ds := ds) fun x hx => h x (List.mem_cons_of_mem _ hx)
    obtain ⟨c1, c2⟩ := h d List.mem_cons_self
    refine ⟨?_, ?_⟩
    · show (d.hasDict || PyData.hasDictAll ds) = false
      rw [c1, h1]
      rfl
    · show (noList d && noLists ds) = true
      rw [c2, h2]
      rfl
theorem hd_app : ∀ (a b : List PyData), PyData.hasDictAll (a ++ b) = (PyData.hasDictAll a || PyData.hasDictAll b) ∧ noLists (a ++ b) = (noLists a && noLists b)
  | [], b => ⟨rfl, rfl⟩
  | d :: a, b => by
    obtain ⟨h1, h2⟩ := hd_app a b
    refine ⟨?_, ?_⟩
    · show (d.hasDict || PyData.hasDictAll (a ++ b)) = ((d.hasDict || PyData.hasDictAll a) || PyData.hasDictAll b)
      rw [h1, Bool.or_assoc]
    · show (noList d && noLists (a ++ b)) = ((noList d && noLists a) && noLists b)
      rw [h2, Bool.and_assoc]
theorem one_odd {a b : List PyData} {d : PyData} (ha : ∀ x ∈ a, Cl x) (hb : ∀ x ∈ b, Cl x) (s : Sm d) : PyData.hasDictAll (a ++ d :: b) = true → noLists (a ++ d :: b) = true := by
  obtain ⟨a1, a2⟩ := cls_all ha
  obtain ⟨b1, b2⟩ := cls_all hb
  rw [(hd_app a (d :: b)).1, (hd_app a (d :: b)).2, a1, a2, Bool.false_or, Bool.true_and]
  show (d.hasDict || PyData.hasDictAll b) = true → (noList d && noLists b) = true
  rw [b1, b2, Bool.or_false, Bool.and_true]
  exact s.nl
theorem short_all : ∀ {ds : List PyData}, (∀ d ∈ ds, shortD d = true) → shortAll ds = true
  | [], _ => rfl
  | d :: ds, h => by
    show (shortD d && shortAll ds) = true
    rw [h d List.mem_cons_self, short_all fun x hx => h x (List.mem_cons_of_mem _ hx)]
    rfl
theorem short_tup {ds : List PyData} (h : ∀ d ∈ ds, shortD d = true) (l : ds.length ≤ 8) : shortD (.tuple ds) = true := by
  show (decide (ds.length ≤ 1000) && shortAll ds) = true
  rw [short_all h, decide_eq_true (show ds.length ≤ 1000 by omega)]
  rfl
theorem short_lst {ds : List PyData} (h : ∀ d ∈ ds, shortD d = true) (l : ds.length ≤ 8) : shortD (.list ds) = true := by
  show (decide (ds.length ≤ 1000) && shortAll ds) = true
  rw [short_all h, decide_eq_true (show ds.length ≤ 1000 by omega)]
  rfl
/-- a part that is no list, holds none and no dict -/
structure Part (Z : Addr → Prop) (H : Hp) (v : V) (d : PyData) : Prop where
  da : Da Z H v d
  sm : Sm d
  sh : shortD d = true
  cl : Cl d
theorem Part.str {Z : Addr → Prop} {H : Hp} {z : Str} (h : okS z) : Part Z H (.str z) (.str z) := ⟨.str z, h.sm, h.sh, cl_str z⟩
theorem Part.bl {Z : Addr → Prop} {H : Hp} (b : Bool) : Part Z H (.bl b) (.bool b) := ⟨.bl b, Sm.bl b, rfl, cl_bl b⟩
theorem Part.int {Z : Addr → Prop} {H : Hp} {i : Int} (h : i.natAbs < 10 ^ 40) : Part Z H (.int i) (.int i) := ⟨.int i, Sm.int h, rfl, cl_int i⟩
inductive Parts (Z : Addr → Prop) (H : Hp) : List V → List PyData → Prop
  | nil : Parts Z H [] []
  | cons {v : V} {d : PyData} {vs : List V} {ds : List PyData} : Part Z H v d → Parts Z H vs ds → Parts Z H (v :: vs) (d :: ds)
theorem Parts.all {Z : Addr → Prop} {H : Hp} {vs : List V} {ds : List PyData} (p : Parts Z H vs ds) : DaAll Z H vs ds ∧ (∀ d ∈ ds, Sm d) ∧ (∀ d ∈ ds, shortD d = true) ∧ (∀ d ∈ ds, Cl d) := by
  induction p with
  | nil => exact ⟨.nil, fun d h => (by cases h), fun d h => (by cases h), fun d h => (by cases h)⟩
  | cons a _ ih =>
    obtain ⟨h1, h2, h3, h4⟩ := ih
    refine ⟨.cons a.da h1, fun d h => ?_, fun d h => ?_, fun d h => ?_⟩
    · rcases List.mem_cons.mp h with rfl | h
      · exact a.sm
      · exact h2 d h
    · rcases List.mem_cons.mp h with rfl | h
      · exact a.sh
      · exact h3 d h
    · rcases List.mem_cons.mp h with rfl | h
      · exact a.cl
      · exact h4 d h
theorem DaAll.app2 {Z : Addr → Prop} {H : Hp} {vs us : List V} {ds es : List PyData} (h : DaAll Z H vs ds) (g : DaAll Z H us es) : DaAll Z H (vs ++ us) (ds ++ es) := h.app g
theorem big_tup {Z : Addr → Prop} {H : Hp} {t : Addr} {vs : List V} {ds : List PyData} (e : H t = some (.tup vs)) (nz : ¬ Z t) (p : Parts Z H vs ds) (l : ds.length ≤ 8) : Big Z H (.ref t) := by
  obtain ⟨h1, h2, h3, h4⟩ := p.all
  exact ⟨_, .tup e nz h1, shw_tup h2 l (fun _ => (cls_all h4).2), short_tup h3 l⟩
theorem big_lst {Z : Addr → Prop} {H : Hp} {t : Addr} {vs : List V} {ds : List PyData} (e : H t = some (.lst vs)) (nz : ¬ Z t) (p : Parts Z H vs ds) (l : ds.length ≤ 8) : Big Z H (.ref t) := by
  obtain ⟨h1, h2, h3, h4⟩ := p.all
  exact ⟨_, .lst e nz h1, shw_lst h2 l (cls_all h4).1, short_lst h3 l⟩
/-- one odd thing among the parts -/
theorem big_odd {Z : Addr → Prop} {H : Hp} {t : Addr} {v : V} {vs us : List V} {ds es : List PyData} (e : H t = some (.tup (vs ++ v :: us))) (nz : ¬ Z t) (p : Parts Z H vs ds) (o : Odd Z H v) (q : Parts Z H us es) (l : ds.length + es.length ≤ 7) : Big Z H (.ref t) := by
  obtain ⟨h1, h2, h3, h4⟩ := p.all
  obtain ⟨g1, g2, g3, g4⟩ := q.all
  obtain ⟨d, a, s, sh⟩ := o
  have ll : (ds ++ d :: es).length ≤ 8 := by
    rw [List.length_append, List.length_cons]
    omega
  refine ⟨.tuple (ds ++ d :: es), .tup e nz (h1.app (.cons a g1)), shw_tup (fun x hx => ?_) ll (one_odd h4 g4 s), short_tup (fun x hx => ?_) ll⟩
  · rcases List.mem_append.mp hx with z | z
    · exact h2 x z
    · rcases List.mem_cons.mp z with rfl | z
      · exact s
      · exact g2 x z
  · rcases List.mem_append.mp hx with z | z
    · exact h3 x z
    · rcases List.mem_cons.mp z with rfl | z
      · exact sh
      · exact g3 x z
end K13
set_option Elab.async false
set_option linter.all false
set_option maxRecDepth 100000
set_option maxHeartbeats 4000000
namespace K13
open PySem PySem.Spec PyProof.Rows L2 Bb
def spPickS : Sp := fun vs H Q _ => ∃ (p : Addr) (z : Str), vs = [.ref p, .str z] ∧ Pen H p ∧ (0 < z.length ∧ z.length ≤ 1000) ∧ ∀ c H', c ∈ z.cps.toList → Kp p H H' → Q (.str ⟨#[c]⟩) H'
def spName : Sp := fun vs H Q _ => ∃ p, vs = [.ref p] ∧ Pen H p ∧ ∀ z H', Kp p H H' → nameZ z = true → Q (.str z) H'
theorem joinL_nil : ∀ l : List (List Nat), TL.joinL [] l = l.flatten
  | [] => rfl
  | [p] => by simp [TL.joinL]
  | p :: q :: r => by
    show p ++ ([] ++ TL.joinL [] (q :: r)) = _
    rw [joinL_nil (q :: r)]
    rfl
theorem Kp.of {p : Addr} {H H' : Hp} (h : Pen H p) (s : Same H H') : Kp p H H' := (Kp.refl h).same s
/-- what the law's makers want of the head -/
structure Mk1 (K : PySem.W.Frag) (mg : Str → Option Value) : Prop where
  hl : Hl K mg
  any : ∃ a d, Fn K "_law_anything" "_law_anything" sAny a d ∧ mg "_law_anything" = some (.ref a)
  nam : ∃ a d, Fn K "_law_name" "_law_name" sName a d ∧ mg "_law_name" = some (.ref a)
section
variable {P : Program} {w : World} {K : PySem.W.Frag} {mg : Str → Option Value} {base : Heap} {f : Addr} {fd : FuncData}
theorem ok_pickS {fD : Addr} {fdD : FuncData} (F : Fn K "_law_pick" "_law_pick" sPick f fd) (FD : Fn K "_law_draw" "_law_draw" sDraw fD fdD) (gD : mg "_law_draw" = some (.ref fD)) (T : Free mg) : FnOk P w K mg base L2.CX0 2 f fd ["_law_pen_here", "_law_things"] spPickS := by
  have GD : FnOk P w K mg base L2.CX0 1 fD fdD ["_law_pen_here", "_law_many"] spDraw := ok_draw FD
  have bD : Binds K fdD ["_law_pen_here", "_law_many"] [] := FD.bindsN fun _ _ _ _ _ _ us hl => match us, hl with | [_, _], _ => rfl
  refine F.ok scPick (fun vs H Q E h => ?_) (fun cdv A outer s H vs Q E hr hh => ?_)
  · obtain ⟨p, z, rfl, _⟩ := h
    rfl
  · obtain ⟨p, z, rfl, hp, hl, q⟩ := hh
    refine ⟨_, PSs.nox (pss_one (ps_ret (pe_item_str (pv 1) (pe_call GD hr rfl gD FD.kp bD .nil pass0 (pa_cons (pv 0) (pa_cons (pe_callB call_len_str rfl T.len_ boot_len (pa_cons (pv 1) pa_nil)) pa_nil))) (fun _ _ => rfl)))), ?_⟩
    refine ⟨_, rfl, _, rfl, _, rfl, z, rfl, Nat.le_of_lt (small1000 (by omega)), p, _, rfl, hp, ⟨by omega, by omega⟩, fun r H' r0 r1 kp => ?_⟩
    have e := strlen z
    have hlt : r.toNat < z.cps.toList.length := by omega
    have hc : z.cps[r.toNat]? = some (z.cps.toList[r.toNat]) := by
      rw [← Array.getElem?_toList]
      exact List.getElem?_eq_getElem hlt
    exact ⟨z, r, _, rfl, rfl, r0, by omega, by omega, hc, q _ _ (List.getElem_mem _) kp⟩
theorem Hl.pkS (h : Hl K mg) : ∃ a d, FnOk P w K mg base L2.CX0 2 a d ["_law_pen_here", "_law_things"] spPickS ∧ mg "_law_pick" = some (.ref a) ∧ PySem.W.keepIn K (.ref a) = true ∧ Binds K d ["_law_pen_here", "_law_things"] [] := by
  obtain ⟨a1, d1, F1, g1⟩ := h.draw
  obtain ⟨a, d, F, g⟩ := h.pick
  exact ⟨a, d, ok_pickS F F1 g1 h.fr, g, F.kp, F.bindsN fun _ _ _ _ _ _ us hl => match us, hl with | [_, _], _ => rfl⟩
abbrev nName : List Str := ["_law_pen_here", "_law_letters", "_law_drawn", "_law_turn"]
theorem scName : FnScope nName ["_law_pen_here"] (defScope sName) := ⟨rfl, rfl, rfl, by decide +kernel, rfl, by decide +kernel, by decide +kernel⟩
theorem ok_name (F : Fn K "_law_name" "_law_name" sName f fd) (h : Hl K mg) : FnOk P w K mg base L2.CX0 3 f fd ["_law_pen_here"] spName := by
  obtain ⟨aP, dP, GP, gP, kP, bP⟩ := h.pk (P := P) (w := w) (base := base)
  obtain ⟨aS, dS, GS, gS, kS, bS⟩ := h.pkS (P := P) (w := w) (base := base)
  obtain ⟨aD, dD, GD, gD, kD, bD⟩ := h.dr (P := P) (w := w) (base := base)
  refine F.ok scName (fun vs H Q E h => ?_) (fun cdv A outer s H vs Q E hr hh => ?_)
  · obtain ⟨p, rfl, _⟩ := h
    rfl
  · obtain ⟨p, rfl, hp, q⟩ := hh
    have hr1 : Room 1 _ := hr.mono (by decide)
    refine ⟨_, PSs.nox (pss_cons (ps_set (i := 1) scName.nd rfl (.inr rfl) pe_str)
      (pss_cons (ps_set (i := 2) scName.nd rfl (.inl rfl) (pe_join pe_str (pe_lc (own := [("_law_turn", 3)]) (g := gName 3) (tt := tYes) rfl scName.nd (pi_range1 rfl h.fr.rng_ (pa_cons (pe_op op_add pe_int (pe_call GD hr1 rfl gD kD bD .nil pass0 (pa_cons (pv 0) (pa_cons pe_int pa_nil)))) pa_nil)) (blkOk_by (N := nName) (sc := defScope sName) (by decide +kernel)) (fun _ _ _ _ _ => pg_name (i := 3) scName.nd rfl (Or.inl rfl)) (fun _ _ _ _ _ => pts_nil)
        (fun _ _ _ _ _ => pe_call GS hr rfl gS kS bS .nil pass0 (pa_cons (pv 0) (pa_cons (pv 1) pa_nil))))))
      (pss_one (ps_ret (pe_call GP hr rfl gP kP bP .nil pass0 (pa_cons (pv 0) (pa_cons (pe_lst (pa_cons pe_str (pa_cons pe_str (pa_cons pe_str (pa_cons pe_str (pa_cons pe_str (pa_cons pe_str (pa_cons (pv 2) pa_nil)))))))) pa_nil))))))), ?_⟩
    refine ⟨⟨_, rfl⟩, _, rfl, p, 8, rfl, hp, ⟨by decide, by decide⟩, fun r H1 r0 r1 kp1 => ?_⟩
    refine ⟨_, _, rfl, rfl, 1 + r, rfl, by omega, by omega, fun D hD => ?_⟩
    have hn : ((1 + r) - 0).toNat = (1 + r).toNat := by rw [Int.sub_zero]
    refine lc_range (lo := 0) (n := (1 + r).toNat) (fun i H' => Kp p H1 H' ∧ ∃ cs : List Nat, H' D = some (.lst (sV cs)) ∧ cs.length = i ∧ ∀ c ∈ cs, c ∈ letters.cps.toList)
      ⟨Kp.of kp1.pen (up2 hD), [], upd_same, rfl, fun c hc => by cases hc⟩ ?_ ?_
    · rintro i H' hi ⟨kp, cs, hl, hlen, hin⟩
      refine ⟨rfl, ?_⟩
      unfold tYes
      dsimp only
      rw [if_pos rfl]
      refine ⟨_, rfl, _, rfl, p, letters, rfl, kp.pen, ⟨by decide +kernel, by decide +kernel⟩, fun c H2 hc kp2 => ?_⟩
      have nD : D ≠ p := by
        rintro rfl
        exact pen_old kp1.pen hD
      refine ⟨_, kp2.keep _ _ hl nD, small1000 ?_, ?_, cs ++ [c], ?_, by simp [hlen], fun x hx => ?_⟩
      · unfold sV
        rw [List.length_map]
        omega
      · refine ⟨fun b o e n => ?_, ?_⟩
        · rw [upd_ne (ne_of_none e hD)]
          exact (kp.trans kp2).keep b o e n
        · obtain ⟨x, y, e⟩ := kp2.pen
          exact ⟨x, y, by rw [upd_ne (Ne.symm nD)]; exact e⟩
      · rw [upd_same]
        unfold sV
        rw [List.map_append]
        rfl
      · rcases List.mem_append.mp hx with z | z
        · exact hin x z
        · rw [List.mem_singleton.mp z]
          exact hc
    · rintro H2 ⟨kp2, cs, hl, hlen, hin⟩
      have es : sV cs = (cs.map fun c => (⟨#[c]⟩ : Str)).map V.str := by
        unfold sV
        rw [List.map_map]
        rfl
      have lens : ((cs.map fun c => (⟨#[c]⟩ : Str)).map (·.length)).sum = cs.length := by
        have gen : ∀ l : List Nat, ((l.map fun c => (⟨#[c]⟩ : Str)).map (·.length)).sum = l.length := by
          intro l
          induction l with
          | nil => rfl
          | cons a l ih =>
            rw [List.map_cons, List.map_cons, List.sum_cons, ih, List.length_cons]
            show 1 + l.length = l.length + 1
            omega
        exact gen cs
      refine ⟨_, D, cs.map fun c => (⟨#[c]⟩ : Str), rfl, rfl, .inl (SqL.of (by rw [← es]; exact hl)), ?_, ?_⟩
      · rw [lens, List.length_map, hlen]
        have e0 : (("" : String) : Str).length = 0 := by decide +kernel
        rw [e0]
        omega
      · obtain ⟨z, ez⟩ : ∃ z, z = Txt.join (Str.ofString "") (cs.map fun c => (⟨#[c]⟩ : Str)) := ⟨_, rfl⟩
        have ezl : z.cps.toList = cs := by
          rw [ez, TL.join_eq]
          have t := TL.tl_join (Str.ofString "") (cs.map fun c => (⟨#[c]⟩ : Str))
          have t2 : (Str.join (Str.ofString "") (cs.map fun c => (⟨#[c]⟩ : Str))).cps.toList = TL.joinL [] ((cs.map fun c => (⟨#[c]⟩ : Str)).map TL.tl) := t
          rw [t2, joinL_nil, List.map_map]
          have gen : ∀ l : List Nat, (l.map (TL.tl ∘ fun c => (⟨#[c]⟩ : Str))).flatten = l := by
            intro l
            induction l with
            | nil => rfl
            | cons a l ih =>
              rw [List.map_cons, List.flatten_cons, ih]
              rfl
          exact gen cs
        have nz : nameZ z = true := by
          unfold nameZ
          rw [strlen z, ezl, hlen, Bool.and_eq_true]
          refine ⟨decide_eq_true (by omega), ?_⟩
          rw [List.all_eq_true]
          exact fun c hc => decide_eq_true (hin c hc)
        rw [← ez]
        refine ⟨_, rfl, _, rfl, (by show 7 ≤ sizeLine; decide), fun L hL => ?_⟩
        have s3 := up2 (o := .lst [.str "ann", .str "bo", .str "ann", .str "cy", .str "zzzzzzzz", .str "a", .str z]) hL
        have k3 : Kp p H _ := (kp1.trans kp2).same s3
        refine ⟨p, L, _, rfl, pen_same kp2.pen s3, upd_same, pen_ne (pen_same kp2.pen s3) upd_same (fun x f z => by injection z with z; injection z with z _; cases z), ⟨(by show 0 < 7; decide), (by show 7 ≤ 1000; decide)⟩, fun v H4 hv kp4 => ?_⟩
        have k4 := k3.trans kp4
        simp only [List.mem_cons, List.not_mem_nil, or_false] at hv
        rcases hv with rfl | rfl | rfl | rfl | rfl | rfl | rfl
        · exact q _ _ k4 (by decide +kernel)
        · exact q _ _ k4 (by decide +kernel)
        · exact q _ _ k4 (by decide +kernel)
        · exact q _ _ k4 (by decide +kernel)
        · exact q _ _ k4 (by decide +kernel)
        · exact q _ _ k4 (by decide +kernel)
        · exact q _ _ k4 nz
end
end K13
set_option Elab.async false
set_option linter.all false
set_option maxRecDepth 100000
set_option maxHeartbeats 4000000
namespace K13
open PySem PySem.Spec PyProof.Rows L2 Bb
theorem old_kp {p : Addr} {H H' : Hp} (k : Kp p H H') {b : Addr} (z : H b ≠ none) : H' b ≠ none := fun e => by
  cases h : H b with
  | none => exact z h
  | some o =>
    by_cases q : b = p
    · obtain ⟨x, f, e2⟩ := k.pen
      rw [← q, e] at e2
      cases e2
    · rw [k.keep _ _ h q] at e
      cases e
/-! a day, drawn -/
def spWhen : Sp := fun vs H Q _ => ∃ p, vs = [.ref p] ∧ Pen H p ∧ ∀ i H', Kp p H H' → (-40000 ≤ i ∧ i ≤ 40000) → Q (.int i) H'
section
variable {P : Program} {w : World} {K : PySem.W.Frag} {mg : Str → Option Value} {base : Heap} {f : Addr} {fd : FuncData}
theorem scWhen : FnScope ["_law_pen_here", "_law_far", "_law_near"] ["_law_pen_here"] (defScope sWhen) := ⟨rfl, rfl, rfl, by decide +kernel, rfl, by decide +kernel, by decide +kernel⟩
theorem ok_when (F : Fn K "_law_when" "_law_when" sWhen f fd) (h : Hl K mg) : FnOk P w K mg base L2.CX0 3 f fd ["_law_pen_here"] spWhen := by
  obtain ⟨aP, dP, GP, gP, kP, bP⟩ := h.pk (P := P) (w := w) (base := base)
  obtain ⟨aD, dD, GD, gD, kD, bD⟩ := h.dr (P := P) (w := w) (base := base)
  refine F.ok scWhen (fun vs H Q E h => ?_) (fun cdv A outer s H vs Q E hr hh => ?_)
  · obtain ⟨p, rfl, _⟩ := h
    rfl
  · obtain ⟨p, rfl, hp, q⟩ := hh
    have hr1 : Room 1 _ := hr.mono (by decide)
    refine ⟨_, PSs.nox (pss_cons (ps_set (i := 1) scWhen.nd rfl (.inl rfl) pe_int)
      (pss_cons (ps_set (i := 2) scWhen.nd rfl (.inl rfl) (pe_lst (pa_cons pe_int (pa_cons (pe_call GD hr1 rfl gD kD bD .nil pass0 (pa_cons (pv 0) (pa_cons pe_int pa_nil))) (pa_cons (pe_op op_sub (pe_un un_neg pe_int) (pe_call GD hr1 rfl gD kD bD .nil pass0 (pa_cons (pv 0) (pa_cons pe_int pa_nil)))) pa_nil)))))
      (pss_one (ps_ret (pe_call GP (hr.mono (by decide)) rfl gP kP bP .nil pass0 (pa_cons (pv 0) (pa_cons (pe_op op_cat (pv 2) (pe_lst (pa_cons (pv 1) (pa_cons (pe_un un_neg (pv 1)) (pa_cons (pe_op op_sub (pe_call GD hr1 rfl gD kD bD .nil pass0 (pa_cons (pv 0) (pa_cons (pe_op op_add (pe_op op_mul pe_int (pv 1)) pe_int) pa_nil))) (pv 1)) pa_nil))))) pa_nil))))))), ?_⟩
    refine ⟨_, rfl, p, 60, rfl, hp, ⟨by decide, by decide⟩, fun a H1 a0 a1 kp1 => ?_⟩
    refine ⟨_, rfl, _, rfl, p, 60, rfl, kp1.pen, ⟨by decide, by decide⟩, fun b H2 b0 b1 kp2 => ?_⟩
    refine ⟨_, _, rfl, rfl, (by show 3 ≤ sizeLine; decide), fun L hL => ?_⟩
    have s3 := up2 (o := .lst [.int 0, .int a, .int (-1 - b)]) hL
    have k3 := (kp1.trans kp2).same s3
    have nL : L ≠ p := fun z => by
      obtain ⟨x, y, e⟩ := kp2.pen
      rw [← z, hL] at e
      cases e
    refine ⟨_, rfl, _, rfl, _, rfl, _, rfl, _, rfl, _, rfl, _, rfl, _, _, rfl, rfl, .inl ⟨by decide, by decide⟩, _, _, rfl, rfl, p, _, rfl, k3.pen, ⟨by decide, by decide⟩, fun c H4 c0 c1 kp4 => ?_⟩
    have c2 : c < 80001 := c1
    refine ⟨_, rfl, _, _, rfl, rfl, (by show 3 ≤ sizeLine; decide), fun L2 hL2 => ?_⟩
    have s5 := up2 (o := .lst [.int 40000, .int (-40000), .int (c - 40000)]) hL2
    have eL := s5 _ _ (kp4.keep _ _ upd_same nL)
    refine ⟨L, L2, _, _, rfl, rfl, eL, upd_same, (by show 3 + 3 ≤ sizeLine; decide), fun L3 hL3 => ?_⟩
    have s6 := up2 (o := .lst ([.int 0, .int a, .int (-1 - b)] ++ [.int 40000, .int (-40000), .int (c - 40000)])) hL3
    have k6 := ((k3.trans kp4).same s5).same s6
    refine ⟨p, L3, _, rfl, k6.pen, upd_same, pen_ne k6.pen upd_same (fun x f z => by injection z with z; injection z with _ z; injection z with _ z; cases z), ⟨(by show 0 < 6; decide), (by show 6 ≤ 1000; decide)⟩, fun v H7 hv kp7 => ?_⟩
    have k7 := k6.trans kp7
    simp only [List.cons_append, List.nil_append, List.mem_cons, List.not_mem_nil, or_false] at hv
    rcases hv with rfl | rfl | rfl | rfl | rfl | rfl
    · exact q _ _ k7 (by omega)
    · exact q _ _ k7 (by omega)
    · exact q _ _ k7 (by omega)
    · exact q _ _ k7 (by omega)
    · exact q _ _ k7 (by omega)
    · exact q _ _ k7 (by omega)
end
end K13
set_option Elab.async false
set_option linter.all false
set_option maxRecDepth 100000
set_option maxHeartbeats 4000000
namespace K13
open PySem PySem.Spec PyProof.Rows L2 Bb
/-! the parts, among data -/
def numD (lo hi : Int) : PyData → Bool
  | .int i => decide (lo ≤ i) && decide (i ≤ hi)
  | _ => false
theorem num_da {Z : Addr → Prop} {H : Hp} {x : V} {d : PyData} {lo hi : Int} (h : Da Z H x d) : numIn lo hi x = numD lo hi d := by
  cases h <;> rfl
theorem nameD_ex {d : PyData} (h : nameD d = true) : ∃ z, d = .str z ∧ nameZ z = true := by
  cases d with
  | str z => exact ⟨z, rfl, h⟩
  | _ => cases h
theorem numD_ex {lo hi : Int} {d : PyData} (h : numD lo hi d = true) : ∃ i, d = .int i ∧ lo ≤ i ∧ i ≤ hi := by
  cases d with
  | int i =>
    have z : (decide (lo ≤ i) && decide (i ≤ hi)) = true := h
    simp only [Bool.and_eq_true, decide_eq_true_eq] at z
    exact ⟨i, rfl, z.1, z.2⟩
  | _ => cases h
def teamD (d : PyData) : Bool := nameD d || isTxt "" d
theorem teamD_ex {d : PyData} (h : teamD d = true) : ∃ z, d = .str z ∧ (nameZ z || decide (z = "")) = true := by
  cases d with
  | str z => exact ⟨z, rfl, h⟩
  | _ => cases h
theorem num_ok {lo hi i : Int} (h : lo ≤ i ∧ i ≤ hi) : numD lo hi (.int i) = true := by
  show (decide (lo ≤ i) && decide (i ≤ hi)) = true
  rw [decide_eq_true h.1, decide_eq_true h.2]
  rfl
structure PR where
  x0 : Str
  x1 : Str
  x2 : Int
  x3 : Int
  x4 : Int
  x5 : Int
  x6 : Str
def PR.vs (r : PR) : List V := [.str r.x0, .str r.x1, .int r.x2, .int r.x3, .int r.x4, .int r.x5, .str r.x6]
def PR.ds (r : PR) : List PyData := [.str r.x0, .str r.x1, .int r.x2, .int r.x3, .int r.x4, .int r.x5, .str r.x6]
structure PR.Ok (r : PR) : Prop where
  o0 : nameZ r.x0 = true
  o1 : nameZ r.x1 = true
  o2 : 1 ≤ r.x2 ∧ r.x2 ≤ 1000000
  o3 : -40000 ≤ r.x3 ∧ r.x3 ≤ 40000
  o4 : 0 ≤ r.x4 ∧ r.x4 ≤ 23
  o5 : -99 ≤ r.x5 ∧ r.x5 ≤ 99
  o6 : nameZ r.x6 = true
def okds : List PyData → Bool
  | [d0, d1, d2, d3, d4, d5, d6] => nameD d0 && (nameD d1 && ((numD (1) 1000000) d2 && ((numD (-40000) 40000) d3 && ((numD (0) 23) d4 && ((numD (-99) 99) d5 && (nameD d6))))))
  | _ => false
theorem okds_of {r : PR} (o : r.Ok) : okds r.ds = true := by
  show (nameD (.str r.x0) && (nameD (.str r.x1) && ((numD (1) 1000000) (.int r.x2) && ((numD (-40000) 40000) (.int r.x3) && ((numD (0) 23) (.int r.x4) && ((numD (-99) 99) (.int r.x5) && (nameD (.str r.x6)))))))) = true
  have h0 : nameD (.str r.x0) = true := o.o0
  have h1 : nameD (.str r.x1) = true := o.o1
  have h2 : (numD (1) 1000000) (.int r.x2) = true := num_ok o.o2
  have h3 : (numD (-40000) 40000) (.int r.x3) = true := num_ok o.o3
  have h4 : (numD (0) 23) (.int r.x4) = true := num_ok o.o4
  have h5 : (numD (-99) 99) (.int r.x5) = true := num_ok o.o5
  have h6 : nameD (.str r.x6) = true := o.o6
  rw [h0, h1, h2, h3, h4, h5, h6]
  rfl
theorem okds_ex {ds : List PyData} (h : okds ds = true) : ∃ r : PR, ds = r.ds ∧ r.Ok := by
  match ds, h with
  | [d0, d1, d2, d3, d4, d5, d6], h =>
    have z : (nameD d0 && (nameD d1 && ((numD (1) 1000000) d2 && ((numD (-40000) 40000) d3 && ((numD (0) 23) d4 && ((numD (-99) 99) d5 && (nameD d6))))))) = true := h
    simp only [Bool.and_eq_true] at z
    obtain ⟨h0, h1, h2, h3, h4, h5, h6⟩ := z
    obtain ⟨z0, rfl, o0⟩ := nameD_ex h0
    obtain ⟨z1, rfl, o1⟩ := nameD_ex h1
    obtain ⟨z2, rfl, o2⟩ := numD_ex h2
    obtain ⟨z3, rfl, o3⟩ := numD_ex h3
    obtain ⟨z4, rfl, o4⟩ := numD_ex h4
    obtain ⟨z5, rfl, o5⟩ := numD_ex h5
    obtain ⟨z6, rfl, o6⟩ := nameD_ex h6
    exact ⟨⟨z0, z1, z2, z3, z4, z5, z6⟩, rfl, ⟨o0, o1, o2, o3, o4, o5, o6⟩⟩
def eqR (r q : PR) : Bool := decide (r.x0 = q.x0 ∧ r.x1 = q.x1 ∧ r.x2 = q.x2 ∧ r.x3 = q.x3 ∧ r.x4 = q.x4 ∧ r.x5 = q.x5 ∧ r.x6 = q.x6)
theorem eqR_refl (r : PR) : eqR r r = true := by
  unfold eqR
  simp
theorem eqR_comm (r q : PR) : eqR r q = eqR q r := by
  unfold eqR
  rw [decide_eq_decide]
  constructor
  · rintro ⟨h0, h1, h2, h3, h4, h5, h6⟩
    exact ⟨h0.symm, h1.symm, h2.symm, h3.symm, h4.symm, h5.symm, h6.symm⟩
  · rintro ⟨h0, h1, h2, h3, h4, h5, h6⟩
    exact ⟨h0.symm, h1.symm, h2.symm, h3.symm, h4.symm, h5.symm, h6.symm⟩
theorem eqv_R (r q : PR) : PyData.eqv (.tuple r.ds) (.tuple q.ds) = eqR r q := by
  unfold PR.ds eqR
  simp only [PyData.eqv, PyData.eqvAll]
  rw [Bool.eq_iff_iff]
  simp
theorem dp_R {K : PySem.W.Frag} {H : Hp} {p : Addr} {r : PR} (h : H p = some (.tup r.vs)) : Dp K H (.ref p) (.tuple r.ds) := .tup (SqT.of h) (.cons (.str _) (.cons (.str _) (.cons (.int _) (.cons (.int _) (.cons (.int _) (.cons (.int _) (.cons (.str _) .nil)))))))
theorem da_R {Z : Addr → Prop} {H : Hp} (r : PR) : DaAll Z H r.vs r.ds := (.cons (.str _) (.cons (.str _) (.cons (.int _) (.cons (.int _) (.cons (.int _) (.cons (.int _) (.cons (.str _) .nil)))))))
theorem name_len {z : Str} (h : nameZ z = true) : z.length ≤ 8 := by
  unfold nameZ at h
  rw [Bool.and_eq_true] at h
  have := of_decide_eq_true h.1
  omega
theorem team_len {z : Str} (h : (nameZ z || decide (z = "")) = true) : z.length ≤ 8 := by
  rw [Bool.or_eq_true] at h
  rcases h with h | h
  · exact name_len h
  · rw [of_decide_eq_true h]
    decide
theorem team_ok {z : Str} (h : (nameZ z || decide (z = "")) = true) : okS z := by
  rw [Bool.or_eq_true] at h
  rcases h with h | h
  · exact okS_name h
  · rw [of_decide_eq_true h]
    constructor <;> decide +kernel
theorem sm_R {r : PR} (o : r.Ok) : ∀ d ∈ r.ds, Sm d := by
  intro d hd
  unfold PR.ds at hd
  simp only [List.mem_cons, List.not_mem_nil, or_false] at hd
  rcases hd with rfl | rfl | rfl | rfl | rfl | rfl | rfl
  · exact (okS_name o.o0).sm
  · exact (okS_name o.o1).sm
  · refine Sm.int ?_
    have := o.o2
    have e : (10 : Nat) ^ 40 = 10000000000000000000000000000000000000000 := by decide +kernel
    omega
  · refine Sm.int ?_
    have := o.o3
    have e : (10 : Nat) ^ 40 = 10000000000000000000000000000000000000000 := by decide +kernel
    omega
  · refine Sm.int ?_
    have := o.o4
    have e : (10 : Nat) ^ 40 = 10000000000000000000000000000000000000000 := by decide +kernel
    omega
  · refine Sm.int ?_
    have := o.o5
    have e : (10 : Nat) ^ 40 = 10000000000000000000000000000000000000000 := by decide +kernel
    omega
  · exact (okS_name o.o6).sm
theorem sh_R {r : PR} (o : r.Ok) : ∀ d ∈ r.ds, shortD d = true := by
  intro d hd
  unfold PR.ds at hd
  simp only [List.mem_cons, List.not_mem_nil, or_false] at hd
  rcases hd with rfl | rfl | rfl | rfl | rfl | rfl | rfl
  · exact (okS_name o.o0).sh
  · exact (okS_name o.o1).sh
  · exact rfl
  · exact rfl
  · exact rfl
  · exact rfl
  · exact (okS_name o.o6).sh
theorem shaped_R {r : PR} (o : r.Ok) : SeqAt.shaped (.tuple r.ds) = true := by
  have h0 : PyData.canLay0 (.str r.x0) = true := (okS_name o.o0).2
  have h1 : PyData.canLay0 (.str r.x1) = true := (okS_name o.o1).2
  have h2 : PyData.canLay0 (.int r.x2) = true := rfl
  have h3 : PyData.canLay0 (.int r.x3) = true := rfl
  have h4 : PyData.canLay0 (.int r.x4) = true := rfl
  have h5 : PyData.canLay0 (.int r.x5) = true := rfl
  have h6 : PyData.canLay0 (.str r.x6) = true := (okS_name o.o6).2
  have e : PyData.canLay0 (.tuple r.ds) = (PyData.canLay0 (.str r.x0) && (PyData.canLay0 (.str r.x1) && (PyData.canLay0 (.int r.x2) && (PyData.canLay0 (.int r.x3) && (PyData.canLay0 (.int r.x4) && (PyData.canLay0 (.int r.x5) && (PyData.canLay0 (.str r.x6) && true))))))) := rfl
  have e2 : PyData.depth (.tuple r.ds) = 1 := rfl
  unfold SeqAt.shaped
  rw [e, e2, h0, h1, h2, h3, h4, h5, h6]
  rfl
/-! the class Deed: its attributes in the order of their stores -/
def flds (r : PR) : List (Str × V) := putF "course" (.str r.x6) (putF "wind" (.int r.x5) (putF "hour" (.int r.x4) (putF "day" (.int r.x3) (putF "mark" (.int r.x2) (putF "event" (.str r.x1) (putF "name" (.str r.x0) ([])))))))
section
variable (r : PR)
theorem f_0 : (flds r).lookup ("name" : Str) = some (.str r.x0) := by
  unfold flds
  rw [lookup_putF, if_neg (by decide +kernel), lookup_putF, if_neg (by decide +kernel), lookup_putF, if_neg (by decide +kernel), lookup_putF, if_neg (by decide +kernel), lookup_putF, if_neg (by decide +kernel), lookup_putF, if_neg (by decide +kernel), lookup_putF, if_pos rfl]
theorem f_1 : (flds r).lookup ("event" : Str) = some (.str r.x1) := by
  unfold flds
  rw [lookup_putF, if_neg (by decide +kernel), lookup_putF, if_neg (by decide +kernel), lookup_putF, if_neg (by decide +kernel), lookup_putF, if_neg (by decide +kernel), lookup_putF, if_neg (by decide +kernel), lookup_putF, if_pos rfl]
theorem f_2 : (flds r).lookup ("mark" : Str) = some (.int r.x2) := by
  unfold flds
  rw [lookup_putF, if_neg (by decide +kernel), lookup_putF, if_neg (by decide +kernel), lookup_putF, if_neg (by decide +kernel), lookup_putF, if_neg (by decide +kernel), lookup_putF, if_pos rfl]
theorem f_3 : (flds r).lookup ("day" : Str) = some (.int r.x3) := by
  unfold flds
  rw [lookup_putF, if_neg (by decide +kernel), lookup_putF, if_neg (by decide +kernel), lookup_putF, if_neg (by decide +kernel), lookup_putF, if_pos rfl]
theorem f_4 : (flds r).lookup ("hour" : Str) = some (.int r.x4) := by
  unfold flds
  rw [lookup_putF, if_neg (by decide +kernel), lookup_putF, if_neg (by decide +kernel), lookup_putF, if_pos rfl]
theorem f_5 : (flds r).lookup ("wind" : Str) = some (.int r.x5) := by
  unfold flds
  rw [lookup_putF, if_neg (by decide +kernel), lookup_putF, if_pos rfl]
theorem f_6 : (flds r).lookup ("course" : Str) = some (.str r.x6) := by
  unfold flds
  rw [lookup_putF, if_pos rfl]
theorem f_no {n : Str} (h0 : ¬ n = "name") (h1 : ¬ n = "event") (h2 : ¬ n = "mark") (h3 : ¬ n = "day") (h4 : ¬ n = "hour") (h5 : ¬ n = "wind") (h6 : ¬ n = "course") : (flds r).lookup n = none := by
  unfold flds
  rw [lookup_putF, if_neg h6, lookup_putF, if_neg h5, lookup_putF, if_neg h4, lookup_putF, if_neg h3, lookup_putF, if_neg h2, lookup_putF, if_neg h1, lookup_putF, if_neg h0]
  rfl
end
theorem lp {n : Nat} {a : Str} {v : V} {fs : List (Str × V)} (h : fs.length ≤ n) : (putF a v fs).length ≤ n + 1 := Nat.le_trans (length_putF a v fs) (Nat.add_le_add_right h 1)
structure ClsT (K : PySem.W.Frag) (mg : Str → Option Value) (C : Addr) : Prop where
  cl : Cls K C
  n0 : NoAttr K C "name"
  n1 : NoAttr K C "event"
  n2 : NoAttr K C "mark"
  n3 : NoAttr K C "day"
  n4 : NoAttr K C "hour"
  n5 : NoAttr K C "wind"
  n6 : NoAttr K C "course"
  gC : mg "Deed" = some (.ref C)
  ha : PySem.W.findIn K (.ref C) "__class__" = some (some (.builtin "object.__class__"))
  hn : PySem.W.specialIn K (.builtin "object.__class__") "__get__" = some (some (.builtin "getset_descriptor.__get__"))
  ht : PySem.W.takesIn K (.builtin "object.__class__") = some true
  hm : PySem.W.mroIn K C (.type "object") = some true
  kit : PySem.W.kitOne K (.ref C) (.ref C) = some true
/-- such an object at p -/
def At (C : Addr) (H : Hp) (p : Addr) (r : PR) : Prop := ∃ dx, H p = some (.ins C dx (flds r))
theorem At.same {C : Addr} {H H' : Hp} {p : Addr} {r : PR} (a : At C H p r) (s : Same H H') : At C H' p r := by
  obtain ⟨dx, h⟩ := a
  exact ⟨dx, s _ _ h⟩
theorem At.ext {C : Addr} {H H' : Hp} {p : Addr} {r : PR} (a : At C H p r) (s : LamX.ExtN H H') : At C H' p r := by
  obtain ⟨dx, h⟩ := a
  exact ⟨dx, s _ _ h (fun _ z => by cases z)⟩
theorem daall_m {Z : Addr → Prop} {H : Hp} {xs : List V} {ds : List PyData} (h : DaAll Z H xs ds) (l : ds.length = 7) : ∃ v0 v1 v2 v3 v4 v5 v6 d0 d1 d2 d3 d4 d5 d6, xs = [v0, v1, v2, v3, v4, v5, v6] ∧ ds = [d0, d1, d2, d3, d4, d5, d6] ∧ Da Z H v0 d0 ∧ Da Z H v1 d1 ∧ Da Z H v2 d2 ∧ Da Z H v3 d3 ∧ Da Z H v4 d4 ∧ Da Z H v5 d5 ∧ Da Z H v6 d6 := by
  match ds, l, h with
  | [d0, d1, d2, d3, d4, d5, d6], _, h =>
    cases h with
    | cons a0 b0 =>
      cases b0 with
      | cons a1 b1 =>
        cases b1 with
        | cons a2 b2 =>
          cases b2 with
          | cons a3 b3 =>
            cases b3 with
            | cons a4 b4 =>
              cases b4 with
              | cons a5 b5 =>
                cases b5 with
                | cons a6 b6 =>
                  cases b6
                  exact ⟨_, _, _, _, _, _, _, _, _, _, _, _, _, _, rfl, rfl, a0, a1, a2, a3, a4, a5, a6⟩
def spIni (C CE : Addr) : Sp := fun vs H Q E => ∃ (Z : Addr → Prop) (p dx : Addr) (xs : List V) (ds : List PyData), vs = .ref p :: xs ∧ H p = some (.ins C dx []) ∧ DaAll Z H xs ds ∧ ds.length = 7 ∧ (∀ d ∈ ds, shortD d = true) ∧
  (∀ r : PR, ds = r.ds → r.Ok → ∀ H', (∀ b o, H b = some o → b ≠ p → H' b = some o) → H' p = some (.ins C dx (flds r)) → Q .non H') ∧ (okds ds = false → ∀ H', Same H H' → E (.ref CE) none H')
def spParts (C : Addr) : Sp := fun vs H Q _ => ∃ (p : Addr) (r : PR), vs = [.ref p] ∧ At C H p r ∧ ∀ q H', H q = none → Same H H' → H' q = some (.tup r.vs) → Q (.ref q) H'
def spEq (C : Addr) : Sp := fun vs H Q _ => ∃ (p q : Addr) (r t : PR), vs = [.ref p, .ref q] ∧ At C H p r ∧ At C H q t ∧ r.Ok ∧ t.Ok ∧ ∀ H', Same H H' → Q (.bl (eqR r t)) H'
def spEqX : Sp := fun vs H Q _ => ∃ (p : Addr) (y : V), vs = [.ref p, y] ∧ Bt H y ∧ Q (.bl false) H
def wTxt (zs : List Str) : Str := Txt.join (" " : Str) zs
def NotB (K : PySem.W.Frag) (C : Addr) : Prop := ∀ n ∈ tyNames, PySem.W.kitOne K (.type n) (.ref C) = some false
theorem da_tyn {K : PySem.W.Frag} {Z : Addr → Prop} {H : Hp} {x : V} {d : PyData} (h : Da Z H x d) : ∃ n, TyX K H x (.type n) ∧ n ∈ tyNames := by
  cases h with
  | non => exact ⟨_, .base .non, by decide⟩
  | bl b => exact ⟨_, .base (.bl b), by decide⟩
  | int i => exact ⟨_, .base (.int i), by decide⟩
  | str z => exact ⟨_, .base (.str z), by decide⟩
  | lst h _ _ => exact ⟨_, .base (.lst h), by decide⟩
  | tup h _ _ => exact ⟨_, .base (.tup h), by decide⟩
  | d0 h _ => exact ⟨_, .base (.dK h), by decide⟩
  | d1 h _ => exact ⟨_, .base (.dK h), by decide⟩
theorem bt_tyn {K : PySem.W.Frag} {H : Hp} {x : V} (h : Bt H x) : ∃ n, TyX K H x (.type n) ∧ n ∈ tyNames := by
  rcases h with ⟨Z, d, h⟩ | ⟨a, xs, rfl, e⟩
  · exact da_tyn h
  · exact ⟨_, .base (.lst e), by decide⟩
/-- the program's helpers as they stand -/
structure Hq (K : PySem.W.Frag) (mg : Str → Option Value) : Prop where
  isn : ∃ a d, Fn K "is_number" "is_number" sIsNum a d ∧ mg "is_number" = some (.ref a)
  frm : ∃ a d, Fn K "is_number_from" "is_number_from" sFrom a d ∧ mg "is_number_from" = some (.ref a)
  nam : ∃ a d, Fn K "is_name" "is_name" sIsName a d ∧ mg "is_name" = some (.ref a)
  his_mark : ∃ a d, Fn K "is_mark" "is_mark" sIsMark a d ∧ mg "is_mark" = some (.ref a)
  his_day : ∃ a d, Fn K "is_day" "is_day" sIsDay a d ∧ mg "is_day" = some (.ref a)
  his_hour : ∃ a d, Fn K "is_hour" "is_hour" sIsHour a d ∧ mg "is_hour" = some (.ref a)
  his_wind : ∃ a d, Fn K "is_wind" "is_wind" sIsWind a d ∧ mg "is_wind" = some (.ref a)
  fr : Free mg
  cs : Cons mg
section
variable {P : Program} {w : World} {K : PySem.W.Frag} {mg : Str → Option Value} {base : Heap} {f : Addr} {fd : FuncData}
theorem Hq.na (h : Hq K mg) : ∃ a d, FnOk P w K mg base L2.CX0 1 a d ["thing"] (spPred nameD) ∧ mg "is_name" = some (.ref a) ∧ PySem.W.keepIn K (.ref a) = true ∧ Binds K d ["thing"] [] := by
  obtain ⟨a, d, F, g⟩ := h.nam
  exact ⟨a, d, ok_isname F h.fr h.cs, g, F.kp, F.bindsN fun _ _ _ _ _ _ us hl => match us, hl with | [_], _ => rfl⟩
theorem scIsMark : FnScope ["thing"] ["thing"] (defScope sIsMark) := ⟨rfl, rfl, rfl, by decide +kernel, rfl, by decide +kernel, by decide +kernel⟩
theorem ok_is_mark (F : Fn K "is_mark" "is_mark" sIsMark f fd) (h : Hq K mg) : FnOk P w K mg base L2.CX0 3 f fd ["thing"] (spPred (numD (1) 1000000)) := by
  obtain ⟨a1, d1, F1, g1⟩ := h.isn
  obtain ⟨a2, d2, F2, g2⟩ := h.frm
  have G2 : FnOk P w K mg base L2.CX0 2 a2 d2 ["thing", "least", "most"] spFrom := ok_from F2 F1 g1 h.fr
  have b2 : Binds K d2 ["thing", "least", "most"] [] := F2.bindsN fun _ _ _ _ _ _ us hl => match us, hl with | [_, _, _], _ => rfl
  refine F.ok scIsMark (fun vs H Q E h => ?_) (fun cdv A outer s H vs Q E hr hh => ?_)
  · obtain ⟨Z, x, d, rfl, _⟩ := h
    rfl
  · obtain ⟨Z, x, d, rfl, hx, sh, q⟩ := hh
    refine ⟨_, PSs.nox (pss_one (ps_ret (pe_call G2 hr rfl g2 F2.kp b2 .nil pass0 (pa_cons (pv 0) (pa_cons (pe_k h.cs.least rfl) (pa_cons (pe_k h.cs.most rfl) pa_nil)))))), ?_⟩
    have z := q H (Same.refl H)
    rw [← num_da hx] at z
    exact ⟨_, rfl, x, _, _, rfl, da_th hx, z⟩
theorem Hq.is_mark (h : Hq K mg) : ∃ a d, FnOk P w K mg base L2.CX0 3 a d ["thing"] (spPred (numD (1) 1000000)) ∧ mg "is_mark" = some (.ref a) ∧ PySem.W.keepIn K (.ref a) = true ∧ Binds K d ["thing"] [] := by
  obtain ⟨a, d, F, g⟩ := h.his_mark
  exact ⟨a, d, ok_is_mark F h, g, F.kp, F.bindsN fun _ _ _ _ _ _ us hl => match us, hl with | [_], _ => rfl⟩
theorem scIsDay : FnScope ["thing"] ["thing"] (defScope sIsDay) := ⟨rfl, rfl, rfl, by decide +kernel, rfl, by decide +kernel, by decide +kernel⟩
theorem ok_is_day (F : Fn K "is_day" "is_day" sIsDay f fd) (h : Hq K mg) : FnOk P w K mg base L2.CX0 3 f fd ["thing"] (spPred (numD (-40000) 40000)) := by
  obtain ⟨a1, d1, F1, g1⟩ := h.isn
  obtain ⟨a2, d2, F2, g2⟩ := h.frm
  have G2 : FnOk P w K mg base L2.CX0 2 a2 d2 ["thing", "least", "most"] spFrom := ok_from F2 F1 g1 h.fr
  have b2 : Binds K d2 ["thing", "least", "most"] [] := F2.bindsN fun _ _ _ _ _ _ us hl => match us, hl with | [_, _, _], _ => rfl
  refine F.ok scIsDay (fun vs H Q E h => ?_) (fun cdv A outer s H vs Q E hr hh => ?_)
  · obtain ⟨Z, x, d, rfl, _⟩ := h
    rfl
  · obtain ⟨Z, x, d, rfl, hx, sh, q⟩ := hh
    refine ⟨_, PSs.nox (pss_one (ps_ret (pe_call G2 hr rfl g2 F2.kp b2 .nil pass0 (pa_cons (pv 0) (pa_cons (pe_un un_neg (pe_k h.cs.day rfl)) (pa_cons (pe_k h.cs.day rfl) pa_nil)))))), ?_⟩
    have z := q H (Same.refl H)
    rw [← num_da hx] at z
    exact ⟨_, rfl, _, rfl, x, _, _, rfl, da_th hx, z⟩
theorem Hq.is_day (h : Hq K mg) : ∃ a d, FnOk P w K mg base L2.CX0 3 a d ["thing"] (spPred (numD (-40000) 40000)) ∧ mg "is_day" = some (.ref a) ∧ PySem.W.keepIn K (.ref a) = true ∧ Binds K d ["thing"] [] := by
  obtain ⟨a, d, F, g⟩ := h.his_day
  exact ⟨a, d, ok_is_day F h, g, F.kp, F.bindsN fun _ _ _ _ _ _ us hl => match us, hl with | [_], _ => rfl⟩
theorem scIsHour : FnScope ["thing"] ["thing"] (defScope sIsHour) := ⟨rfl, rfl, rfl, by decide +kernel, rfl, by decide +kernel, by decide +kernel⟩
theorem ok_is_hour (F : Fn K "is_hour" "is_hour" sIsHour f fd) (h : Hq K mg) : FnOk P w K mg base L2.CX0 3 f fd ["thing"] (spPred (numD (0) 23)) := by
  obtain ⟨a1, d1, F1, g1⟩ := h.isn
  obtain ⟨a2, d2, F2, g2⟩ := h.frm
  have G2 : FnOk P w K mg base L2.CX0 2 a2 d2 ["thing", "least", "most"] spFrom := ok_from F2 F1 g1 h.fr
  have b2 : Binds K d2 ["thing", "least", "most"] [] := F2.bindsN fun _ _ _ _ _ _ us hl => match us, hl with | [_, _, _], _ => rfl
  refine F.ok scIsHour (fun vs H Q E h => ?_) (fun cdv A outer s H vs Q E hr hh => ?_)
  · obtain ⟨Z, x, d, rfl, _⟩ := h
    rfl
  · obtain ⟨Z, x, d, rfl, hx, sh, q⟩ := hh
    refine ⟨_, PSs.nox (pss_one (ps_ret (pe_call G2 hr rfl g2 F2.kp b2 .nil pass0 (pa_cons (pv 0) (pa_cons pe_int (pa_cons (pe_k h.cs.hour rfl) pa_nil)))))), ?_⟩
    have z := q H (Same.refl H)
    rw [← num_da hx] at z
    exact ⟨_, rfl, x, _, _, rfl, da_th hx, z⟩
theorem Hq.is_hour (h : Hq K mg) : ∃ a d, FnOk P w K mg base L2.CX0 3 a d ["thing"] (spPred (numD (0) 23)) ∧ mg "is_hour" = some (.ref a) ∧ PySem.W.keepIn K (.ref a) = true ∧ Binds K d ["thing"] [] := by
  obtain ⟨a, d, F, g⟩ := h.his_hour
  exact ⟨a, d, ok_is_hour F h, g, F.kp, F.bindsN fun _ _ _ _ _ _ us hl => match us, hl with | [_], _ => rfl⟩
theorem scIsWind : FnScope ["thing"] ["thing"] (defScope sIsWind) := ⟨rfl, rfl, rfl, by decide +kernel, rfl, by decide +kernel, by decide +kernel⟩
theorem ok_is_wind (F : Fn K "is_wind" "is_wind" sIsWind f fd) (h : Hq K mg) : FnOk P w K mg base L2.CX0 3 f fd ["thing"] (spPred (numD (-99) 99)) := by
  obtain ⟨a1, d1, F1, g1⟩ := h.isn
  obtain ⟨a2, d2, F2, g2⟩ := h.frm
  have G2 : FnOk P w K mg base L2.CX0 2 a2 d2 ["thing", "least", "most"] spFrom := ok_from F2 F1 g1 h.fr
  have b2 : Binds K d2 ["thing", "least", "most"] [] := F2.bindsN fun _ _ _ _ _ _ us hl => match us, hl with | [_, _, _], _ => rfl
  refine F.ok scIsWind (fun vs H Q E h => ?_) (fun cdv A outer s H vs Q E hr hh => ?_)
  · obtain ⟨Z, x, d, rfl, _⟩ := h
    rfl
  · obtain ⟨Z, x, d, rfl, hx, sh, q⟩ := hh
    refine ⟨_, PSs.nox (pss_one (ps_ret (pe_call G2 hr rfl g2 F2.kp b2 .nil pass0 (pa_cons (pv 0) (pa_cons (pe_un un_neg (pe_k h.cs.wind rfl)) (pa_cons (pe_k h.cs.wind rfl) pa_nil)))))), ?_⟩
    have z := q H (Same.refl H)
    rw [← num_da hx] at z
    exact ⟨_, rfl, _, rfl, x, _, _, rfl, da_th hx, z⟩
theorem Hq.is_wind (h : Hq K mg) : ∃ a d, FnOk P w K mg base L2.CX0 3 a d ["thing"] (spPred (numD (-99) 99)) ∧ mg "is_wind" = some (.ref a) ∧ PySem.W.keepIn K (.ref a) = true ∧ Binds K d ["thing"] [] := by
  obtain ⟨a, d, F, g⟩ := h.his_wind
  exact ⟨a, d, ok_is_wind F h, g, F.kp, F.bindsN fun _ _ _ _ _ _ us hl => match us, hl with | [_], _ => rfl⟩
abbrev nIni : List Str := ["self", "name", "event", "mark", "day", "hour", "wind", "course"]
theorem scIni : FnScope nIni nIni (defScope sIni) := ⟨rfl, rfl, rfl, by decide +kernel, rfl, by decide +kernel, by decide +kernel⟩
theorem ok_ini {C CE : Addr} {dvs : List V} (F : FunD K "__init__" "Deed.__init__" (defArgs sIni) (defBody sIni) (defScope sIni) dvs [] f fd) (h : Hq K mg) (R : ClsT K mg C) (en : ErrT K mg "NoDeed" CE) : FnOk P w K mg base (L2.CX P w) 4 f fd nIni (spIni C CE) := by
  obtain ⟨aN, dN, GN, gN, kN, bN⟩ := h.na (P := P) (w := w) (base := base)
  obtain ⟨aAx, dAx, GAx, gAx, kAx, bAx⟩ := h.is_mark (P := P) (w := w) (base := base)
  obtain ⟨aBx, dBx, GBx, gBx, kBx, bBx⟩ := h.is_day (P := P) (w := w) (base := base)
  obtain ⟨aCx, dCx, GCx, gCx, kCx, bCx⟩ := h.is_hour (P := P) (w := w) (base := base)
  obtain ⟨aDx, dDx, GDx, gDx, kDx, bDx⟩ := h.is_wind (P := P) (w := w) (base := base)
  refine F.ok (CX := L2.CX P w) scIni (fun vs H Q E h => ?_) (fun cdv A outer s H vs Q E hr hh => ?_)
  · obtain ⟨Z, p, dx, xs, ds, rfl, _, al, l, _⟩ := h
    have := al.len
    show (V.ref p :: xs).length = _
    rw [List.length_cons, this, l]
    rfl
  · obtain ⟨Z, p, dx, xs, ds, rfl, hp, al, l, sh, yes, no⟩ := hh
    obtain ⟨v0, v1, v2, v3, v4, v5, v6, d0, d1, d2, d3, d4, d5, d6, rfl, rfl, h0, h1, h2, h3, h4, h5, h6⟩ := daall_m al l
    have hr1 : Room 1 _ := hr.mono (by decide)
    have hr2 : Room 2 _ := hr.mono (by decide)
    refine ⟨_, pss_cons (ps_if (pt_not (pt_val (pe_call GN hr1 rfl gN kN bN .nil pass0 (pa_cons (pv 1) pa_nil)))) (pss_one (ps_raise rfl (takes_of rfl rfl rfl rfl) (pmk_own PySem.F.excBase_ValueError en.ex en.g en.kp (raises_own en.sb en.ty) rfl))) pss_nil)
      (pss_cons (ps_if (pt_not (pt_val (pe_call GN hr1 rfl gN kN bN .nil pass0 (pa_cons (pv 2) pa_nil)))) (pss_one (ps_raise rfl (takes_of rfl rfl rfl rfl) (pmk_own PySem.F.excBase_ValueError en.ex en.g en.kp (raises_own en.sb en.ty) rfl))) pss_nil)
      (pss_cons (ps_if (pt_not (pt_val (pe_call GAx hr rfl gAx kAx bAx .nil pass0 (pa_cons (pv 3) pa_nil)))) (pss_one (ps_raise rfl (takes_of rfl rfl rfl rfl) (pmk_own PySem.F.excBase_ValueError en.ex en.g en.kp (raises_own en.sb en.ty) rfl))) pss_nil)
      (pss_cons (ps_if (pt_not (pt_val (pe_call GBx hr rfl gBx kBx bBx .nil pass0 (pa_cons (pv 4) pa_nil)))) (pss_one (ps_raise rfl (takes_of rfl rfl rfl rfl) (pmk_own PySem.F.excBase_ValueError en.ex en.g en.kp (raises_own en.sb en.ty) rfl))) pss_nil)
      (pss_cons (ps_if (pt_not (pt_val (pe_call GCx hr rfl gCx kCx bCx .nil pass0 (pa_cons (pv 5) pa_nil)))) (pss_one (ps_raise rfl (takes_of rfl rfl rfl rfl) (pmk_own PySem.F.excBase_ValueError en.ex en.g en.kp (raises_own en.sb en.ty) rfl))) pss_nil)
      (pss_cons (ps_if (pt_not (pt_val (pe_call GDx hr rfl gDx kDx bDx .nil pass0 (pa_cons (pv 6) pa_nil)))) (pss_one (ps_raise rfl (takes_of rfl rfl rfl rfl) (pmk_own PySem.F.excBase_ValueError en.ex en.g en.kp (raises_own en.sb en.ty) rfl))) pss_nil)
      (pss_cons (ps_if (pt_not (pt_val (pe_call GN hr1 rfl gN kN bN .nil pass0 (pa_cons (pv 7) pa_nil)))) (pss_one (ps_raise rfl (takes_of rfl rfl rfl rfl) (pmk_own PySem.F.excBase_ValueError en.ex en.g en.kp (raises_own en.sb en.ty) rfl))) pss_nil)
      (pss_cons (ps_fld (pv 0) (pv 1) rfl) (pss_cons (ps_fld (pv 0) (pv 2) rfl) (pss_cons (ps_fld (pv 0) (pv 3) rfl) (pss_cons (ps_fld (pv 0) (pv 4) rfl) (pss_cons (ps_fld (pv 0) (pv 5) rfl) (pss_cons (ps_fld (pv 0) (pv 6) rfl) (pss_one (ps_fld (pv 0) (pv 7) rfl)))))))))))))), ?_⟩
    refine ⟨_, rfl, Z, v0, d0, rfl, Da.keep (Keeps.of (Same.refl H)) _ _ h0, sh _ (by simp), fun H1 k1 => ⟨_, rfl, ?_⟩⟩
    have S1 : Same H H1 := k1
    refine ite2 (fun c => ?_) (fun c => ?_)
    · have c' : nameD d0 = false := by simpa using c
      refine no ?_ H1 S1
      show (nameD d0 && (nameD d1 && ((numD (1) 1000000) d2 && ((numD (-40000) 40000) d3 && ((numD (0) 23) d4 && ((numD (-99) 99) d5 && (nameD d6))))))) = false
      rw [c', Bool.false_and]
    have c0 : nameD d0 = true := by simpa using c
    refine ⟨_, rfl, Z, v1, d1, rfl, Da.keep (Keeps.of (S1)) _ _ h1, sh _ (by simp), fun H2 k2 => ⟨_, rfl, ?_⟩⟩
    have S2 : Same H H2 := S1.trans k2
    refine ite2 (fun c => ?_) (fun c => ?_)
    · have c' : nameD d1 = false := by simpa using c
      refine no ?_ H2 S2
      show (nameD d0 && (nameD d1 && ((numD (1) 1000000) d2 && ((numD (-40000) 40000) d3 && ((numD (0) 23) d4 && ((numD (-99) 99) d5 && (nameD d6))))))) = false
      rw [c0, Bool.true_and, c', Bool.false_and]
    have c1 : nameD d1 = true := by simpa using c
    refine ⟨_, rfl, Z, v2, d2, rfl, Da.keep (Keeps.of (S2)) _ _ h2, sh _ (by simp), fun H3 k3 => ⟨_, rfl, ?_⟩⟩
    have S3 : Same H H3 := S2.trans k3
    refine ite2 (fun c => ?_) (fun c => ?_)
    · have c' : (numD (1) 1000000) d2 = false := by simpa using c
      refine no ?_ H3 S3
      show (nameD d0 && (nameD d1 && ((numD (1) 1000000) d2 && ((numD (-40000) 40000) d3 && ((numD (0) 23) d4 && ((numD (-99) 99) d5 && (nameD d6))))))) = false
      rw [c0, Bool.true_and, c1, Bool.true_and, c', Bool.false_and]
    have c2 : (numD (1) 1000000) d2 = true := by simpa using c
    refine ⟨_, rfl, Z, v3, d3, rfl, Da.keep (Keeps.of (S3)) _ _ h3, sh _ (by simp), fun H4 k4 => ⟨_, rfl, ?_⟩⟩
    have S4 : Same H H4 := S3.trans k4
    refine ite2 (fun c => ?_) (fun c => ?_)
    · have c' : (numD (-40000) 40000) d3 = false := by simpa using c
      refine no ?_ H4 S4
      show (nameD d0 && (nameD d1 && ((numD (1) 1000000) d2 && ((numD (-40000) 40000) d3 && ((numD (0) 23) d4 && ((numD (-99) 99) d5 && (nameD d6))))))) = false
      rw [c0, Bool.true_and, c1, Bool.true_and, c2, Bool.true_and, c', Bool.false_and]
    have c3 : (numD (-40000) 40000) d3 = true := by simpa using c
    refine ⟨_, rfl, Z, v4, d4, rfl, Da.keep (Keeps.of (S4)) _ _ h4, sh _ (by simp), fun H5 k5 => ⟨_, rfl, ?_⟩⟩
    have S5 : Same H H5 := S4.trans k5
    refine ite2 (fun c => ?_) (fun c => ?_)
    · have c' : (numD (0) 23) d4 = false := by simpa using c
      refine no ?_ H5 S5
      show (nameD d0 && (nameD d1 && ((numD (1) 1000000) d2 && ((numD (-40000) 40000) d3 && ((numD (0) 23) d4 && ((numD (-99) 99) d5 && (nameD d6))))))) = false
      rw [c0, Bool.true_and, c1, Bool.true_and, c2, Bool.true_and, c3, Bool.true_and, c', Bool.false_and]
    have c4 : (numD (0) 23) d4 = true := by simpa using c
    refine ⟨_, rfl, Z, v5, d5, rfl, Da.keep (Keeps.of (S5)) _ _ h5, sh _ (by simp), fun H6 k6 => ⟨_, rfl, ?_⟩⟩
    have S6 : Same H H6 := S5.trans k6
    refine ite2 (fun c => ?_) (fun c => ?_)
    · have c' : (numD (-99) 99) d5 = false := by simpa using c
      refine no ?_ H6 S6
      show (nameD d0 && (nameD d1 && ((numD (1) 1000000) d2 && ((numD (-40000) 40000) d3 && ((numD (0) 23) d4 && ((numD (-99) 99) d5 && (nameD d6))))))) = false
      rw [c0, Bool.true_and, c1, Bool.true_and, c2, Bool.true_and, c3, Bool.true_and, c4, Bool.true_and, c', Bool.false_and]
    have c5 : (numD (-99) 99) d5 = true := by simpa using c
    refine ⟨_, rfl, Z, v6, d6, rfl, Da.keep (Keeps.of (S6)) _ _ h6, sh _ (by simp), fun H7 k7 => ⟨_, rfl, ?_⟩⟩
    have S7 : Same H H7 := S6.trans k7
    refine ite2 (fun c => ?_) (fun c => ?_)
    · have c' : nameD d6 = false := by simpa using c
      refine no ?_ H7 S7
      show (nameD d0 && (nameD d1 && ((numD (1) 1000000) d2 && ((numD (-40000) 40000) d3 && ((numD (0) 23) d4 && ((numD (-99) 99) d5 && (nameD d6))))))) = false
      rw [c0, Bool.true_and, c1, Bool.true_and, c2, Bool.true_and, c3, Bool.true_and, c4, Bool.true_and, c5, Bool.true_and, c']
    have c6 : nameD d6 = true := by simpa using c
    have hp' := S7 _ _ hp
    obtain ⟨z0, rfl, o0⟩ := nameD_ex c0
    cases h0
    obtain ⟨z1, rfl, o1⟩ := nameD_ex c1
    cases h1
    obtain ⟨z2, rfl, o2⟩ := numD_ex c2
    cases h2
    obtain ⟨z3, rfl, o3⟩ := numD_ex c3
    cases h3
    obtain ⟨z4, rfl, o4⟩ := numD_ex c4
    cases h4
    obtain ⟨z5, rfl, o5⟩ := numD_ex c5
    cases h5
    obtain ⟨z6, rfl, o6⟩ := nameD_ex c6
    cases h6
    refine ⟨_, rfl, _, rfl, p, C, dx, _, rfl, hp', R.cl, R.n0, (by show 0 < 1000; decide), ?_⟩
    refine ⟨_, rfl, _, rfl, p, C, dx, _, rfl, upd_same, R.cl, R.n1, Nat.lt_of_le_of_lt (lp (Nat.le_refl 0)) (by decide), ?_⟩
    refine ⟨_, rfl, _, rfl, p, C, dx, _, rfl, upd_same, R.cl, R.n2, Nat.lt_of_le_of_lt (lp (lp (Nat.le_refl 0))) (by decide), ?_⟩
    refine ⟨_, rfl, _, rfl, p, C, dx, _, rfl, upd_same, R.cl, R.n3, Nat.lt_of_le_of_lt (lp (lp (lp (Nat.le_refl 0)))) (by decide), ?_⟩
    refine ⟨_, rfl, _, rfl, p, C, dx, _, rfl, upd_same, R.cl, R.n4, Nat.lt_of_le_of_lt (lp (lp (lp (lp (Nat.le_refl 0))))) (by decide), ?_⟩
    refine ⟨_, rfl, _, rfl, p, C, dx, _, rfl, upd_same, R.cl, R.n5, Nat.lt_of_le_of_lt (lp (lp (lp (lp (lp (Nat.le_refl 0)))))) (by decide), ?_⟩
    refine ⟨_, rfl, _, rfl, p, C, dx, _, rfl, upd_same, R.cl, R.n6, Nat.lt_of_le_of_lt (lp (lp (lp (lp (lp (lp (Nat.le_refl 0))))))) (by decide), ?_⟩
    refine yes ⟨z0, z1, z2, z3, z4, z5, z6⟩ rfl ⟨o0, o1, o2, o3, o4, o5, o6⟩ _ (fun b o e ne => ?_) upd_same
    rw [upd_ne ne, upd_ne ne, upd_ne ne, upd_ne ne, upd_ne ne, upd_ne ne, upd_ne ne]
    exact S7 b o e
theorem scParts : FnScope ["self"] ["self"] (defScope sParts) := ⟨rfl, rfl, rfl, by decide +kernel, rfl, by decide +kernel, by decide +kernel⟩
theorem ok_parts {C : Addr} (F : Fn K "parts" "Deed.parts" sParts f fd) (R : ClsT K mg C) : FnOk P w K mg base L2.CX0 1 f fd ["self"] (spParts C) := by
  refine F.ok scParts (fun vs H Q E h => ?_) (fun cdv A outer s H vs Q E hr hh => ?_)
  · obtain ⟨p, r, rfl, _⟩ := h
    rfl
  · obtain ⟨p, r, rfl, ⟨dx, hp⟩, q⟩ := hh
    refine ⟨_, PSs.nox (pss_one (ps_ret (pe_tup (pa_cons (pe_fld (pv 0) rfl) (pa_cons (pe_fld (pv 0) rfl) (pa_cons (pe_fld (pv 0) rfl) (pa_cons (pe_fld (pv 0) rfl) (pa_cons (pe_fld (pv 0) rfl) (pa_cons (pe_fld (pv 0) rfl) (pa_cons (pe_fld (pv 0) rfl) pa_nil)))))))))), ?_⟩
    refine ⟨_, rfl, p, C, dx, _, _, rfl, hp, R.cl, R.n0, f_0 _, _, rfl, p, C, dx, _, _, rfl, hp, R.cl, R.n1, f_1 _, _, rfl, p, C, dx, _, _, rfl, hp, R.cl, R.n2, f_2 _, _, rfl, p, C, dx, _, _, rfl, hp, R.cl, R.n3, f_3 _, _, rfl, p, C, dx, _, _, rfl, hp, R.cl, R.n4, f_4 _, _, rfl, p, C, dx, _, _, rfl, hp, R.cl, R.n5, f_5 _, _, rfl, p, C, dx, _, _, rfl, hp, R.cl, R.n6, f_6 _, (by show 7 ≤ sizeLine; decide), fun t ht => ?_⟩
    exact q t _ ht (up2 ht) upd_same
theorem no_m {r : PR} {n : Str} (h : (["name", "event", "mark", "day", "hour", "wind", "course"] : List Str).contains n = false) : (flds r).lookup n = none := by
  have g : ∀ y ∈ (["name", "event", "mark", "day", "hour", "wind", "course"] : List Str), ¬ n = y := fun y hy e => by
    subst e
    have := List.contains_iff_mem.mpr hy
    rw [this] at h
    cases h
  exact f_no r (g _ (by simp)) (g _ (by simp)) (g _ (by simp)) (g _ (by simp)) (g _ (by simp)) (g _ (by simp)) (g _ (by simp))
theorem scEq : FnScope ["self", "other"] ["self", "other"] (defScope sEq) := ⟨rfl, rfl, rfl, by decide +kernel, rfl, by decide +kernel, by decide +kernel⟩
theorem ok_eq {C fP : Addr} {fdP : FuncData} (F : Fn K "__eq__" "Deed.__eq__" sEq f fd) (T : Free mg) (R : ClsT K mg C) (FP : Fn K "parts" "Deed.parts" sParts fP fdP) (mP : Meth K C "parts" fP) : FnOk P w K mg base L2.CX0 2 f fd ["self", "other"] (spEq C) := by
  have GP : FnOk P w K mg base L2.CX0 1 fP fdP ["self"] (spParts C) := ok_parts FP R
  have bP : Binds K fdP ["self"] [] := FP.bindsN fun _ _ _ _ _ _ us hl => match us, hl with | [_], _ => rfl
  refine F.ok scEq (fun vs H Q E h => ?_) (fun cdv A outer s H vs Q E hr hh => ?_)
  · obtain ⟨p, q, r, t, rfl, _⟩ := h
    rfl
  · obtain ⟨p, q, r, t, rfl, ap, aq, o1, o2, fin⟩ := hh
    obtain ⟨dx, hp⟩ := id ap
    obtain ⟨dy, hq⟩ := id aq
    refine ⟨_, PSs.nox (pss_one (ps_ret (pe_and (pe_callB call_isi rfl T.isi boot_isinstance (pa_cons (pv 1) (pa_cons (pe_glob rfl R.gC (v := .ref C) rfl) pa_nil)))
      (pe_one (pe_cmpR (op_eqD hr.units) (pe_meth0 (pv 0) R.cl mP GP hr bP .nil pass0) (pe_meth0 (pv 1) R.cl mP GP hr bP .nil pass0) (nomark _)))))), ?_⟩
    refine ⟨_, rfl, _, _, _, _, _, rfl, .own C, .base (.ins hq R.cl R.ha R.hn R.ht R.hm), R.kit, _, rfl, iteT ?_⟩
    refine ⟨_, rfl, p, dx, _, rfl, hp, no_m (by decide +kernel), p, r, rfl, ap, fun r1 H1 n1 s1 h1 => ?_⟩
    refine ⟨_, rfl, q, dy, _, rfl, s1 _ _ hq, no_m (by decide +kernel), q, t, rfl, aq.same s1, fun r2 H2 n2 s2 h2 => ?_⟩
    refine ⟨.tuple r.ds, .tuple t.ds, dp_R (s2 _ _ h1), dp_R h2, shaped_R o1, shaped_R o2, ?_⟩
    rw [eqv_R]
    exact fin H2 (s1.trans s2)
theorem ok_eqX {C fP : Addr} {fdP : FuncData} (F : Fn K "__eq__" "Deed.__eq__" sEq f fd) (T : Free mg) (R : ClsT K mg C) (FP : Fn K "parts" "Deed.parts" sParts fP fdP) (mP : Meth K C "parts" fP) (nb : NotB K C) : FnOk P w K mg base L2.CX0 2 f fd ["self", "other"] spEqX := by
  have GP : FnOk P w K mg base L2.CX0 1 fP fdP ["self"] (spParts C) := ok_parts FP R
  have bP : Binds K fdP ["self"] [] := FP.bindsN fun _ _ _ _ _ _ us hl => match us, hl with | [_], _ => rfl
  refine F.ok scEq (fun vs H Q E h => ?_) (fun cdv A outer s H vs Q E hr hh => ?_)
  · obtain ⟨p, y, rfl, _⟩ := h
    rfl
  · obtain ⟨p, y, rfl, hd, q⟩ := hh
    refine ⟨_, PSs.nox (pss_one (ps_ret (pe_and (pe_callB call_isi rfl T.isi boot_isinstance (pa_cons (pv 1) (pa_cons (pe_glob rfl R.gC (v := .ref C) rfl) pa_nil)))
      (pe_one (pe_cmpR (op_eqD hr.units) (pe_meth0 (pv 0) R.cl mP GP hr bP .nil pass0) (pe_meth0 (pv 1) R.cl mP GP hr bP .nil pass0) (nomark _)))))), ?_⟩
    obtain ⟨n, ty, hn⟩ := bt_tyn (K := K) hd
    exact ⟨_, rfl, _, _, _, _, _, rfl, .own C, ty, nb n hn, _, rfl, q⟩
end
end K13
set_option Elab.async false
set_option linter.all false
set_option maxRecDepth 100000
set_option maxHeartbeats 4000000
namespace K13
open PySem PySem.Spec PyProof.Rows L2 Bb
/-! rows of parts; what they show -/
theorem shB {ds : List PyData} (h : ∀ d ∈ ds, Sm d) (l : ds.length ≤ 8) : Sh (.tuple ds) := by
  obtain ⟨h1, h2, h3⟩ := all_shw h
  refine ⟨h1, ?_, ?_⟩
  · show PyData.depthAll ds + 1 ≤ 60
    omega
  · have t := tupleText_le (PyData.shownAll ds)
    have sz := sizeLine_eq
    show (tupleText (PyData.shownAll ds)).length ≤ sizeLine
    omega
structure Row (Z : Addr → Prop) (H : Hp) (R : Addr) (xs : List V) (ds : List PyData) : Prop where
  at_ : H R = some (.tup xs)
  nz : ¬ Z R
  al : DaAll Z H xs ds
  len : ds.length = 7
  sm : ∀ d ∈ ds, Sm d
  sh : ∀ d ∈ ds, shortD d = true
section
variable {Z Z' : Addr → Prop} {H H' : Hp} {R : Addr} {xs : List V} {ds : List PyData}
theorem Row.keep (r : Row Z H R xs ds) (k : Keeps Z H H') : Row Z H' R xs ds := ⟨k _ _ r.at_ (fun _ z => by cases z) r.nz, r.nz, DaAll.keep k _ _ r.al, r.len, r.sm, r.sh⟩
theorem Row.zed (r : Row Z H R xs ds) (n : ∀ b o, H b = some o → ¬ Z b → ¬ Z' b) : Row Z' H R xs ds := ⟨r.at_, n _ _ r.at_ r.nz, DaAll.zed n _ _ r.al, r.len, r.sm, r.sh⟩
theorem Row.da (r : Row Z H R xs ds) : Da Z H (.ref R) (.tuple ds) := .tup r.at_ r.nz r.al
theorem Row.shw (r : Row Z H R xs ds) : Sh (.tuple ds) := shB r.sm (by rw [r.len]; decide)
theorem Row.xlen (r : Row Z H R xs ds) : xs.length = 7 := by rw [r.al.len, r.len]
theorem Row.put {w : Nat} {v : V} {d : PyData} {D : Addr} (r : Row Z H R xs ds) (a : Da Z H v d) (s : Sm d) (t : shortD d = true) (hw : w < 7) (e : H D = some (.tup (xs.take w ++ [v] ++ xs.drop (w + 1)))) (n : ¬ Z D) : Row Z H D (xs.take w ++ [v] ++ xs.drop (w + 1)) (ds.take w ++ [d] ++ ds.drop (w + 1)) := by
  have hl := r.len
  refine ⟨e, n, ((r.al.take w).app (.cons a .nil)).app (r.al.drop (w + 1)), ?_, fun x hx => ?_, fun x hx => ?_⟩
  · rw [List.length_append, List.length_append, List.length_take, List.length_drop, List.length_singleton]
    omega
  · rcases List.mem_append.mp hx with q | q
    · rcases List.mem_append.mp q with q | q
      · exact r.sm x (List.mem_of_mem_take q)
      · rw [List.mem_singleton.mp q]
        exact s
    · exact r.sm x (List.mem_of_mem_drop q)
  · rcases List.mem_append.mp hx with q | q
    · rcases List.mem_append.mp q with q | q
      · exact r.sh x (List.mem_of_mem_take q)
      · rw [List.mem_singleton.mp q]
        exact t
    · exact r.sh x (List.mem_of_mem_drop q)
end
theorem vs_of {Z : Addr → Prop} {H : Hp} {r : PR} {xs : List V} (h : DaAll Z H xs r.ds) : xs = r.vs := by
  obtain ⟨v0, v1, v2, v3, v4, v5, v6, d0, d1, d2, d3, d4, d5, d6, rfl, e, h0, h1, h2, h3, h4, h5, h6⟩ := daall_m h rfl
  unfold PR.ds at e
  injection e with e0 e
  injection e with e1 e
  injection e with e2 e
  injection e with e3 e
  injection e with e4 e
  injection e with e5 e
  injection e with e6 e
  subst e0 e1 e2 e3 e4 e5 e6
  cases h0
  cases h1
  cases h2
  cases h3
  cases h4
  cases h5
  cases h6
  rfl
theorem Row.good {Z : Addr → Prop} {H : Hp} {R : Addr} {xs : List V} {ds : List PyData} (r : Row Z H R xs ds) (o : okds ds = true) : ∃ t : PR, t.Ok ∧ ds = t.ds ∧ xs = t.vs := by
  obtain ⟨t, e, ok⟩ := okds_ex o
  refine ⟨t, ok, e, ?_⟩
  have a := r.al
  rw [e] at a
  exact vs_of a
theorem good_row {Z : Addr → Prop} {H : Hp} {R : Addr} {r : PR} (e : H R = some (.tup r.vs)) (n : ¬ Z R) (o : r.Ok) : Row Z H R r.vs r.ds := ⟨e, n, da_R r, rfl, sm_R o, sh_R o⟩
/-- what a text, a number is as a text -/
def StrV (v : V) (z : Str) : Prop := (v = .str z) ∨ ∃ i : Int, v = .int i ∧ i.natAbs.log2 < 1920 ∧ z = toString i
theorem len_int {i : Int} (h : i.natAbs < 10 ^ 40) : ((toString i : String) : Str).length ≤ 200 := (Sm.int h).ln
theorem log_int {i : Int} (h : i.natAbs < 10 ^ 40) : i.natAbs.log2 < 1920 := of_decide_eq_true (Sm.int h).sh
end K13
set_option Elab.async false
set_option linter.all false
set_option maxRecDepth 100000
set_option maxHeartbeats 4000000
namespace K13
open PySem PySem.Spec PyProof.Rows L2 Bb
/-! str, repr, time, parts of a deed; a row looked at -/
def lineP (r : PR) : List Str := [r.x0, r.x1, toString r.x2, toString r.x3, toString r.x4, toString r.x5, r.x6]
def spStr (C : Addr) : Sp := fun vs H Q _ => ∃ (p : Addr) (r : PR), vs = [.ref p] ∧ At C H p r ∧ r.Ok ∧ ∀ H', Same H H' → Q (.str (wTxt (lineP r))) H'
def spTime (C : Addr) : Sp := fun vs H Q _ => ∃ (p : Addr) (r : PR), vs = [.ref p] ∧ At C H p r ∧ ∀ q H', H q = none → Same H H' → H' q = some (.tup [.int r.x3, .int r.x4]) → Q (.ref q) H'
theorem big_of {i lo hi : Int} (h : lo ≤ i ∧ i ≤ hi) (h1 : -100000000 ≤ lo) (h2 : hi ≤ 100000000) : i.natAbs < 10 ^ 40 := by
  have e : (10 : Nat) ^ 40 = 10000000000000000000000000000000000000000 := by decide +kernel
  omega
theorem big2 {r : PR} (o : r.Ok) : r.x2.natAbs < 10 ^ 40 := big_of o.o2 (by decide) (by decide)
theorem big3 {r : PR} (o : r.Ok) : r.x3.natAbs < 10 ^ 40 := big_of o.o3 (by decide) (by decide)
theorem big4 {r : PR} (o : r.Ok) : r.x4.natAbs < 10 ^ 40 := big_of o.o4 (by decide) (by decide)
theorem big5 {r : PR} (o : r.Ok) : r.x5.natAbs < 10 ^ 40 := big_of o.o5 (by decide) (by decide)
theorem line_len {r : PR} (o : r.Ok) : ((lineP r).map (·.length)).sum ≤ 10000 := by
  have h0 := name_len o.o0
  have h1 := name_len o.o1
  have h2 := len_int (big2 o)
  have h3 := len_int (big3 o)
  have h4 := len_int (big4 o)
  have h5 := len_int (big5 o)
  have h6 := name_len o.o6
  show r.x0.length + (r.x1.length + (((toString r.x2 : String) : Str).length + (((toString r.x3 : String) : Str).length + (((toString r.x4 : String) : Str).length + (((toString r.x5 : String) : Str).length + (r.x6.length + 0)))))) ≤ 10000
  omega
theorem vs_str {r : PR} (o : r.Ok) : ∀ (i : Nat) (v : V) (z : Str), r.vs[i]? = some v → (lineP r)[i]? = some z → StrV v z := by
  intro i v z hv hz
  match i, hv, hz with
  | 0, hv, hz => cases hv; cases hz; exact .inl rfl
  | 1, hv, hz => cases hv; cases hz; exact .inl rfl
  | 2, hv, hz => cases hv; cases hz; exact .inr ⟨_, rfl, log_int (big2 o), rfl⟩
  | 3, hv, hz => cases hv; cases hz; exact .inr ⟨_, rfl, log_int (big3 o), rfl⟩
  | 4, hv, hz => cases hv; cases hz; exact .inr ⟨_, rfl, log_int (big4 o), rfl⟩
  | 5, hv, hz => cases hv; cases hz; exact .inr ⟨_, rfl, log_int (big5 o), rfl⟩
  | 6, hv, hz => cases hv; cases hz; exact .inl rfl
  | n + 7, hv, _ => simp [PR.vs] at hv
section
variable {P : Program} {w : World} {K : PySem.W.Frag} {mg : Str → Option Value} {base : Heap} {f : Addr} {fd : FuncData}
theorem scTime : FnScope ["self"] ["self"] (defScope sTime) := ⟨rfl, rfl, rfl, by decide +kernel, rfl, by decide +kernel, by decide +kernel⟩
theorem ok_time {C : Addr} (F : Fn K "time" "Deed.time" sTime f fd) (R : ClsT K mg C) : FnOk P w K mg base L2.CX0 1 f fd ["self"] (spTime C) := by
  refine F.ok scTime (fun vs H Q E h => ?_) (fun cdv A outer s H vs Q E hr hh => ?_)
  · obtain ⟨p, r, rfl, _⟩ := h
    rfl
  · obtain ⟨p, r, rfl, ⟨dx, hp⟩, q⟩ := hh
    refine ⟨_, PSs.nox (pss_one (ps_ret (pe_tup (pa_cons (pe_fld (pv 0) rfl) (pa_cons (pe_fld (pv 0) rfl) pa_nil))))), ?_⟩
    refine ⟨_, rfl, p, C, dx, _, _, rfl, hp, R.cl, R.n3, f_3 _, _, rfl, p, C, dx, _, _, rfl, hp, R.cl, R.n4, f_4 _, (by show 2 ≤ sizeLine; decide), fun t ht => ?_⟩
    exact q t _ ht (up2 ht) upd_same
theorem scStr : FnScope ["self", "part"] ["self"] (defScope sStr) := ⟨rfl, rfl, rfl, by decide +kernel, rfl, by decide +kernel, by decide +kernel⟩
theorem ok_str {C fP : Addr} {fdP : FuncData} (F : Fn K "__str__" "Deed.__str__" sStr f fd) (T : Free mg) (R : ClsT K mg C) (FP : Fn K "parts" "Deed.parts" sParts fP fdP) (mP : Meth K C "parts" fP) : FnOk P w K mg base L2.CX0 2 f fd ["self"] (spStr C) := by
  have GP : FnOk P w K mg base L2.CX0 1 fP fdP ["self"] (spParts C) := ok_parts FP R
  have bP : Binds K fdP ["self"] [] := FP.bindsN fun _ _ _ _ _ _ us hl => match us, hl with | [_], _ => rfl
  refine F.ok scStr (fun vs H Q E h => ?_) (fun cdv A outer s H vs Q E hr hh => ?_)
  · obtain ⟨p, r, rfl, _⟩ := h
    rfl
  · obtain ⟨p, r, rfl, at_, o, q⟩ := hh
    obtain ⟨dx, hp⟩ := id at_
    refine ⟨_, PSs.nox (pss_one (ps_ret (pe_join pe_str (pe_lc (own := [("part", 1)]) (g := gName 1) (tt := tYes) rfl scStr.nd (pi_tup (pe_meth0 (pv 0) R.cl mP GP hr bP .nil pass0)) (blkOk_by (N := ["self", "part"]) (sc := defScope sStr) (by decide +kernel)) (fun _ _ _ _ _ => pg_name (i := 1) scStr.nd rfl (Or.inl rfl)) (fun _ _ _ _ _ => pts_nil)
        (fun _ _ _ _ _ => pe_callTy call_strX rfl T.str_ (by decide +kernel) (pa_cons (pv 1) pa_nil)))))), ?_⟩
    refine ⟨⟨_, rfl⟩, _, rfl, p, dx, _, rfl, hp, no_m (by decide +kernel), p, r, rfl, at_, fun t H1 n1 s1 h1 => ⟨t, rfl, ⟨_, SqT.of h1⟩, fun D hD => lc_tup (K := K) (a := t) (xs := r.vs) (fun i H' => Same H1 H' ∧ H' D = some (.lst (((lineP r).take i).map V.str))) ⟨up2 hD, by rw [List.take_zero]; exact upd_same⟩ (fun i H' _ p => sqt_same (SqT.of h1) p.1) ?_ ?_⟩⟩
    · rintro i v H' hv ⟨sm, hl2⟩
      have hi : i < (lineP r).length := (List.getElem?_eq_some_iff.mp hv).1
      obtain ⟨zi, hzi⟩ : ∃ z, (lineP r)[i]? = some z := ⟨_, List.getElem?_eq_getElem hi⟩
      have hi7 : i < 7 := hi
      refine ⟨rfl, ?_⟩
      unfold tYes
      dsimp only
      rw [if_pos rfl]
      have fin : ∃ acc, H' D = some (.lst acc) ∧ acc.length < sizeLine ∧ Same H1 (upd H' D (.lst (acc ++ [.str zi]))) ∧ (upd H' D (.lst (acc ++ [.str zi]))) D = some (.lst (((lineP r).take (i + 1)).map V.str)) := by
        refine ⟨_, hl2, small1000 ?_, same_upd sm hD, ?_⟩
        · rw [List.length_map, List.length_take]
          omega
        · rw [upd_same, take_sn hzi, List.map_append]
          rfl
      rcases vs_str o i v _ hv hzi with rfl | ⟨j, rfl, lg, ez⟩
      · exact ⟨_, rfl, .inl ⟨_, rfl, fin⟩⟩
      · rw [ez] at fin
        exact ⟨_, rfl, .inr ⟨j, rfl, lg, fin⟩⟩
    · rintro H2 ⟨sm, hl2⟩
      rw [show r.vs.length = (lineP r).length from rfl, List.take_length] at hl2
      have ll := line_len o
      refine ⟨_, D, lineP r, rfl, rfl, .inl (SqL.of hl2), ?_, q H2 (s1.trans sm)⟩
      have e1 : ((" " : String) : Str).length = 1 := by decide +kernel
      have l7 : (lineP r).length = 7 := rfl
      rw [e1]
      omega
end
/-- the law's own makers -/
structure Lw (K : PySem.W.Frag) (mg : Str → Option Value) : Prop where
  mk1 : Mk1 K mg
  wh : ∃ a d, Fn K "_law_when" "_law_when" sWhen a d ∧ mg "_law_when" = some (.ref a)
def spMade (C CE : Addr) : Sp := fun vs H Q E => ∃ (Z : Addr → Prop) (R : Addr) (xs : List V) (ds : List PyData), vs = [.ref R] ∧ Row Z H R xs ds ∧ (∀ r : PR, ds = r.ds → r.Ok → ∀ x H', H x = none → Same H H' → At C H' x r → Q (.ref x) H') ∧ (okds ds = false → ∀ H', Same H H' → E (.ref CE) none H')
def spWho : Sp := fun vs H Q _ => ∃ p, vs = [.ref p] ∧ Pen H p ∧ ∀ R r H', Kp p H H' → H R = none → H' R = some (.tup r.vs) → PR.Ok r → Q (.ref R) H'
end K13
set_option Elab.async false
set_option linter.all false
set_option maxRecDepth 100000
set_option maxHeartbeats 4000000
namespace K13
open PySem PySem.Spec PyProof.Rows L2 Bb
/-- the class with its methods; the errors' classes -/
structure Own (K : PySem.W.Frag) (mg : Str → Option Value) (C CE : Addr) : Prop where
  r : ClsT K mg C
  ini : ∃ a d dvs, FunD K "__init__" "Deed.__init__" (defArgs sIni) (defBody sIni) (defScope sIni) dvs [] a d ∧ dvs.length = 3 ∧ Mk K C a
  parts : ∃ a d, Fn K "parts" "Deed.parts" sParts a d ∧ Meth K C "parts" a
  time : ∃ a d, Fn K "time" "Deed.time" sTime a d ∧ Meth K C "time" a
  eq : ∃ a d, Fn K "__eq__" "Deed.__eq__" sEq a d ∧ PySem.W.findIn K (.ref C) "__eq__" = some (some (.ref a)) ∧ PySem.W.isFn K (.ref a) = true
  str : ∃ a d, Fn K "__str__" "Deed.__str__" sStr a d ∧ PySem.W.findIn K (.ref C) "__str__" = some (some (.ref a)) ∧ PySem.W.isFn K (.ref a) = true
  ne : PySem.W.findIn K (.ref C) "__ne__" = some (some (.builtin "object.__ne__"))
  ob : PySem.W.subIn K (.ref C) (.type "object") = some true
  nb : NotB K C
  en : ErrT K mg "NoDeed" CE
section
variable {P : Program} {w : World} {K : PySem.W.Frag} {mg : Str → Option Value} {base : Heap} {f : Addr} {fd : FuncData}
theorem ini_binds {dvs : List V} (F : FunD K "__init__" "Deed.__init__" (defArgs sIni) (defBody sIni) (defScope sIni) dvs [] f fd) (h : dvs.length = 3) : Binds K fd nIni [] := by
  obtain ⟨ds, rd, b⟩ := F.binds1 (ps := nIni) 8 3 (by intro e; rw [e] at h; cases h) (by rw [h]; rfl) (fun T kV doc pm an cdv ct us its h1 h2 => by
    rw [h] at h2
    match us, its, h1, h2 with
    | [_, _, _, _, _, _, _, _], [_, _, _], _, _ => exact ⟨_, rfl, rfl⟩)
  have e : dvs.drop 3 = [] := List.drop_of_length_le (by omega)
  rw [e] at rd
  cases rd
  exact b
abbrev nWho : List Str := ["_law_pen_here", "_law_score", "_law_row", "_law_gust", "_law_ground"]
theorem scWho : FnScope nWho ["_law_pen_here"] (defScope sFeat) := ⟨rfl, rfl, rfl, by decide +kernel, rfl, by decide +kernel, by decide +kernel⟩
theorem ok_who (F : Fn K "_law_feat" "_law_feat" sFeat f fd) (h : Lw K mg) : FnOk P w K mg base L2.CX0 4 f fd ["_law_pen_here"] spWho := by
  obtain ⟨aP, dP, GP, gP, kP, bP⟩ := h.mk1.hl.pk (P := P) (w := w) (base := base)
  obtain ⟨aD, dD, GD, gD, kD, bD⟩ := h.mk1.hl.dr (P := P) (w := w) (base := base)
  obtain ⟨aN, dN, FN, gN⟩ := h.mk1.nam
  obtain ⟨aW, dW, FW, gW⟩ := h.wh
  have GN : FnOk P w K mg base L2.CX0 3 aN dN ["_law_pen_here"] spName := ok_name FN h.mk1.hl
  have GW : FnOk P w K mg base L2.CX0 3 aW dW ["_law_pen_here"] spWhen := ok_when FW h.mk1.hl
  have bN : Binds K dN ["_law_pen_here"] [] := FN.bindsN fun _ _ _ _ _ _ us hl => match us, hl with | [_], _ => rfl
  have bW : Binds K dW ["_law_pen_here"] [] := FW.bindsN fun _ _ _ _ _ _ us hl => match us, hl with | [_], _ => rfl
  refine F.ok scWho (fun vs H Q E h => ?_) (fun cdv A outer s H vs Q E hr hh => ?_)
  · obtain ⟨p, rfl, _⟩ := h
    rfl
  · obtain ⟨p, rfl, hp, q⟩ := hh
    have hr3 : Room 3 _ := hr.mono (by decide)
    have hr2 : Room 2 _ := hr.mono (by decide)
    have hr1 : Room 1 _ := hr.mono (by decide)
    refine ⟨_, PSs.nox (pss_cons (ps_set (i := 1) scWho.nd rfl (.inl rfl) (pe_call GP hr2 rfl gP kP bP .nil pass0 (pa_cons (pv 0) (pa_cons (pe_lst (pa_cons pe_int (pa_cons (pe_op op_pow pe_int pe_int) (pa_cons pe_int (pa_cons (pe_op op_add pe_int (pe_call GD hr1 rfl gD kD bD .nil pass0 (pa_cons (pv 0) (pa_cons pe_int pa_nil)))) (pa_cons (pe_op op_add pe_int (pe_call GD hr1 rfl gD kD bD .nil pass0 (pa_cons (pv 0) (pa_cons (pe_op op_pow pe_int pe_int) pa_nil)))) pa_nil)))))) pa_nil))))
      (pss_cons (ps_set (i := 2) scWho.nd rfl (.inl rfl) (pe_tup (pa_cons (pe_call GN hr3 rfl gN FN.kp bN .nil pass0 (pa_cons (pv 0) pa_nil)) (pa_cons (pe_call GP hr2 rfl gP kP bP .nil pass0 (pa_cons (pv 0) (pa_cons (pe_lst (pa_cons pe_str (pa_cons pe_str (pa_cons (pe_call GN hr3 rfl gN FN.kp bN .nil pass0 (pa_cons (pv 0) pa_nil)) pa_nil)))) pa_nil))) (pa_cons (pv 1) (pa_cons (pe_call GW hr3 rfl gW FW.kp bW .nil pass0 (pa_cons (pv 0) pa_nil)) pa_nil))))))
      (pss_cons (ps_par (i := 3) (j := 4) rfl scWho.nd rfl rfl (by decide) rfl rfl (pa_cons (pe_call GP hr2 rfl gP kP bP .nil pass0 (pa_cons (pv 0) (pa_cons (pe_lst (pa_cons pe_int (pa_cons pe_int (pa_cons (pe_un un_neg pe_int) (pa_cons (pe_op op_sub (pe_call GD hr1 rfl gD kD bD .nil pass0 (pa_cons (pv 0) (pa_cons pe_int pa_nil))) pe_int) pa_nil))))) pa_nil))) (pa_cons (pe_call GP hr2 rfl gP kP bP .nil pass0 (pa_cons (pv 0) (pa_cons (pe_lst (pa_cons pe_str (pa_cons (pe_call GN hr3 rfl gN FN.kp bN .nil pass0 (pa_cons (pv 0) pa_nil)) pa_nil))) pa_nil))) pa_nil)) rfl)
      (pss_one (ps_ret (pe_op op_catC (pv 2) (pe_tup (pa_cons (pe_call GP hr2 rfl gP kP bP .nil pass0 (pa_cons (pv 0) (pa_cons (pe_lst (pa_cons pe_int (pa_cons pe_int (pa_cons (pe_call GD hr1 rfl gD kD bD .nil pass0 (pa_cons (pv 0) (pa_cons pe_int pa_nil))) pa_nil)))) pa_nil))) (pa_cons (pv 3) (pa_cons (pv 4) pa_nil)))))))))), ?_⟩
    -- the mark
    refine ⟨_, rfl, _, _, rfl, rfl, ⟨by decide, by decide, by decide⟩, _, rfl, p, 9, rfl, hp, ⟨by decide, by decide⟩, fun e1 H1 a1 b1 k1 => ?_⟩
    refine ⟨_, _, rfl, rfl, _, rfl, _, _, rfl, rfl, ⟨by decide, by decide, by decide⟩, p, _, rfl, k1.pen, ⟨by decide, by decide⟩, fun e2 H2 a2 b2 k2 => ?_⟩
    refine ⟨_, _, rfl, rfl, (by show 5 ≤ sizeLine; decide), fun L1 hL1 => ?_⟩
    have b2' : e2 < 1000000 := b2
    have K2 := k1.trans k2
    have K3 := K2.same (up2 (o := .lst [.int 1, .int (10 ^ 6), .int 5, .int (1 + e1), .int (1 + e2)]) hL1)
    refine ⟨p, L1, _, rfl, K3.pen, upd_same, (by rintro rfl; exact pen_old K2.pen hL1), ⟨(by show 0 < 5; decide), (by show 5 ≤ 1000; decide)⟩, fun v H4 hv k4 => ?_⟩
    have K4 := K3.trans k4
    obtain ⟨sc, rfl, sc0⟩ : ∃ sc : Int, v = .int sc ∧ 1 ≤ sc ∧ sc ≤ 1000000 := by
      simp only [List.mem_cons, List.not_mem_nil, or_false] at hv
      rcases hv with rfl | rfl | rfl | rfl | rfl
      · exact ⟨_, rfl, by decide, by decide⟩
      · exact ⟨_, rfl, by decide, by decide⟩
      · exact ⟨_, rfl, by decide, by decide⟩
      · exact ⟨_, rfl, by omega, by omega⟩
      · exact ⟨_, rfl, by omega, by omega⟩
    -- the row's first four
    refine ⟨_, rfl, p, rfl, K4.pen, fun z0 H5 k5 n0 => ⟨_, rfl, _, rfl, p, rfl, (K4.trans k5).pen, fun z1 H6 k6 n1 => ⟨(by show 3 ≤ sizeLine; decide), fun L2 hL2 => ?_⟩⟩⟩
    have K6 := (K4.trans k5).trans k6
    have K7 := K6.same (up2 (o := .lst [.str "run", .str "leap", .str z1]) hL2)
    refine ⟨p, L2, _, rfl, K7.pen, upd_same, (by rintro rfl; exact pen_old K6.pen hL2), ⟨(by show 0 < 3; decide), (by show 3 ≤ 1000; decide)⟩, fun v H8 hv k8 => ?_⟩
    obtain ⟨ev, rfl, ne⟩ : ∃ z : Str, v = .str z ∧ nameZ z = true := by
      simp only [List.mem_cons, List.not_mem_nil, or_false] at hv
      rcases hv with rfl | rfl | rfl
      · exact ⟨_, rfl, by decide +kernel⟩
      · exact ⟨_, rfl, by decide +kernel⟩
      · exact ⟨_, rfl, n1⟩
    have K8 := K7.trans k8
    refine ⟨_, rfl, _, rfl, p, rfl, K8.pen, fun b H9 k9 hb => ⟨(by show 4 ≤ sizeLine; decide), fun T hT => ?_⟩⟩
    have K9 := K8.trans k9
    have K10 := K9.same (up2 (o := .tup [.str z0, .str ev, .int sc, .int b]) hT)
    have nTp : T ≠ p := by
      rintro rfl
      exact pen_old K9.pen hT
    have fT : H T = none := K9.free hp hT
    -- wind, course
    refine ⟨_, rfl, _, rfl, _, rfl, p, 199, rfl, K10.pen, ⟨by decide, by decide⟩, fun e3 H11 a3 b3 k11 => ?_⟩
    have K11 := K10.trans k11
    refine ⟨_, _, rfl, rfl, (by show 4 ≤ sizeLine; decide), fun L3 hL3 => ?_⟩
    have K12 := K11.same (up2 (o := .lst [.int 0, .int 99, .int (-99), .int (e3 - 99)]) hL3)
    refine ⟨p, L3, _, rfl, K12.pen, upd_same, (by rintro rfl; exact pen_old K11.pen hL3), ⟨(by show 0 < 4; decide), (by show 4 ≤ 1000; decide)⟩, fun v H13 hv k13 => ?_⟩
    obtain ⟨wd, rfl, hw⟩ : ∃ i : Int, v = .int i ∧ -99 ≤ i ∧ i ≤ 99 := by
      simp only [List.mem_cons, List.not_mem_nil, or_false] at hv
      rcases hv with rfl | rfl | rfl | rfl
      · exact ⟨_, rfl, by decide, by decide⟩
      · exact ⟨_, rfl, by decide, by decide⟩
      · exact ⟨_, rfl, by decide, by decide⟩
      · exact ⟨_, rfl, by omega, by omega⟩
    have K13 := K12.trans k13
    refine ⟨_, rfl, _, rfl, p, rfl, K13.pen, fun z4 H14 k14 n4 => ⟨(by show 2 ≤ sizeLine; decide), fun L4 hL4 => ?_⟩⟩
    have K14 := K13.trans k14
    have K15 := K14.same (up2 (o := .lst [.str "yard", .str z4]) hL4)
    refine ⟨p, L4, _, rfl, K15.pen, upd_same, (by rintro rfl; exact pen_old K14.pen hL4), ⟨(by show 0 < 2; decide), (by show 2 ≤ 1000; decide)⟩, fun v H16 hv k16 => ?_⟩
    obtain ⟨co, rfl, nc⟩ : ∃ z : Str, v = .str z ∧ nameZ z = true := by
      simp only [List.mem_cons, List.not_mem_nil, or_false] at hv
      rcases hv with rfl | rfl
      · exact ⟨_, rfl, by decide +kernel⟩
      · exact ⟨_, rfl, n4⟩
    have K16 := K15.trans k16
    refine ⟨_, _, rfl, ?_⟩
    -- hour
    refine ⟨_, rfl, _, rfl, _, rfl, p, 24, rfl, K16.pen, ⟨by decide, by decide⟩, fun e5 H17 a5 b5 k17 => ⟨(by show 3 ≤ sizeLine; decide), fun L5 hL5 => ?_⟩⟩
    have K17 := K16.trans k17
    have K18 := K17.same (up2 (o := .lst [.int 0, .int 23, .int e5]) hL5)
    refine ⟨p, L5, _, rfl, K18.pen, upd_same, (by rintro rfl; exact pen_old K17.pen hL5), ⟨(by show 0 < 3; decide), (by show 3 ≤ 1000; decide)⟩, fun v H19 hv k19 => ?_⟩
    obtain ⟨ho, rfl, hho⟩ : ∃ i : Int, v = .int i ∧ 0 ≤ i ∧ i ≤ 23 := by
      simp only [List.mem_cons, List.not_mem_nil, or_false] at hv
      rcases hv with rfl | rfl | rfl
      · exact ⟨_, rfl, by decide, by decide⟩
      · exact ⟨_, rfl, by decide, by decide⟩
      · exact ⟨_, rfl, by omega, by omega⟩
    have K19 := K18.trans k19
    refine ⟨_, rfl, _, rfl, (by show 3 ≤ sizeLine; decide), fun T2 hT2 => ?_⟩
    have u20 := up2 (o := .tup [.int ho, .int wd, .str co]) hT2
    have kT : Kp p _ H19 := ((((((Kp.refl K10.pen).trans k11).same (up2 (o := .lst [.int 0, .int 99, .int (-99), .int (e3 - 99)]) hL3)).trans k13).trans k14).same (up2 (o := .lst [.str "yard", .str z4]) hL4)).trans k16 |>.trans k17 |>.same (up2 (o := .lst [.int 0, .int 23, .int e5]) hL5) |>.trans k19
    have hT19 := kT.keep T _ upd_same nTp
    refine ⟨T, T2, _, _, rfl, rfl, u20 _ _ hT19, upd_same, (by show 4 + 3 ≤ sizeLine; decide), fun D H21 s21 hD mD => ?_⟩
    have K20 := K19.same u20
    refine q D ⟨z0, ev, sc, b, ho, wd, co⟩ H21 (K20.same s21) ?_ hD ⟨n0, ne, sc0, hb, hho, hw, nc⟩
    rcases mD with e | e | e
    · rw [e]
      exact fT
    · rw [e]
      exact K19.free hp hT2
    · exact K20.free hp e
end
end K13
set_option Elab.async false
set_option linter.all false
set_option maxRecDepth 100000
set_option maxHeartbeats 4000000
namespace K13
open PySem PySem.Spec PyProof.Rows L2 Bb
theorem at_inj {C : Addr} {H : Hp} {p : Addr} {r t : PR} (a : At C H p r) (b : At C H p t) : r = t := by
  obtain ⟨dx, h1⟩ := a
  obtain ⟨dy, h2⟩ := b
  have e : flds r = flds t := by
    have q := h1.symm.trans h2
    injection q with q
    injection q
  have e0 := (f_0 r).symm.trans ((congrArg (fun l => List.lookup ("name" : Str) l) e).trans (f_0 t))
  have i0 : r.x0 = t.x0 := by
    injection e0 with q
    injection q
  have e1 := (f_1 r).symm.trans ((congrArg (fun l => List.lookup ("event" : Str) l) e).trans (f_1 t))
  have i1 : r.x1 = t.x1 := by
    injection e1 with q
    injection q
  have e2 := (f_2 r).symm.trans ((congrArg (fun l => List.lookup ("mark" : Str) l) e).trans (f_2 t))
  have i2 : r.x2 = t.x2 := by
    injection e2 with q
    injection q
  have e3 := (f_3 r).symm.trans ((congrArg (fun l => List.lookup ("day" : Str) l) e).trans (f_3 t))
  have i3 : r.x3 = t.x3 := by
    injection e3 with q
    injection q
  have e4 := (f_4 r).symm.trans ((congrArg (fun l => List.lookup ("hour" : Str) l) e).trans (f_4 t))
  have i4 : r.x4 = t.x4 := by
    injection e4 with q
    injection q
  have e5 := (f_5 r).symm.trans ((congrArg (fun l => List.lookup ("wind" : Str) l) e).trans (f_5 t))
  have i5 : r.x5 = t.x5 := by
    injection e5 with q
    injection q
  have e6 := (f_6 r).symm.trans ((congrArg (fun l => List.lookup ("course" : Str) l) e).trans (f_6 t))
  have i6 : r.x6 = t.x6 := by
    injection e6 with q
    injection q
  obtain ⟨x0, x1, x2, x3, x4, x5, x6⟩ := r
  obtain ⟨y0, y1, y2, y3, y4, y5, y6⟩ := t
  cases (show x0 = y0 from i0)
  cases (show x1 = y1 from i1)
  cases (show x2 = y2 from i2)
  cases (show x3 = y3 from i3)
  cases (show x4 = y4 from i4)
  cases (show x5 = y5 from i5)
  cases (show x6 = y6 from i6)
  rfl
/-! sheets of good deeds: the class Sheet -/
def sflds (t : Addr) : List (Str × V) := putF "_deeds" (.ref t) []
theorem sf_0 (t : Addr) : (sflds t).lookup ("_deeds" : Str) = some (.ref t) := by
  unfold sflds
  rw [lookup_putF, if_pos rfl]
theorem sf_no (t : Addr) {n : Str} (h : ¬ n = "_deeds") : (sflds t).lookup n = none := by
  unfold sflds
  rw [lookup_putF, if_neg h]
  rfl
/-- the objects are of these records, one by one -/
def Recs (C : Addr) (H : Hp) (bs : List Addr) (rs : List PR) : Prop := bs.length = rs.length ∧ (∀ (i : Nat) (b : Addr) (r : PR), bs[i]? = some b → rs[i]? = some r → At C H b r) ∧ ∀ r ∈ rs, r.Ok
theorem Recs.same {C : Addr} {H H' : Hp} {bs : List Addr} {rs : List PR} (m : Recs C H bs rs) (s : Same H H') : Recs C H' bs rs := ⟨m.1, fun i g b h1 h2 => (m.2.1 i g b h1 h2).same s, m.2.2⟩
theorem Recs.get {C : Addr} {H : Hp} {bs : List Addr} {rs : List PR} {i : Nat} {y : V} (m : Recs C H bs rs) (h : (bs.map V.ref)[i]? = some y) : ∃ b r, y = .ref b ∧ bs[i]? = some b ∧ rs[i]? = some r ∧ At C H b r ∧ r.Ok := by
  rw [List.getElem?_map] at h
  cases e : bs[i]? with
  | none =>
    rw [e] at h
    cases h
  | some b =>
    rw [e] at h
    have il : i < rs.length := by
      rw [← m.1]
      exact (List.getElem?_eq_some_iff.mp e).1
    have er := List.getElem?_eq_getElem il
    exact ⟨b, _, (Option.some.inj h).symm, rfl, er, m.2.1 i b _ e er, m.2.2 _ (List.mem_of_getElem? er)⟩
structure ClsS (K : PySem.W.Frag) (mg : Str → Option Value) (S : Addr) : Prop where
  cl : Cls K S
  n0 : NoAttr K S "_deeds"
  gC : mg "Sheet" = some (.ref S)
  ha : PySem.W.findIn K (.ref S) "__class__" = some (some (.builtin "object.__class__"))
  hn : PySem.W.specialIn K (.builtin "object.__class__") "__get__" = some (some (.builtin "getset_descriptor.__get__"))
  ht : PySem.W.takesIn K (.builtin "object.__class__") = some true
  hm : PySem.W.mroIn K S (.type "object") = some true
  kit : PySem.W.kitOne K (.ref S) (.ref S) = some true
def SAt (C S : Addr) (H : Hp) (p : Addr) (rs : List PR) : Prop := ∃ (dx t : Addr) (bs : List Addr), H p = some (.ins S dx (sflds t)) ∧ H t = some (.tup (bs.map V.ref)) ∧ Recs C H bs rs ∧ rs.length ≤ 60
theorem SAt.same {C S : Addr} {H H' : Hp} {p : Addr} {rs : List PR} (m : SAt C S H p rs) (s : Same H H') : SAt C S H' p rs := by
  obtain ⟨dx, t, bs, h1, h2, h3, h4⟩ := m
  exact ⟨dx, t, bs, s _ _ h1, s _ _ h2, h3.same s, h4⟩
theorem SAt.kp {C S : Addr} {H H' : Hp} {p q : Addr} {rs : List PR} (m : SAt C S H p rs) (hq : Pen H q) (k : Kp q H H') : SAt C S H' p rs := by
  obtain ⟨dx, t, bs, h1, h2, h3, h4⟩ := m
  refine ⟨dx, t, bs, k.keep _ _ h1 (pen_ne hq h1 (fun _ _ z => by cases z)), k.keep _ _ h2 (pen_ne hq h2 (fun _ _ z => by cases z)), ⟨h3.1, fun i b r e1 e2 => ?_, h3.2.2⟩, h4⟩
  obtain ⟨dy, hy⟩ := h3.2.1 i b r e1 e2
  exact ⟨dy, k.keep _ _ hy (pen_ne hq hy (fun _ _ z => by cases z))⟩
theorem kitL {K : PySem.W.Frag} : PySem.W.kitAny K (.type "list") [.type "list", .type "tuple"] = some true := kitAny_cons (kit_ty (r := true) (by decide +kernel)) (fun e => by cases e) (fun _ => rfl)
theorem kitT {K : PySem.W.Frag} : PySem.W.kitAny K (.type "tuple") [.type "list", .type "tuple"] = some true := kitAny_cons (kit_ty (r := false) (by decide +kernel)) (fun _ => kitAny_cons (kit_ty (r := true) (by decide +kernel)) (fun e => by cases e) (fun _ => rfl)) (fun e => by cases e)
def SeqOf (H : Hp) (a : Addr) (xs : List V) : Prop := H a = some (.lst xs) ∨ H a = some (.tup xs)
def spAreD (C : Addr) : Sp := fun vs H Q _ => ∃ (a : Addr) (bs : List Addr) (rs : List PR), vs = [.ref a] ∧ SeqOf H a (bs.map V.ref) ∧ Recs C H bs rs ∧ rs.length ≤ 60 ∧ ∀ H', Same H H' → Q (.bl true) H'
def spSIni (C S : Addr) : Sp := fun vs H Q _ => ∃ (p dx a : Addr) (bs : List Addr) (rs : List PR), vs = [.ref p, .ref a] ∧ H p = some (.ins S dx []) ∧ SeqOf H a (bs.map V.ref) ∧ Recs C H bs rs ∧ rs.length ≤ 60 ∧ ∀ H', (∀ b o, H b = some o → b ≠ p → H' b = some o) → SAt C S H' p rs → Q .non H'
def spSLen (C S : Addr) : Sp := fun vs H Q _ => ∃ (p : Addr) (rs : List PR), vs = [.ref p] ∧ SAt C S H p rs ∧ Q (.int (rs.length : Nat)) H
def spSAll (C S : Addr) : Sp := fun vs H Q _ => ∃ (p : Addr) (rs : List PR), vs = [.ref p] ∧ SAt C S H p rs ∧ ∀ q bs H', H q = none → Same H H' → H' q = some (.lst (bs.map V.ref)) → Recs C H' bs rs → Q (.ref q) H'
def spHas (C S : Addr) : Sp := fun vs H Q _ => ∃ (p x : Addr) (rs : List PR) (t : PR), vs = [.ref p, .ref x] ∧ SAt C S H p rs ∧ At C H x t ∧ t.Ok ∧ ∀ H', Same H H' → Q (.bl (rs.any fun r => eqR r t)) H'
def spHasX : Sp := fun vs H Q _ => ∃ (p : Addr) (y : V), vs = [.ref p, y] ∧ Bt H y ∧ Q (.bl false) H
def spSStr (C S : Addr) : Sp := fun vs H Q _ => ∃ (p : Addr) (rs : List PR), vs = [.ref p] ∧ SAt C S H p rs ∧ ∀ H', Same H H' → Q (.str (Txt.join "\n" (rs.map fun r => wTxt (lineP r)))) H'
def spSRepr (C S : Addr) : Sp := fun vs H Q _ => ∃ (p : Addr) (rs : List PR), vs = [.ref p] ∧ SAt C S H p rs ∧ ∀ H', Same H H' → Q (.str (((Str.empty ++ "Sheet(") ++ toString ((rs.length : Nat) : Int)) ++ ")")) H'
theorem all_rep (n : Nat) : (List.replicate n true).all id = true := by simp
section
variable {P : Program} {w : World} {K : PySem.W.Frag} {mg : Str → Option Value} {base : Heap} {f : Addr} {fd : FuncData}
theorem scAreD : FnScope ["thing", "deed"] ["thing"] (defScope sAreD) := ⟨rfl, rfl, rfl, by decide +kernel, rfl, by decide +kernel, by decide +kernel⟩
theorem ok_ared {C : Addr} (F : Fn K "are_deeds" "are_deeds" sAreD f fd) (T : Free mg) (cs : Cons mg) (R : ClsT K mg C) : FnOk P w K mg base L2.CX0 1 f fd ["thing"] (spAreD C) := by
  refine F.ok scAreD (fun vs H Q E h => ?_) (fun cdv A outer s H vs Q E hr hh => ?_)
  · obtain ⟨a, bs, rs, rfl, _⟩ := h
    rfl
  · obtain ⟨a, bs, rs, rfl, sq, rec, l60, q⟩ := hh
    have ts : 2 ≤ sizeLine := by decide
    rcases sq with sq | sq
    · refine ⟨_, PSs.nox (pss_cons (ps_if (PW.pt (pw_or (pt_not (pt_val (pe_callB call_isiT rfl T.isi boot_isinstance (pa_cons (pv 0) (pa_cons (pe_tup (pa_cons (pe_bltn rfl T.list_ (by decide +kernel) (v := .ty "list") rfl) (pa_cons (pe_bltn rfl T.tup_ (by decide +kernel) (v := .ty "tuple") rfl) pa_nil))) pa_nil))))) (pw_or1 (pt_cmpR op_gt (pe_callB call_len_seq rfl T.len_ boot_len (pa_cons (pv 0) pa_nil)) (pe_k cs.deeds rfl) (nomark _))))) (pss_one (ps_ret pe_bl)) pss_nil)
        (pss_one (ps_ret (pe_callB (cr_all rfl) rfl T.all_ (by decide +kernel) (pa_cons (pe_lc (own := [("deed", 1)]) (g := gName 1) (tt := tYes) (te := tCB (rIsi K) (tCons (tVar 1) (tCons (tC (.ref C)) tNil))) rfl scAreD.nd (pi_list (pv 0)) (blkOk_by (N := ["thing", "deed"]) (sc := defScope sAreD) (by decide +kernel)) (fun _ _ _ _ _ => pg_name (i := 1) scAreD.nd rfl (Or.inl rfl)) (fun _ _ _ _ _ => pts_nil)
          (fun _ _ _ _ _ => pe_callB call_isi rfl T.isi boot_isinstance (pa_cons (pv 1) (pa_cons (pe_glob rfl R.gC (v := .ref C) rfl) pa_nil)))) pa_nil))))), ?_⟩
      refine ⟨_, rfl, ts, fun t ht => ?_⟩
      have u1 := up2 (o := .tup [.ty "list", .ty "tuple"]) ht
      obtain ⟨H1, eH1⟩ : ∃ G, G = upd H t (.tup [.ty "list", .ty "tuple"]) := ⟨_, rfl⟩
      have ht1 : H1 t = some (.tup [.ty "list", .ty "tuple"]) := by
        rw [eH1]
        exact upd_same
      rw [← eH1] at u1 ⊢
      have e1 := u1 _ _ sq
      have rec1 := rec.same u1
      refine ⟨_, t, _, _, _, _, rfl, ht1, .cons (.ty "list") (.cons (.ty "tuple") .nil), .base (.lst e1), kitL, _, rfl, iteF ?_⟩
      refine ⟨_, rfl, a, _, rfl, .inl (SqL.of e1), _, _, rfl, rfl, _, rfl, ?_⟩
      rw [List.length_map, rec.1]
      refine ite2 (fun c => absurd (of_decide_eq_true c : (60 : Int) < _) (by omega)) (fun _ => ?_)
      refine ⟨_, rfl, a, rfl, ⟨_, SqL.of e1⟩, fun D hD => lc_list (K := K) (a := a) (xs := bs.map V.ref) (fun i H' => Same H1 H' ∧ H' D = some (.lst ((List.replicate i true).map V.bl))) ⟨up2 hD, upd_same⟩ (fun i H' _ p => SqL.of (p.1 _ _ e1)) ?_ ?_⟩
      · rintro i y H' hy ⟨sm, hl⟩
        have ilt := (List.getElem?_eq_some_iff.mp hy).1
        rw [List.length_map, rec.1] at ilt
        obtain ⟨b, r, rfl, _, _, ⟨dy, hb⟩, _⟩ := (rec1.same sm).get hy
        refine ⟨rfl, ?_⟩
        unfold tYes
        dsimp only
        rw [if_pos rfl]
        refine ⟨_, rfl, _, _, _, _, _, rfl, .own C, .base (.ins hb R.cl R.ha R.hn R.ht R.hm), R.kit, ?_⟩
        refine ⟨_, hl, small1000 (by simp; omega), same_upd sm hD, ?_⟩
        rw [upd_same, List.replicate_succ', List.map_append]
        rfl
      · rintro H2 ⟨sm, hl⟩
        refine ⟨D, _, rfl, SqL.of hl, ?_⟩
        rw [all_rep]
        exact q H2 (u1.trans sm)
    · refine ⟨_, PSs.nox (pss_cons (ps_if (PW.pt (pw_or (pt_not (pt_val (pe_callB call_isiT rfl T.isi boot_isinstance (pa_cons (pv 0) (pa_cons (pe_tup (pa_cons (pe_bltn rfl T.list_ (by decide +kernel) (v := .ty "list") rfl) (pa_cons (pe_bltn rfl T.tup_ (by decide +kernel) (v := .ty "tuple") rfl) pa_nil))) pa_nil))))) (pw_or1 (pt_cmpR op_gt (pe_callB call_len_seq rfl T.len_ boot_len (pa_cons (pv 0) pa_nil)) (pe_k cs.deeds rfl) (nomark _))))) (pss_one (ps_ret pe_bl)) pss_nil)
        (pss_one (ps_ret (pe_callB (cr_all rfl) rfl T.all_ (by decide +kernel) (pa_cons (pe_lc (own := [("deed", 1)]) (g := gName 1) (tt := tYes) (te := tCB (rIsi K) (tCons (tVar 1) (tCons (tC (.ref C)) tNil))) rfl scAreD.nd (pi_tup (pv 0)) (blkOk_by (N := ["thing", "deed"]) (sc := defScope sAreD) (by decide +kernel)) (fun _ _ _ _ _ => pg_name (i := 1) scAreD.nd rfl (Or.inl rfl)) (fun _ _ _ _ _ => pts_nil)
          (fun _ _ _ _ _ => pe_callB call_isi rfl T.isi boot_isinstance (pa_cons (pv 1) (pa_cons (pe_glob rfl R.gC (v := .ref C) rfl) pa_nil)))) pa_nil))))), ?_⟩
      refine ⟨_, rfl, ts, fun t ht => ?_⟩
      have u1 := up2 (o := .tup [.ty "list", .ty "tuple"]) ht
      obtain ⟨H1, eH1⟩ : ∃ G, G = upd H t (.tup [.ty "list", .ty "tuple"]) := ⟨_, rfl⟩
      have ht1 : H1 t = some (.tup [.ty "list", .ty "tuple"]) := by
        rw [eH1]
        exact upd_same
      rw [← eH1] at u1 ⊢
      have e1 := u1 _ _ sq
      have rec1 := rec.same u1
      refine ⟨_, t, _, _, _, _, rfl, ht1, .cons (.ty "list") (.cons (.ty "tuple") .nil), .base (.tup e1), kitT, _, rfl, iteF ?_⟩
      refine ⟨_, rfl, a, _, rfl, .inr (SqT.of e1), _, _, rfl, rfl, _, rfl, ?_⟩
      rw [List.length_map, rec.1]
      refine ite2 (fun c => absurd (of_decide_eq_true c : (60 : Int) < _) (by omega)) (fun _ => ?_)
      refine ⟨_, rfl, a, rfl, ⟨_, SqT.of e1⟩, fun D hD => lc_tup (K := K) (a := a) (xs := bs.map V.ref) (fun i H' => Same H1 H' ∧ H' D = some (.lst ((List.replicate i true).map V.bl))) ⟨up2 hD, upd_same⟩ (fun i H' _ p => SqT.of (p.1 _ _ e1)) ?_ ?_⟩
      · rintro i y H' hy ⟨sm, hl⟩
        have ilt := (List.getElem?_eq_some_iff.mp hy).1
        rw [List.length_map, rec.1] at ilt
        obtain ⟨b, r, rfl, _, _, ⟨dy, hb⟩, _⟩ := (rec1.same sm).get hy
        refine ⟨rfl, ?_⟩
        unfold tYes
        dsimp only
        rw [if_pos rfl]
        refine ⟨_, rfl, _, _, _, _, _, rfl, .own C, .base (.ins hb R.cl R.ha R.hn R.ht R.hm), R.kit, ?_⟩
        refine ⟨_, hl, small1000 (by simp; omega), same_upd sm hD, ?_⟩
        rw [upd_same, List.replicate_succ', List.map_append]
        rfl
      · rintro H2 ⟨sm, hl⟩
        refine ⟨D, _, rfl, SqL.of hl, ?_⟩
        rw [all_rep]
        exact q H2 (u1.trans sm)
abbrev nSIni : List Str := ["self", "deeds"]
theorem scSIni : FnScope nSIni nSIni (defScope sSIni) := ⟨rfl, rfl, rfl, by decide +kernel, rfl, by decide +kernel, by decide +kernel⟩
theorem ok_sini {C S CE fA : Addr} {fdA : FuncData} {dvs : List V} (F : FunD K "__init__" "Sheet.__init__" (defArgs sSIni) (defBody sSIni) (defScope sSIni) dvs [] f fd) (T : Free mg) (cs : Cons mg) (R : ClsT K mg C) (RS : ClsS K mg S) (en : ErrT K mg "NoSheet" CE) (FA : Fn K "are_deeds" "are_deeds" sAreD fA fdA) (gA : mg "are_deeds" = some (.ref fA)) : FnOk P w K mg base (L2.CX P w) 2 f fd nSIni (spSIni C S) := by
  have GA : FnOk P w K mg base L2.CX0 1 fA fdA ["thing"] (spAreD C) := ok_ared FA T cs R
  have bA : Binds K fdA ["thing"] [] := FA.bindsN fun _ _ _ _ _ _ us hl => match us, hl with | [_], _ => rfl
  refine F.ok (CX := L2.CX P w) scSIni (fun vs H Q E h => ?_) (fun cdv A outer s H vs Q E hr hh => ?_)
  · obtain ⟨p, dx, a, bs, rs, rfl, _⟩ := h
    rfl
  · obtain ⟨p, dx, a, bs, rs, rfl, hp, sq, rec, l60, q⟩ := hh
    refine ⟨_, pss_cons (ps_if (pt_cmpR op_isN (pv 1) pe_non (nomark _)) (pss_one (ps_set (i := 1) scSIni.nd rfl (.inl rfl) (pe_tup pa_nil))) pss_nil)
      (pss_cons (ps_if (pt_not (pt_val (pe_call GA hr rfl gA FA.kp bA .nil pass0 (pa_cons (pv 1) pa_nil)))) (pss_one (ps_raise rfl (takes_of rfl rfl rfl rfl) (pmk_own PySem.F.excBase_ValueError en.ex en.g en.kp (raises_own en.sb en.ty) rfl))) pss_nil)
      (pss_one (ps_fld (pv 0) (pe_callTy call_tuple_of rfl T.tup_ (by decide +kernel) (pa_cons (pv 1) pa_nil)) rfl))), ?_⟩
    refine ⟨_, rfl, rfl, _, rfl, ?_⟩
    rw [show decide (V.ref a = V.non) = false from decide_eq_false (fun z => by cases z)]
    refine iteF ?_
    refine ⟨_, rfl, a, bs, rs, rfl, sq, rec, l60, fun H1 s1 => ⟨_, rfl, iteF ?_⟩⟩
    have hp1 := s1 _ _ hp
    have rec1 := rec.same s1
    have lt1 : ([] : List (Str × V)).length < 1000 := by decide
    have end_ : ∀ (t : Addr) (H2 : Hp), Same H1 H2 → H2 t = some (.tup (bs.map V.ref)) → t ≠ p → Q .non (upd H2 p (.ins S dx (sflds t))) := by
      intro t H2 s2 ht ntp
      have s12 := s1.trans s2
      refine q _ (fun b o e ne => ?_) ⟨dx, t, bs, upd_same, ?_, ⟨rec.1, fun i b r e1 e2 => ?_, rec.2.2⟩, l60⟩
      · rw [upd_ne ne]
        exact s12 _ _ e
      · rw [upd_ne ntp]
        exact ht
      · obtain ⟨dy, hy⟩ := rec.2.1 i b r e1 e2
        refine ⟨dy, ?_⟩
        have nb : b ≠ p := by
          rintro rfl
          rw [hy] at hp
          injection hp with hp
          injection hp with h1 h2 h3
          have z := f_0 r
          rw [h3] at z
          cases z
        rw [upd_ne nb]
        exact s12 _ _ hy
    rcases sq with sq | sq
    · refine ⟨_, rfl, a, _, rfl, .inl ⟨SqL.of (s1 _ _ sq), fun t ht => ?_⟩⟩
      have s2 := up2 (o := .tup (bs.map V.ref)) ht
      refine ⟨_, rfl, p, S, dx, _, rfl, s2 _ _ hp1, RS.cl, RS.n0, lt1, ?_⟩
      refine end_ t _ s2 upd_same ?_
      rintro rfl
      rw [hp1] at ht
      cases ht
    · refine ⟨_, rfl, a, _, rfl, .inr ⟨SqT.of (s1 _ _ sq), ?_⟩⟩
      refine ⟨_, rfl, p, S, dx, _, rfl, hp1, RS.cl, RS.n0, lt1, ?_⟩
      refine end_ a _ (Same.refl _) (s1 _ _ sq) ?_
      rintro rfl
      rw [hp] at sq
      cases sq
theorem scSLen : FnScope ["self"] ["self"] (defScope sSLen) := ⟨rfl, rfl, rfl, by decide +kernel, rfl, by decide +kernel, by decide +kernel⟩
theorem ok_slen {C S : Addr} (F : Fn K "__len__" "Sheet.__len__" sSLen f fd) (T : Free mg) (RS : ClsS K mg S) : FnOk P w K mg base L2.CX0 1 f fd ["self"] (spSLen C S) := by
  refine F.ok scSLen (fun vs H Q E h => ?_) (fun cdv A outer s H vs Q E hr hh => ?_)
  · obtain ⟨p, rs, rfl, _⟩ := h
    rfl
  · obtain ⟨p, rs, rfl, ⟨dx, t, bs, hp, ht, rec, l60⟩, q⟩ := hh
    refine ⟨_, PSs.nox (pss_one (ps_ret (pe_callB call_len_seq rfl T.len_ boot_len (pa_cons (pe_fld (pv 0) rfl) pa_nil)))), ?_⟩
    refine ⟨_, rfl, p, S, dx, _, _, rfl, hp, RS.cl, RS.n0, sf_0 t, t, _, rfl, .inr (SqT.of ht), ?_⟩
    rw [List.length_map, rec.1]
    exact q
theorem scSAll : FnScope ["self"] ["self"] (defScope sSAll) := ⟨rfl, rfl, rfl, by decide +kernel, rfl, by decide +kernel, by decide +kernel⟩
theorem ok_sall {C S : Addr} (F : Fn K "all_deeds" "Sheet.all_deeds" sSAll f fd) (T : Free mg) (RS : ClsS K mg S) : FnOk P w K mg base L2.CX0 1 f fd ["self"] (spSAll C S) := by
  refine F.ok scSAll (fun vs H Q E h => ?_) (fun cdv A outer s H vs Q E hr hh => ?_)
  · obtain ⟨p, rs, rfl, _⟩ := h
    rfl
  · obtain ⟨p, rs, rfl, ⟨dx, t, bs, hp, ht, rec, l60⟩, q⟩ := hh
    refine ⟨_, PSs.nox (pss_one (ps_ret (pe_callTy call_list_of rfl T.list_ (by decide +kernel) (pa_cons (pe_fld (pv 0) rfl) pa_nil)))), ?_⟩
    exact ⟨_, rfl, p, S, dx, _, _, rfl, hp, RS.cl, RS.n0, sf_0 t, t, _, rfl, .inr (SqT.of ht), fun l hl => q l bs _ hl (up2 hl) upd_same (rec.same (up2 hl))⟩
theorem recs_mem {C : Addr} {H : Hp} {bs : List Addr} {rs : List PR} (m : Recs C H bs rs) : ∀ b ∈ bs, ∃ r ∈ rs, At C H b r ∧ r.Ok := by
  intro b hb
  obtain ⟨i, hi⟩ := List.getElem?_of_mem hb
  obtain ⟨b', r, e, h1, h2, a, o⟩ := m.get (i := i) (y := .ref b) (by rw [List.getElem?_map, hi]; rfl)
  cases e
  exact ⟨r, List.mem_of_getElem? h2, a, o⟩
end
end K13
set_option Elab.async false
set_option linter.all false
set_option maxRecDepth 100000
set_option maxHeartbeats 4000000
namespace K13
open PySem PySem.Spec PyProof.Rows L2 Bb
theorem ds_inj {r t : PR} (e : r.ds = t.ds) : r = t := by
  cases r
  cases t
  simp only [PR.ds, List.cons.injEq, PyData.str.injEq, PyData.int.injEq, and_true, PR.mk.injEq] at e ⊢
  exact e
/-! sheets compared, as texts -/
instance instDecPR : DecidableEq PR := fun r t => if h : eqR r t = true then isTrue (by
    unfold eqR at h
    have h := of_decide_eq_true h
    obtain ⟨x0, x1, x2, x3, x4, x5, x6⟩ := r
    obtain ⟨y0, y1, y2, y3, y4, y5, y6⟩ := t
    obtain ⟨rfl, rfl, rfl, rfl, rfl, rfl, rfl⟩ := h
    rfl) else isFalse (fun e => h (by rw [e]; exact eqR_refl _))
theorem eqR_iff {r t : PR} : eqR r t = true ↔ r = t := by
  constructor
  · intro h
    unfold eqR at h
    have h := of_decide_eq_true h
    obtain ⟨x0, x1, x2, x3, x4, x5, x6⟩ := r
    obtain ⟨y0, y1, y2, y3, y4, y5, y6⟩ := t
    obtain ⟨rfl, rfl, rfl, rfl, rfl, rfl, rfl⟩ := h
    rfl
  · rintro rfl
    exact eqR_refl _
theorem eqR_dec (r t : PR) : eqR r t = decide (r = t) := by
  rw [Bool.eq_iff_iff, eqR_iff, decide_eq_true_iff]
def encD (r : PR) : PyData := .tuple r.ds
theorem encD_inj {r t : PR} (h : encD r = encD t) : r = t := by
  unfold encD at h
  injection h with h
  exact ds_inj h
theorem eqv_enc (r t : PR) : PyData.eqv (encD r) (encD t) = decide (r = t) := by
  rw [← eqR_dec]
  exact eqv_R r t
theorem eqvAll_enc : ∀ l m : List PR, PyData.eqvAll (l.map encD) (m.map encD) = decide (l = m)
  | [], [] => by simp [PyData.eqvAll]
  | [], _ :: _ => by simp [PyData.eqvAll]
  | _ :: _, [] => by simp [PyData.eqvAll]
  | r :: l, t :: m => by
    show PyData.eqvAll (encD r :: l.map encD) (encD t :: m.map encD) = _
    rw [PyData.eqvAll, eqv_enc, eqvAll_enc l m, Bool.eq_iff_iff]
    simp
theorem alike_enc (r t : PR) : PySem.W.alike (encD r) (encD t) = true := by
  unfold encD PR.ds
  simp [PySem.W.alike, PySem.W.alikeAll]
theorem depth_enc (r : PR) : (encD r).depth = 1 := rfl
/-- tuples of parts, each its own object -/
def Tups (H : Hp) (A : List (Addr × PyData)) (rs : List PR) : Prop := A.length = rs.length ∧ ∀ (i : Nat) (x : Addr × PyData) (r : PR), A[i]? = some x → rs[i]? = some r → H x.1 = some (.tup r.vs) ∧ x.2 = encD r ∧ r.Ok
theorem Tups.enc {H : Hp} {A : List (Addr × PyData)} {rs : List PR} (h : Tups H A rs) : A.map (·.2) = rs.map encD := by
  apply List.ext_getElem?
  intro i
  rw [List.getElem?_map, List.getElem?_map]
  cases e : A[i]? with
  | none =>
    have : rs[i]? = none := by
      rw [List.getElem?_eq_none_iff] at e ⊢
      rw [← h.1]
      exact e
    rw [this]
    rfl
  | some x =>
    have il : i < rs.length := by
      rw [← h.1]
      exact (List.getElem?_eq_some_iff.mp e).1
    have er := List.getElem?_eq_getElem il
    rw [er]
    show some x.2 = some (encD rs[i])
    rw [(h.2 i x _ e er).2.1]
theorem Tups.mem {H : Hp} {A : List (Addr × PyData)} {rs : List PR} (h : Tups H A rs) {x : Addr × PyData} (m : x ∈ A) : ∃ r ∈ rs, H x.1 = some (.tup r.vs) ∧ x.2 = encD r ∧ r.Ok := by
  obtain ⟨i, hi⟩ := List.getElem?_of_mem m
  have il : i < rs.length := by
    rw [← h.1]
    exact (List.getElem?_eq_some_iff.mp hi).1
  have er := List.getElem?_eq_getElem il
  exact ⟨_, List.mem_of_getElem? er, h.2 i x _ hi er⟩
theorem Tups.same {H H' : Hp} {A : List (Addr × PyData)} {rs : List PR} (h : Tups H A rs) (s : Same H H') : Tups H' A rs := ⟨h.1, fun i x r e1 e2 => ⟨s _ _ (h.2 i x r e1 e2).1, (h.2 i x r e1 e2).2⟩⟩
theorem perm_inj {rs ts : List PR} (p : (rs.map encD).Perm (ts.map encD)) : rs.Perm ts := by
  rw [List.perm_iff_count]
  intro a
  have cnt : ∀ l : List PR, l.count a = (l.map encD).countP (fun d => PyData.eqv d (encD a)) := by
    intro l
    rw [List.countP_map, List.count_eq_countP]
    refine List.countP_congr fun r _ => ?_
    show (r == a) = true ↔ PyData.eqv (encD r) (encD a) = true
    rw [eqv_enc, decide_eq_true_iff, beq_iff_eq]
  rw [cnt, cnt]
  exact p.countP_eq _
/-- what sorted lists of parts are: equal just where the records are the same, each as often -/
theorem sorted_eq {H H' : Hp} {A B : List (Addr × PyData)} {rs ts : List PR} (hA : Tups H A rs) (hB : Tups H' B ts) : PyData.eqv (.list ((A.mergeSort leD).map (·.2))) (.list ((B.mergeSort leD).map (·.2))) = decide (rs.Perm ts) := by
  have pA := List.mergeSort_perm A leD
  have pB := List.mergeSort_perm B leD
  have recs : ∀ {H : Hp} {A : List (Addr × PyData)} {rs : List PR}, Tups H A rs → ∀ {L : List (Addr × PyData)}, L.Perm A → ∃ l : List PR, L.map (·.2) = l.map encD ∧ l.Perm rs := by
    intro H A rs h L p
    have all : ∀ x ∈ L, ∃ r, x.2 = encD r := fun x hx => by
      obtain ⟨r, _, _, e, _⟩ := h.mem (p.mem_iff.mp hx)
      exact ⟨r, e⟩
    have ex : ∀ L : List (Addr × PyData), (∀ x ∈ L, ∃ r, x.2 = encD r) → ∃ l : List PR, L.map (·.2) = l.map encD := by
      intro L
      induction L with
      | nil => exact fun _ => ⟨[], rfl⟩
      | cons x L ih =>
        intro hL
        obtain ⟨r, er⟩ := hL x List.mem_cons_self
        obtain ⟨l, el⟩ := ih fun y hy => hL y (List.mem_cons_of_mem _ hy)
        exact ⟨r :: l, by rw [List.map_cons, List.map_cons, el, er]⟩
    obtain ⟨l, el⟩ := ex L all
    refine ⟨l, el, ?_⟩
    have q := p.map (·.2)
    rw [el, h.enc] at q
    exact perm_inj q
  obtain ⟨l, el, pl⟩ := recs hA pA
  obtain ⟨m, em, pm⟩ := recs hB pB
  rw [el, em]
  show PyData.eqvAll (l.map encD) (m.map encD) = _
  rw [eqvAll_enc, Bool.eq_iff_iff, decide_eq_true_iff, decide_eq_true_iff]
  constructor
  · intro e
    rw [e] at pl
    exact pl.symm.trans pm
  · intro pr
    have srt : ∀ {A : List (Addr × PyData)} {l : List PR}, (A.mergeSort leD).map (·.2) = l.map encD → l.Pairwise fun r t => (!PySem.W.dataLt (encD t) (encD r)) = true := by
      intro A l e
      have s := List.pairwise_mergeSort (le := leD) leD_trans leD_total A
      have s2 : ((A.mergeSort leD).map (·.2)).Pairwise fun x y => (!PySem.W.dataLt y x) = true := List.pairwise_map.mpr (s.imp fun {a b} h => by rw [leD_iff] at h; exact h)
      rw [e] at s2
      exact List.pairwise_map.mp s2
    refine List.Perm.eq_of_pairwise (le := fun r t => (!PySem.W.dataLt (encD t) (encD r)) = true) (fun r t _ _ h1 h2 => ?_) (srt el) (srt em) ((pl.trans pr).trans pm.symm)
    have z := eqv_of_le (a := ((0 : Nat), encD r)) (b := ((0 : Nat), encD t)) (alike_enc r t) (by rw [leD_iff]; exact h1) (by rw [leD_iff]; exact h2)
    have z2 : PyData.eqv (encD r) (encD t) = true := z
    rw [eqv_enc] at z2
    exact of_decide_eq_true z2
def spSorted (C S : Addr) : Sp := fun vs H Q _ => ∃ (p : Addr) (rs : List PR), vs = [.ref p] ∧ SAt C S H p rs ∧ ∀ q A H', Same H H' → Tups H' A rs → H' q = some (.lst ((A.mergeSort leD).map fun x => V.ref x.1)) → Q (.ref q) H'
def spSEq (C S : Addr) : Sp := fun vs H Q _ => ∃ (p q : Addr) (rs ts : List PR), vs = [.ref p, .ref q] ∧ SAt C S H p rs ∧ SAt C S H q ts ∧ ∀ H', Same H H' → Q (.bl (decide (rs.Perm ts))) H'
def spSEqX : Sp := fun vs H Q _ => ∃ (p : Addr) (y : V), vs = [.ref p, y] ∧ Bt H y ∧ Q (.bl false) H
theorem dp_sorted {K : PySem.W.Frag} {H : Hp} {A : List (Addr × PyData)} {rs : List PR} (h : Tups H A rs) : ∀ {L : List (Addr × PyData)}, (∀ x ∈ L, x ∈ A) → DpAll K H (L.map fun x => V.ref x.1) (L.map (·.2))
  | [], _ => .nil
  | x :: L, m => by
    obtain ⟨r, _, hx, e, _⟩ := h.mem (m x List.mem_cons_self)
    have d : Dp K H (.ref x.1) x.2 := by
      rw [e]
      exact dp_R hx
    exact .cons d (dp_sorted h fun y hy => m y (List.mem_cons_of_mem _ hy))
theorem shaped_sorted {H : Hp} {A : List (Addr × PyData)} {rs : List PR} (h : Tups H A rs) {L : List (Addr × PyData)} (m : ∀ x ∈ L, x ∈ A) : SeqAt.shaped (.list (L.map (·.2))) = true := by
  have each : ∀ d ∈ L.map (·.2), PyData.canLay0 d = true ∧ d.depth = 1 := by
    intro d hd
    obtain ⟨x, hx, rfl⟩ := List.mem_map.mp hd
    obtain ⟨r, _, _, e, ok⟩ := h.mem (m x hx)
    have sh := shaped_R ok
    unfold SeqAt.shaped at sh
    rw [Bool.and_eq_true] at sh
    rw [e]
    exact ⟨sh.1, rfl⟩
  have lay : ∀ ds : List PyData, (∀ d ∈ ds, PyData.canLay0 d = true ∧ d.depth = 1) → PyData.canLayAll0 ds = true ∧ PyData.depthAll ds ≤ 1 := by
    intro ds
    induction ds with
    | nil => exact fun _ => ⟨rfl, by decide⟩
    | cons d ds ih =>
      intro hd
      obtain ⟨a1, a2⟩ := hd d List.mem_cons_self
      obtain ⟨b1, b2⟩ := ih fun x hx => hd x (List.mem_cons_of_mem _ hx)
      refine ⟨?_, ?_⟩
      · show (PyData.canLay0 d && PyData.canLayAll0 ds) = true
        rw [a1, b1]
        rfl
      · show max d.depth (PyData.depthAll ds) ≤ 1
        omega
  obtain ⟨l1, l2⟩ := lay _ each
  unfold SeqAt.shaped
  rw [Bool.and_eq_true]
  refine ⟨l1, decide_eq_true ?_⟩
  show PyData.depthAll (L.map (·.2)) + 1 ≤ 64
  omega
section
variable {P : Program} {w : World} {K : PySem.W.Frag} {mg : Str → Option Value} {base : Heap} {f : Addr} {fd : FuncData}
theorem scSSorted : FnScope ["self", "deed"] ["self"] (defScope sSSorted) := ⟨rfl, rfl, rfl, by decide +kernel, rfl, by decide +kernel, by decide +kernel⟩
theorem ok_sorted {C S fP : Addr} {fdP : FuncData} (F : Fn K "sorted_parts" "Sheet.sorted_parts" sSSorted f fd) (T : Free mg) (R : ClsT K mg C) (RS : ClsS K mg S) (FP : Fn K "parts" "Deed.parts" sParts fP fdP) (mP : Meth K C "parts" fP) : FnOk P w K mg base L2.CX0 3 f fd ["self"] (spSorted C S) := by
  have GP : FnOk P w K mg base L2.CX0 1 fP fdP ["self"] (spParts C) := ok_parts FP R
  have bP : Binds K fdP ["self"] [] := FP.bindsN fun _ _ _ _ _ _ us hl => match us, hl with | [_], _ => rfl
  refine F.ok scSSorted (fun vs H Q E h => ?_) (fun cdv A outer s H vs Q E hr hh => ?_)
  · obtain ⟨p, rs, rfl, _⟩ := h
    rfl
  · obtain ⟨p, rs, rfl, ⟨dx, t, bs, hp, ht, rec, l60⟩, q⟩ := hh
    have hr1 : Room 1 _ := hr.mono (by decide)
    refine ⟨_, PSs.nox (pss_one (ps_ret (pe_callB (cr_sortedD hr.units) rfl T.srt_ (by decide +kernel) (pa_cons (pe_lc (own := [("deed", 1)]) (g := gName 1) (tt := tYes) rfl scSSorted.nd (pi_tup (pe_fld (pv 0) rfl)) (blkOk_by (N := ["self", "deed"]) (sc := defScope sSSorted) (by decide +kernel)) (fun _ _ _ _ _ => pg_name (i := 1) scSSorted.nd rfl (Or.inl rfl)) (fun _ _ _ _ _ => pts_nil)
      (fun _ _ _ _ _ => pe_meth0 (pv 1) R.cl mP GP hr1 bP .nil pass0)) pa_nil)))), ?_⟩
    refine ⟨_, rfl, p, S, dx, _, _, rfl, hp, RS.cl, RS.n0, sf_0 t, t, rfl, ⟨_, SqT.of ht⟩, fun D hD => lc_tup (K := K) (a := t) (xs := bs.map V.ref) (fun i H' => Same H H' ∧ ∃ A : List (Addr × PyData), H' D = some (.lst (A.map fun x => V.ref x.1)) ∧ Tups H' A (rs.take i))
      ⟨up2 hD, [], upd_same, by rw [List.take_zero]; exact ⟨rfl, fun i x r e _ => by cases e⟩⟩ (fun i H' _ p => SqT.of (p.1 _ _ ht)) ?_ ?_⟩
    · rintro i y H' hy ⟨sm, A, hl, tp⟩
      obtain ⟨b, r, rfl, hb, hri, atb, okr⟩ := (rec.same sm).get hy
      obtain ⟨dy, hby⟩ := id atb
      have ilt := (List.getElem?_eq_some_iff.mp hri).1
      have lA : A.length = i := by
        rw [tp.1, List.length_take]
        omega
      refine ⟨rfl, ?_⟩
      unfold tYes
      dsimp only
      rw [if_pos rfl]
      refine ⟨_, rfl, b, dy, _, rfl, hby, no_m (by decide +kernel), b, r, rfl, atb, fun q1 H2 n1 s1 h1 => ?_⟩
      have hl2 := s1 _ _ hl
      have nq : q1 ≠ D := by
        rintro rfl
        rw [hl] at n1
        cases n1
      have cl : ∀ {c : Addr} {zs : List V}, H2 c = some (.tup zs) → (upd H2 D (.lst (A.map (fun x => V.ref x.1) ++ [.ref q1]))) c = some (.tup zs) := fun e => by
        rw [upd_ne (by rintro rfl; rw [e] at hl2; cases hl2)]
        exact e
      refine ⟨_, hl2, small1000 (by rw [List.length_map]; omega), same_upd (sm.trans s1) hD, A ++ [(q1, encD r)], by rw [upd_same, List.map_append]; rfl, ?_⟩
      have et := take_sn hri
      refine ⟨by rw [List.length_append, tp.1, et, List.length_append]; rfl, fun j x r' ej er => ?_⟩
      rw [et] at er
      by_cases jl : j < A.length
      · rw [List.getElem?_append_left jl] at ej
        rw [List.getElem?_append_left (by rw [← tp.1]; exact jl)] at er
        obtain ⟨z1, z2, z3⟩ := tp.2 j x r' ej er
        exact ⟨cl (s1 _ _ z1), z2, z3⟩
      · have jl2 := (List.getElem?_eq_some_iff.mp ej).1
        rw [List.length_append, List.length_singleton] at jl2
        have j0 : j = A.length := by omega
        rw [List.getElem?_append_right (by omega)] at ej
        rw [List.getElem?_append_right (by rw [← tp.1]; omega)] at er
        have e1 : j - A.length = 0 := by omega
        have e2 : j - (rs.take i).length = 0 := by rw [← tp.1]; omega
        rw [e1] at ej
        rw [e2] at er
        have ex : (q1, encD r) = x := by simpa using ej
        have er' : r = r' := by simpa using er
        subst ex er'
        exact ⟨cl h1, rfl, okr⟩
    · rintro H2 ⟨sm, A, hl, tp⟩
      have lb : (bs.map V.ref).length = rs.length := by rw [List.length_map, rec.1]
      rw [lb, List.take_length] at tp
      refine ⟨D, A, rfl, SqL.of hl, fun x hx => ?_, ?_, ?_, fun x hx => ?_, fun q1 hq1 => ?_⟩
      · obtain ⟨r, _, h1, h2, _⟩ := tp.mem hx
        rw [h2]
        exact dp_R h1
      · rw [tp.enc]
        exact PySem.W.AllAlike.of alike_enc
      · rw [tp.enc]
        exact PySem.W.Sortable.tuples fun r => ⟨_, _, rfl⟩
      · obtain ⟨r, _, _, h2, _⟩ := tp.mem hx
        rw [h2, depth_enc]
        decide
      · exact q q1 A _ (sm.trans (up2 hq1)) (tp.same (up2 hq1)) upd_same
theorem scSEq : FnScope ["self", "other"] ["self", "other"] (defScope sSEq) := ⟨rfl, rfl, rfl, by decide +kernel, rfl, by decide +kernel, by decide +kernel⟩
theorem ok_seq {C S fP fO : Addr} {fdP fdO : FuncData} (F : Fn K "__eq__" "Sheet.__eq__" sSEq f fd) (T : Free mg) (R : ClsT K mg C) (RS : ClsS K mg S) (FP : Fn K "parts" "Deed.parts" sParts fP fdP) (mP : Meth K C "parts" fP) (FO : Fn K "sorted_parts" "Sheet.sorted_parts" sSSorted fO fdO) (mO : Meth K S "sorted_parts" fO) : FnOk P w K mg base L2.CX0 4 f fd ["self", "other"] (spSEq C S) := by
  have GO : FnOk P w K mg base L2.CX0 3 fO fdO ["self"] (spSorted C S) := ok_sorted FO T R RS FP mP
  have bO : Binds K fdO ["self"] [] := FO.bindsN fun _ _ _ _ _ _ us hl => match us, hl with | [_], _ => rfl
  refine F.ok scSEq (fun vs H Q E h => ?_) (fun cdv A outer s H vs Q E hr hh => ?_)
  · obtain ⟨p, q, rs, ts, rfl, _⟩ := h
    rfl
  · obtain ⟨p, q, rs, ts, rfl, ap, aq, fin⟩ := hh
    refine ⟨_, PSs.nox (pss_one (ps_ret (pe_and (pe_callB call_isi rfl T.isi boot_isinstance (pa_cons (pv 1) (pa_cons (pe_glob rfl RS.gC (v := .ref S) rfl) pa_nil)))
      (pe_one (pe_cmpR (op_eqD hr.units) (pe_meth0 (pv 0) RS.cl mO GO hr bO .nil pass0) (pe_meth0 (pv 1) RS.cl mO GO hr bO .nil pass0) (nomark _)))))), ?_⟩
    obtain ⟨dx, t1, bs, hp, _⟩ := id ap
    obtain ⟨dy, t2, cs, hq, _⟩ := id aq
    refine ⟨_, rfl, _, _, _, _, _, rfl, .own S, .base (.ins hq RS.cl RS.ha RS.hn RS.ht RS.hm), RS.kit, _, rfl, iteT ?_⟩
    refine ⟨_, rfl, p, dx, _, rfl, hp, sf_no t1 (by decide +kernel), p, rs, rfl, ap, fun q1 A1 H1 s1 tA h1 => ?_⟩
    refine ⟨_, rfl, q, dy, _, rfl, s1 _ _ hq, sf_no t2 (by decide +kernel), q, ts, rfl, aq.same s1, fun q2 B1 H2 s2 tB h2 => ?_⟩
    have pA : ∀ x ∈ A1.mergeSort leD, x ∈ A1 := fun x hx => (List.mergeSort_perm A1 leD).mem_iff.mp hx
    have pB : ∀ x ∈ B1.mergeSort leD, x ∈ B1 := fun x hx => (List.mergeSort_perm B1 leD).mem_iff.mp hx
    refine ⟨.list ((A1.mergeSort leD).map (·.2)), .list ((B1.mergeSort leD).map (·.2)), .lst (SqL.of (s2 _ _ h1)) (dp_sorted (tA.same s2) pA), .lst (SqL.of h2) (dp_sorted tB pB), shaped_sorted tA pA, shaped_sorted tB pB, ?_⟩
    rw [sorted_eq tA tB]
    exact fin H2 (s1.trans s2)
theorem ok_seqX {C S fP fO : Addr} {fdP fdO : FuncData} (F : Fn K "__eq__" "Sheet.__eq__" sSEq f fd) (T : Free mg) (R : ClsT K mg C) (RS : ClsS K mg S) (nb : NotB K S) (FP : Fn K "parts" "Deed.parts" sParts fP fdP) (mP : Meth K C "parts" fP) (FO : Fn K "sorted_parts" "Sheet.sorted_parts" sSSorted fO fdO) (mO : Meth K S "sorted_parts" fO) : FnOk P w K mg base L2.CX0 4 f fd ["self", "other"] spSEqX := by
  have GO : FnOk P w K mg base L2.CX0 3 fO fdO ["self"] (spSorted C S) := ok_sorted FO T R RS FP mP
  have bO : Binds K fdO ["self"] [] := FO.bindsN fun _ _ _ _ _ _ us hl => match us, hl with | [_], _ => rfl
  refine F.ok scSEq (fun vs H Q E h => ?_) (fun cdv A outer s H vs Q E hr hh => ?_)
  · obtain ⟨p, y, rfl, _⟩ := h
    rfl
  · obtain ⟨p, y, rfl, bt, q⟩ := hh
    refine ⟨_, PSs.nox (pss_one (ps_ret (pe_and (pe_callB call_isi rfl T.isi boot_isinstance (pa_cons (pv 1) (pa_cons (pe_glob rfl RS.gC (v := .ref S) rfl) pa_nil)))
      (pe_one (pe_cmpR (op_eqD hr.units) (pe_meth0 (pv 0) RS.cl mO GO hr bO .nil pass0) (pe_meth0 (pv 1) RS.cl mO GO hr bO .nil pass0) (nomark _)))))), ?_⟩
    obtain ⟨n, ty, hn⟩ := bt_tyn (K := K) bt
    exact ⟨_, rfl, _, _, _, _, _, rfl, .own S, ty, nb n hn, _, rfl, q⟩
end
end K13
set_option Elab.async false
set_option linter.all false
set_option maxRecDepth 100000
set_option maxHeartbeats 4000000
namespace K13
open PySem PySem.Spec PyProof.Rows L2 Bb
/-! a sheet as a text -/
theorem join_len (sep : Str) : ∀ ts : List Str, (Str.join sep ts).length ≤ (ts.map (·.length)).sum + ts.length * sep.length
  | [] => by
    show (Str.empty).length ≤ _
    exact Nat.zero_le _
  | [x] => by
    show x.length ≤ x.length + 0 + 1 * sep.length
    omega
  | x :: y :: r => by
    have ih := join_len sep (y :: r)
    show (x ++ sep ++ Str.join sep (y :: r)).length ≤ _
    simp only [strLen_append]
    have e1 : ((x :: y :: r).map (·.length)).sum = x.length + ((y :: r).map (·.length)).sum := by
      rw [List.map_cons, List.sum_cons]
    have e2 : (x :: y :: r).length * sep.length = sep.length + (y :: r).length * sep.length := by
      rw [List.length_cons, Nat.add_mul, Nat.one_mul, Nat.add_comm]
    rw [e1, e2]
    omega
theorem txt_len {r : PR} (o : r.Ok) : (wTxt (lineP r)).length ≤ 10100 := by
  have ll := line_len o
  have jl := join_len " " (lineP r)
  have e1 : ((" " : String) : Str).length = 1 := by decide +kernel
  have l7 : (lineP r).length = 7 := rfl
  rw [e1, l7] at jl
  unfold wTxt
  rw [TL.join_eq]
  omega
theorem sum_le {l : List Nat} {m : Nat} (h : ∀ x ∈ l, x ≤ m) : l.sum ≤ l.length * m := by
  induction l with
  | nil => exact Nat.zero_le _
  | cons a l ih =>
    rw [List.sum_cons, List.length_cons, Nat.add_mul, Nat.one_mul]
    have := h a List.mem_cons_self
    have := ih fun x hx => h x (List.mem_cons_of_mem _ hx)
    omega
section
variable {P : Program} {w : World} {K : PySem.W.Frag} {mg : Str → Option Value} {base : Heap} {f : Addr} {fd : FuncData}
theorem scSStr : FnScope ["self", "deed"] ["self"] (defScope sSStr) := ⟨rfl, rfl, rfl, by decide +kernel, rfl, by decide +kernel, by decide +kernel⟩
theorem ok_sstr {C S fP fT : Addr} {fdP fdT : FuncData} (F : Fn K "__str__" "Sheet.__str__" sSStr f fd) (T : Free mg) (R : ClsT K mg C) (RS : ClsS K mg S) (FP : Fn K "parts" "Deed.parts" sParts fP fdP) (mP : Meth K C "parts" fP) (FT : Fn K "__str__" "Deed.__str__" sStr fT fdT)
    (lT : PySem.W.findIn K (.ref C) "__str__" = some (some (.ref fT))) (iT : PySem.W.isFn K (.ref fT) = true) : FnOk P w K mg base L2.CX0 5 f fd ["self"] (spSStr C S) := by
  have GT : FnOk P w K mg base L2.CX0 2 fT fdT ["self"] (spStr C) := ok_str FT T R FP mP
  have bT : Binds K fdT ["self"] [] := FT.bindsN fun _ _ _ _ _ _ us hl => match us, hl with | [_], _ => rfl
  refine F.ok scSStr (fun vs H Q E h => ?_) (fun cdv A outer s H vs Q E hr hh => ?_)
  · obtain ⟨p, rs, rfl, _⟩ := h
    rfl
  · obtain ⟨p, rs, rfl, ⟨dx, t, bs, hp, ht, rec, l60⟩, q⟩ := hh
    refine ⟨_, PSs.nox (pss_one (ps_ret (pe_join pe_str (pe_lc (own := [("deed", 1)]) (g := gName 1) (tt := tYes) rfl scSStr.nd (pi_tup (pe_fld (pv 0) rfl)) (blkOk_by (N := ["self", "deed"]) (sc := defScope sSStr) (by decide +kernel)) (fun _ _ _ _ _ => pg_name (i := 1) scSStr.nd rfl (Or.inl rfl)) (fun _ _ _ _ _ => pts_nil)
        (fun _ _ _ _ _ => pe_callTy (call_strOwn GT hr lT iT bT pass0) rfl T.str_ (by decide +kernel) (pa_cons (pv 1) pa_nil)))))), ?_⟩
    refine ⟨⟨_, rfl⟩, _, rfl, p, S, dx, _, _, rfl, hp, RS.cl, RS.n0, sf_0 t, t, rfl, ⟨_, SqT.of ht⟩, fun D hD => lc_tup (K := K) (a := t) (xs := bs.map V.ref) (fun i H' => Same H H' ∧ H' D = some (.lst (((rs.map fun r => wTxt (lineP r)).take i).map V.str))) ⟨up2 hD, by rw [List.take_zero]; exact upd_same⟩ (fun i H' _ p => sqt_same (SqT.of ht) p.1) ?_ ?_⟩
    · rintro i v H' hv ⟨sm, hl2⟩
      obtain ⟨b, r, rfl, hb, hri, atb, okr⟩ := (rec.same sm).get hv
      obtain ⟨dy, hby⟩ := id atb
      have ilt := (List.getElem?_eq_some_iff.mp hri).1
      have hzi : (rs.map fun r => wTxt (lineP r))[i]? = some (wTxt (lineP r)) := by
        rw [List.getElem?_map, hri]
        rfl
      refine ⟨rfl, ?_⟩
      unfold tYes
      dsimp only
      rw [if_pos rfl]
      refine ⟨_, rfl, b, dy, _, rfl, hby, b, r, rfl, atb, okr, fun H2 s2 => ⟨_, rfl, _, s2 _ _ hl2, small1000 ?_, same_upd (sm.trans s2) hD, ?_⟩⟩
      · rw [List.length_map, List.length_take]
        omega
      · rw [upd_same, take_sn hzi, List.map_append]
        rfl
    · rintro H2 ⟨sm, hl2⟩
      rw [show (bs.map V.ref).length = (rs.map fun r => wTxt (lineP r)).length by rw [List.length_map, List.length_map, rec.1], List.take_length] at hl2
      refine ⟨_, D, rs.map fun r => wTxt (lineP r), rfl, rfl, .inl (SqL.of hl2), ?_, q H2 sm⟩
      have e1 : (("\n" : String) : Str).length = 1 := by decide +kernel
      rw [e1, List.map_map]
      have sl := sum_le (l := rs.map ((fun x : Str => x.length) ∘ fun r => wTxt (lineP r))) (m := 10100) fun x hx => by
        obtain ⟨r, hr2, rfl⟩ := List.mem_map.mp hx
        exact txt_len (rec.2.2 r hr2)
      rw [List.length_map] at sl ⊢
      have : rs.length * 10100 ≤ 60 * 10100 := Nat.mul_le_mul_right _ l60
      omega
theorem scSRepr : FnScope ["self"] ["self"] (defScope sSRepr) := ⟨rfl, rfl, rfl, by decide +kernel, rfl, by decide +kernel, by decide +kernel⟩
theorem ok_srepr {C S : Addr} (F : Fn K "__repr__" "Sheet.__repr__" sSRepr f fd) (T : Free mg) (RS : ClsS K mg S) : FnOk P w K mg base L2.CX0 1 f fd ["self"] (spSRepr C S) := by
  refine F.ok scSRepr (fun vs H Q E h => ?_) (fun cdv A outer s H vs Q E hr hh => ?_)
  · obtain ⟨p, rs, rfl, _⟩ := h
    rfl
  · obtain ⟨p, rs, rfl, ⟨dx, t, bs, hp, ht, rec, l60⟩, q⟩ := hh
    refine ⟨_, PSs.nox (pss_one (ps_ret (pe_joined (PJ.cons pe_str (PJ.cons (pe_fmt (pe_callB call_len_seq rfl T.len_ boot_len (pa_cons (pe_fld (pv 0) rfl) pa_nil))) (PJ.cons pe_str PJ.nil)))))), ?_⟩
    have c0 : (("Sheet(" : String) : Str).length = 6 := by decide +kernel
    have c1 : ((")" : String) : Str).length = 1 := by decide +kernel
    have ce : Str.empty.length = 0 := rfl
    have sz := sizeLine_eq
    have hb : ((rs.length : Nat) : Int).natAbs < 10 ^ 40 := by
      have e : (10 : Nat) ^ 40 = 10000000000000000000000000000000000000000 := by decide +kernel
      omega
    have li := len_int hb
    refine ⟨_, rfl, (by simp only [strLen_append]; omega), _, rfl, p, S, dx, _, _, rfl, hp, RS.cl, RS.n0, sf_0 t, t, _, rfl, .inr (SqT.of ht), ?_⟩
    rw [List.length_map, rec.1]
    refine .inr ⟨_, rfl, log_int hb, _, rfl, (by simp only [strLen_append]; omega), _, rfl, (by simp only [strLen_append]; omega), ?_⟩
    exact q H (Same.refl H)
end
end K13
set_option Elab.async false
set_option linter.all false
set_option maxRecDepth 100000
set_option maxHeartbeats 4000000
namespace K13
open PySem PySem.Spec PyProof.Rows L2 Bb
/-! rows of good deeds: mixed, drawn, counted -/
def gv (gs : List (Addr × PR)) : List V := gs.map fun g => .ref g.1
def Gd (H : Hp) (gs : List (Addr × PR)) : Prop := ∀ g ∈ gs, H g.1 = some (.tup g.2.vs) ∧ g.2.Ok
theorem Gd.same {H H' : Hp} {gs : List (Addr × PR)} (g : Gd H gs) (s : Same H H') : Gd H' gs := fun x hx => ⟨s _ _ (g x hx).1, (g x hx).2⟩
theorem Gd.kp {H H' : Hp} {p : Addr} {gs : List (Addr × PR)} (g : Gd H gs) (hp : Pen H p) (k : Kp p H H') : Gd H' gs := fun x hx => ⟨k.keep _ _ (g x hx).1 (pen_ne hp (g x hx).1 (fun _ _ z => by cases z)), (g x hx).2⟩
theorem Gd.upd {H : Hp} {D : Addr} {xs ys : List V} {gs : List (Addr × PR)} (g : Gd H gs) (h : H D = some (.lst xs)) : Gd (upd H D (.lst ys)) gs := fun x hx => ⟨by
  rw [upd_ne (by rintro e; have z := (g x hx).1; rw [e, h] at z; cases z)]
  exact (g x hx).1, (g x hx).2⟩
theorem Gd.sub {H : Hp} {gs hs : List (Addr × PR)} (g : Gd H gs) (s : ∀ x ∈ hs, x ∈ gs) : Gd H hs := fun x hx => g x (s x hx)
theorem Gd.app {H : Hp} {gs hs : List (Addr × PR)} (g : Gd H gs) (g2 : Gd H hs) : Gd H (gs ++ hs) := fun x hx => by
  rcases List.mem_append.mp hx with q | q
  · exact g x q
  · exact g2 x q
theorem Gd.one {H : Hp} {a : Addr} {r : PR} (h : H a = some (.tup r.vs)) (o : r.Ok) : Gd H [(a, r)] := fun x hx => by
  rw [List.mem_singleton.mp hx]
  exact ⟨h, o⟩
theorem gv_len (gs : List (Addr × PR)) : (gv gs).length = gs.length := List.length_map _
theorem gv_app (gs hs : List (Addr × PR)) : gv gs ++ gv hs = gv (gs ++ hs) := (List.map_append ..).symm
theorem gv_get {gs : List (Addr × PR)} {i : Nat} {y : V} (h : (gv gs)[i]? = some y) : ∃ g, gs[i]? = some g ∧ y = .ref g.1 := by
  unfold gv at h
  rw [List.getElem?_map] at h
  cases e : gs[i]? with
  | none =>
    rw [e] at h
    cases h
  | some g =>
    rw [e] at h
    exact ⟨g, rfl, (Option.some.inj h).symm⟩
theorem gv_mem {gs : List (Addr × PR)} {v : V} (h : v ∈ gv gs) : ∃ g ∈ gs, v = .ref g.1 := by
  obtain ⟨g, hg, e⟩ := List.mem_map.mp h
  exact ⟨g, hg, e.symm⟩
theorem gv_sub {gs : List (Addr × PR)} : ∀ {xs : List V}, (∀ x ∈ xs, x ∈ gv gs) → ∃ hs, xs = gv hs ∧ ∀ h ∈ hs, h ∈ gs
  | [], _ => ⟨[], rfl, fun h hh => by cases hh⟩
  | x :: xs, h => by
    obtain ⟨g, hg, e⟩ := gv_mem (h x List.mem_cons_self)
    obtain ⟨hs, e2, s⟩ := gv_sub fun y hy => h y (List.mem_cons_of_mem _ hy)
    refine ⟨g :: hs, by rw [e, e2]; rfl, fun k hk => ?_⟩
    rcases List.mem_cons.mp hk with q | q
    · rw [q]
      exact hg
    · exact s k q
theorem erase_gv : ∀ (gs : List (Addr × PR)) (k : Nat), (gv gs).eraseIdx k = gv (gs.eraseIdx k)
  | [], k => by simp [gv]
  | g :: gs, 0 => rfl
  | g :: gs, k + 1 => by
    have ih := erase_gv gs k
    show V.ref g.1 :: (gv gs).eraseIdx k = V.ref g.1 :: gv (gs.eraseIdx k)
    rw [ih]
def pairs (gs : List (Addr × PR)) : List (Addr × PyData) := gs.map fun g => (g.1, encD g.2)
theorem Gd.tups {H : Hp} {gs : List (Addr × PR)} (g : Gd H gs) : Tups H (pairs gs) (gs.map (·.2)) := by
  refine ⟨by unfold pairs; rw [List.length_map, List.length_map], fun i x r e1 e2 => ?_⟩
  unfold pairs at e1
  rw [List.getElem?_map] at e1 e2
  cases e : gs[i]? with
  | none =>
    rw [e] at e1
    cases e1
  | some y =>
    rw [e] at e1 e2
    cases e1
    cases e2
    obtain ⟨h1, h2⟩ := g y (List.mem_of_getElem? e)
    exact ⟨h1, rfl, h2⟩
theorem gv_pairs (gs : List (Addr × PR)) : (pairs gs).map (fun x => V.ref x.1) = gv gs := by
  unfold pairs gv
  rw [List.map_map]
  rfl
theorem ds_pairs (gs : List (Addr × PR)) : (pairs gs).map (·.2) = (gs.map (·.2)).map encD := by
  unfold pairs
  rw [List.map_map, List.map_map]
  rfl
/-- a list of rows, as data -/
theorem Gd.dp {K : PySem.W.Frag} {H : Hp} {gs : List (Addr × PR)} {a : Addr} (g : Gd H gs) (h : H a = some (.lst (gv gs))) : Dp K H (.ref a) (.list ((gs.map (·.2)).map encD)) := by
  have d := dp_sorted (K := K) g.tups (L := pairs gs) fun x hx => hx
  rw [gv_pairs, ds_pairs] at d
  exact .lst (SqL.of h) d
theorem Gd.shaped {H : Hp} {gs : List (Addr × PR)} (g : Gd H gs) : SeqAt.shaped (.list ((gs.map (·.2)).map encD)) = true := by
  have d := shaped_sorted g.tups (L := pairs gs) fun x hx => hx
  rw [ds_pairs] at d
  exact d
theorem rows_nil (gs : List (Addr × PR)) : PyData.eqv (.list ((gs.map (·.2)).map encD)) (.list []) = decide (gs = []) := by
  show PyData.eqvAll ((gs.map (·.2)).map encD) [] = _
  rw [show ([] : List PyData) = ([] : List PR).map encD from rfl, eqvAll_enc, Bool.eq_iff_iff]
  simp
/-- each as often -/
theorem perm_of {rs ts : List PR} (hl : rs.length = ts.length) (hc : ∀ r ∈ rs, rs.count r = ts.count r) : rs.Perm ts := by
  have pf : (ts.filter fun t => decide (t ∈ rs)).Perm rs := by
    rw [List.perm_iff_count]
    intro a
    by_cases m : a ∈ rs
    · rw [List.count_filter (p := fun t => decide (t ∈ rs)) (by simpa using m), hc a m]
    · rw [List.count_eq_zero.mpr m, List.count_eq_zero.mpr]
      intro z
      exact m (of_decide_eq_true (List.mem_filter.mp z).2)
  have le : (ts.filter fun t => decide (t ∈ rs)).length = ts.length := by rw [pf.length_eq, hl]
  have ef : ts.filter (fun t => decide (t ∈ rs)) = ts := List.filter_eq_self.mpr (List.length_filter_eq_length_iff.mp le)
  rw [ef] at pf
  exact pf.symm
end K13
set_option Elab.async false
set_option linter.all false
set_option maxRecDepth 100000
set_option maxHeartbeats 4000000
namespace K13
open PySem PySem.Spec PyProof.Rows L2 Bb
/-- a record with one part of another -/
def mixR (n : Nat) (r t : PR) : PR := match n with
  | 0 => { r with x0 := t.x0 }
  | 1 => { r with x1 := t.x1 }
  | 2 => { r with x2 := t.x2 }
  | 3 => { r with x3 := t.x3 }
  | 4 => { r with x4 := t.x4 }
  | 5 => { r with x5 := t.x5 }
  | _ => { r with x6 := t.x6 }
theorem mixR_vs (r t : PR) {n : Nat} (h : n < 7) : ∃ v, t.vs[n]? = some v ∧ r.vs.take n ++ [v] ++ r.vs.drop (n + 1) = (mixR n r t).vs := by
  match n, h with
  | 0, _ => exact ⟨_, rfl, rfl⟩
  | 1, _ => exact ⟨_, rfl, rfl⟩
  | 2, _ => exact ⟨_, rfl, rfl⟩
  | 3, _ => exact ⟨_, rfl, rfl⟩
  | 4, _ => exact ⟨_, rfl, rfl⟩
  | 5, _ => exact ⟨_, rfl, rfl⟩
  | 6, _ => exact ⟨_, rfl, rfl⟩
  | n + 7, h => omega
theorem mixR_ok {r t : PR} (o1 : r.Ok) (o2 : t.Ok) {n : Nat} (h : n < 7) : (mixR n r t).Ok := by
  match n, h with
  | 0, _ => exact ⟨o2.o0, o1.o1, o1.o2, o1.o3, o1.o4, o1.o5, o1.o6⟩
  | 1, _ => exact ⟨o1.o0, o2.o1, o1.o2, o1.o3, o1.o4, o1.o5, o1.o6⟩
  | 2, _ => exact ⟨o1.o0, o1.o1, o2.o2, o1.o3, o1.o4, o1.o5, o1.o6⟩
  | 3, _ => exact ⟨o1.o0, o1.o1, o1.o2, o2.o3, o1.o4, o1.o5, o1.o6⟩
  | 4, _ => exact ⟨o1.o0, o1.o1, o1.o2, o1.o3, o2.o4, o1.o5, o1.o6⟩
  | 5, _ => exact ⟨o1.o0, o1.o1, o1.o2, o1.o3, o1.o4, o2.o5, o1.o6⟩
  | 6, _ => exact ⟨o1.o0, o1.o1, o1.o2, o1.o3, o1.o4, o1.o5, o2.o6⟩
  | n + 7, h => omega
end K13
set_option Elab.async false
set_option linter.all false
set_option maxRecDepth 100000
set_option maxHeartbeats 4000000
namespace K13
open PySem PySem.Spec PyProof.Rows L2 Bb
theorem at_nat {xs : List V} {n : Nat} {v : V} (h : xs[n]? = some v) : atI xs (n : Int) = some v := by
  have l := (List.getElem?_eq_some_iff.mp h).1
  unfold atI ixN
  simp [l]
  exact (List.getElem?_eq_some_iff.mp h).2
/-! rows of deeds, drawn -/
def spFeats : Sp := fun vs H Q _ => ∃ (p : Addr) (most : Nat), vs = [.ref p, .int (most : Int)] ∧ Pen H p ∧ most ≤ 40 ∧ ∀ q gs H', Kp p H H' → H q = none → H' q = some (.lst (gv gs)) → Gd H' gs → gs.length ≤ most → Q (.ref q) H'
def tOld : TS := fun D σ H => ∃ (p L R : Addr) (most : Nat) (gs : List (Addr × PR)) (r : PR) (v3 v5 v6 : Option V), σ = [some (.ref p), some (.int (most : Int)), some (.ref L), v3, some (.ref R), v5, v6] ∧ Pen H p ∧ H L = some (.lst (gv gs)) ∧ L ≠ p ∧ gs.length ≤ 100 ∧ Gd H gs ∧ H R = some (.tup r.vs) ∧ r.Ok ∧
  ∀ R' r' v5' v6' H', Kp p H H' → H' R' = some (.tup (PR.vs r')) → PR.Ok r' → D.nx [some (.ref p), some (.int (most : Int)), some (.ref L), v3, some (.ref R'), v5', v6'] H'
section
variable {P : Program} {w : World} {K : PySem.W.Frag} {mg : Str → Option Value} {base : Heap} {f : Addr} {fd : FuncData}
abbrev nFeats : List Str := ["_law_pen_here", "_law_most", "_law_rows", "_law_turn", "_law_row", "_law_old", "_law_at"]
theorem scFeats : FnScope nFeats ["_law_pen_here", "_law_most"] (defScope sFeats) := ⟨rfl, rfl, rfl, by decide +kernel, rfl, by decide +kernel, by decide +kernel⟩
theorem ok_feats {fW : Addr} {fdW : FuncData} (F : Fn K "_law_feats" "_law_feats" sFeats f fd) (h : Lw K mg) (FW : Fn K "_law_feat" "_law_feat" sFeat fW fdW) (gW : mg "_law_feat" = some (.ref fW)) : FnOk P w K mg base L2.CX0 5 f fd ["_law_pen_here", "_law_most"] spFeats := by
  have T := h.mk1.hl.fr
  obtain ⟨aP, dP, GP, gP, kP, bP⟩ := h.mk1.hl.pk (P := P) (w := w) (base := base)
  obtain ⟨aD, dD, GD, gD, kD, bD⟩ := h.mk1.hl.dr (P := P) (w := w) (base := base)
  have GW : FnOk P w K mg base L2.CX0 4 fW fdW ["_law_pen_here"] spWho := ok_who FW h
  have bW : Binds K fdW ["_law_pen_here"] [] := FW.bindsN fun _ _ _ _ _ _ us hl => match us, hl with | [_], _ => rfl
  refine F.ok scFeats (fun vs H Q E h => ?_) (fun cdv A outer s H vs Q E hr hh => ?_)
  · obtain ⟨p, most, rfl, _⟩ := h
    rfl
  · obtain ⟨p, most, rfl, pn, hm, q⟩ := hh
    let X := (cxOf L2.CX0 P w K mg base nFeats "_law_feats" (defScope sFeats) f cdv A outer s H E).nox
    have hu : X.A.units + 64 < cLine := hr.units
    have hr1 : Room 1 X.A := hr.mono (by decide)
    have hr2 : Room 2 X.A := hr.mono (by decide)
    have hr4 : Room 4 X.A := hr.mono (by decide)
    refine' ⟨_, PSs.nox ?d, ?r⟩
    case d =>
      refine' pss_cons (ps_set (i := 2) scFeats.nd rfl (.inl rfl) (pe_lst pa_nil))
        (pss_cons (ps_for PassesOwn.never rfl (pi_range1 rfl T.rng_ (pa_cons (pe_call GD hr1 rfl gD kD bD .nil pass0 (pa_cons (pv 0) (pa_cons (pe_op op_add (pv 1) pe_int) pa_nil))) pa_nil)) (pg_name (i := 3) scFeats.nd rfl (Or.inl rfl))
          (pss_cons (ps_set (i := 4) scFeats.nd rfl (.inl rfl) (pe_call GW hr4 rfl gW FW.kp bW .nil pass0 (pa_cons (pv 0) pa_nil)))
          (pss_cons (psBy (t' := tOld) (ps_if (PW.pt (pw_and (pt_cmpR (op_neD hu) (pv 2) (pe_lst pa_nil) (nomark _)) (pw_and1 (pt_cmpR op_eq (pe_call GD hr1 rfl gD kD bD .nil pass0 (pa_cons (pv 0) (pa_cons pe_int pa_nil))) pe_int (nomark _)))))
            (pss_cons (ps_par (i := 5) (j := 6) rfl scFeats.nd rfl rfl (by decide) rfl rfl (pa_cons (pe_call GP hr2 rfl gP kP bP .nil pass0 (pa_cons (pv 0) (pa_cons (pv 2) pa_nil))) (pa_cons (pe_call GD hr1 rfl gD kD bD .nil pass0 (pa_cons (pv 0) (pa_cons pe_int pa_nil))) pa_nil)) ?sw)
              (pss_one (ps_set (i := 4) scFeats.nd rfl (.inl rfl) (pe_ifExp (pt_cmpR op_eq (pv 6) pe_int (nomark _)) (pv 5) (pe_op op_catC (pe_op op_catC (pe_slice sl_tupC (pv 5) po_none (po_some (pv 6))) (pe_tup (pa_cons (pe_ix ix_tup (pv 4) (pv 6) (fun _ _ => rfl)) pa_nil))) (pe_slice sl_tupC (pv 5) (po_some (pe_op op_add (pv 6) pe_int)) po_none))))))
            pss_nil) ?w1)
          (pss_one (ps_expr (pe_bm PySem.F.plainAttrs_list PySem.F.slot_list_append PySem.F.type_list_append mt_append (pv 2) (pa_cons (pv 4) pa_nil)))))))
        (pss_one (ps_ret (pv 2))))
      case sw => rfl
      case w1 =>
        rintro D σ H ⟨p, L, R, most, gs, r, v3, v5, v6, rfl, pn, hL, nLp, lg, gd, hR, ok, nx⟩
        refine ⟨_, rfl, Nat.zero_le _, fun e he => ?_⟩
        have u1 := up2 (o := .lst []) he
        have gd1 := gd.same u1
        have pn1 := pen_same pn u1
        refine ⟨_, _, gd1.dp (u1 _ _ hL), .lst (SqL.of upd_same) .nil, gd.shaped, by decide, _, rfl, ?_⟩
        rw [rows_nil]
        obtain ⟨H1, eH1⟩ : ∃ G, G = upd H e (.lst []) := ⟨_, rfl⟩
        rw [← eH1] at u1 gd1 pn1 ⊢
        refine ite2 (fun c => ?_) (fun c => ?_)
        · have ne : gs ≠ [] := by
            rintro rfl
            cases c
          have pos : 0 < gs.length := List.length_pos_iff.mpr ne
          refine ⟨_, rfl, p, 3, rfl, pn1, ⟨by decide, by decide⟩, fun e1 H2 a1 b1 k2 => ⟨rfl, _, rfl, ?_⟩⟩
          have K2 := (Kp.of pn u1).trans k2
          refine ite2 (fun c2 => ?_) (fun c2 => ?_)
          · have hL2 := K2.keep _ _ hL nLp
            refine ⟨_, rfl, _, rfl, p, L, _, rfl, K2.pen, hL2, nLp, ⟨by rw [gv_len]; exact pos, by rw [gv_len]; omega⟩, fun v H3 hv k3 => ?_⟩
            obtain ⟨g, hg, rfl⟩ := gv_mem hv
            have K3 := K2.trans k3
            refine ⟨_, rfl, p, 8, rfl, K3.pen, ⟨by decide, by decide⟩, fun n H4 n0 n8 k4 => ⟨_, _, rfl, ?_⟩⟩
            have K4 := K3.trans k4
            obtain ⟨n, rfl⟩ : ∃ j : Nat, n = (j : Int) := ⟨n.toNat, by omega⟩
            have gd4 := gd.kp pn K4
            obtain ⟨hg4, okg⟩ := gd4 g hg
            have hR4 := K4.keep _ _ hR (pen_ne pn hR (fun _ _ z => by cases z))
            refine ⟨_, rfl, rfl, _, rfl, ?_⟩
            refine ite2 (fun c3 => ?_) (fun c3 => ?_)
            · exact ⟨_, rfl, nx g.1 g.2 _ _ H4 K4 hg4 okg⟩
            · have n7 : n < 7 := by
                have z : ¬ (n : Int) = 7 := fun z => c3 (by rw [z]; exact decide_eq_true rfl)
                omega
              obtain ⟨v, ev, em⟩ := mixR_vs g.2 r n7
              refine ⟨_, rfl, _, rfl, _, rfl, g.1, _, rfl, hg4, fun T1 H5 s5 hT1 m1 => ?_⟩
              rw [cut_to] at hT1
              refine ⟨_, rfl, _, rfl, R, _, (n : Int), v, rfl, rfl, SqT.of (s5 _ _ hR4), at_nat ev, (by show 1 ≤ sizeLine; decide), fun T2 hT2 => ?_⟩
              have s6 := up2 (o := .tup [v]) hT2
              have lv : g.2.vs.length = 7 := rfl
              refine ⟨T1, T2, _, _, rfl, rfl, s6 _ _ hT1, upd_same, Nat.le_of_lt (small1000 (by rw [List.length_take]; show _ + 1 ≤ 1000; omega)), fun T3 H7 s7 hT3 m3 => ?_⟩
              have s57 := s5.trans (s6.trans s7)
              refine ⟨_, rfl, _, rfl, _, _, rfl, rfl, _, rfl, g.1, _, rfl, s57 _ _ hg4, fun T4 H8 s8 hT4 m4 => ?_⟩
              rw [show (some ((n : Int) + 1)) = some ((n + 1 : Nat) : Int) from rfl, cut_from] at hT4
              refine ⟨T3, T4, _, _, rfl, rfl, s8 _ _ hT3, hT4, Nat.le_of_lt (small1000 (by rw [List.length_append, List.length_take, List.length_drop, List.length_singleton]; omega)), fun T5 H9 s9 hT5 m5 => ?_⟩
              rw [em] at hT5
              exact nx T5 (mixR n g.2 r) _ _ H9 (K4.same (s57.trans (s8.trans s9))) hT5 (mixR_ok okg ok n7)
          · exact nx R r _ _ H2 K2 (K2.keep _ _ hR (pen_ne pn hR (fun _ _ z => by cases z))) ok
        · exact nx R r _ _ H1 (Kp.of pn u1) (u1 _ _ hR) ok
    case r =>
      refine ⟨Nat.zero_le _, fun L hL => ?_⟩
      have u1 := up2 (o := .lst []) hL
      have nLp : L ≠ p := by
        rintro rfl
        exact pen_old pn hL
      have kp1 := Kp.of pn u1
      refine ⟨_, rfl, _, rfl, _, _, rfl, rfl, p, _, rfl, kp1.pen, ⟨by omega, by omega⟩, fun m H2 m0 m1 k2 => ?_⟩
      have kp2 := kp1.trans k2
      have hL2 := k2.keep L _ upd_same nLp
      obtain ⟨m, rfl⟩ : ∃ j : Nat, m = (j : Int) := ⟨m.toNat, by omega⟩
      refine ⟨_, rfl, by omega, by omega, for_range (lo := 0) (n := m) (fun i σ H' => ∃ (v3 v4 v5 v6 : Option V) (gs : List (Addr × PR)), σ = [some (.ref p), some (.int (most : Int)), some (.ref L), v3, v4, v5, v6] ∧ Kp p H H' ∧ H' L = some (.lst (gv gs)) ∧ Gd H' gs ∧ gs.length = i)
        ⟨_, _, _, _, [], rfl, kp2, hL2, fun x hx => (by cases hx), rfl⟩ ?_ ?_⟩
      · rintro i σ H3 hi ⟨v3, v4, v5, v6, gs, rfl, kp3, hL3, gd3, len⟩
        refine ⟨_, rfl, p, rfl, kp3.pen, fun R r H4 k4 nR hR ok => ?_⟩
        have kp4 := kp3.trans k4
        refine ⟨p, L, R, most, gs, r, _, _, _, rfl, k4.pen, k4.keep _ _ hL3 nLp, nLp, by omega, gd3.kp kp3.pen k4, hR, ok, fun R' r' v5' v6' H5 k5 hR' ok' => ?_⟩
        have kp5 := kp4.trans k5
        have gd5 := (gd3.kp kp3.pen k4).kp k4.pen k5
        have hL5 := (k4.trans k5).keep _ _ hL3 nLp
        refine ⟨_, rfl, .inl ⟨rfl, _, SqL.of hL5⟩, _, rfl, L, _, _, rfl, rfl, hL5, small1000 (by rw [gv_len]; omega), ?_⟩
        refine ⟨_, _, _, _, gs ++ [(R', r')], rfl, ⟨fun b o eb nb => ?_, ?_⟩, ?_, (gd5.app (Gd.one hR' ok')).upd hL5, by rw [List.length_append, len]; rfl⟩
        · rw [upd_ne (ne_of_none eb hL)]
          exact kp5.keep _ _ eb nb
        · obtain ⟨x, f', ex⟩ := kp5.pen
          exact ⟨x, f', by rw [upd_ne (Ne.symm nLp)]; exact ex⟩
        · rw [upd_same]
          unfold gv
          rw [List.map_append]
          rfl
      · rintro σ H3 ⟨v3, v4, v5, v6, gs, rfl, kp3, hL3, gd3, len⟩
        exact ⟨_, rfl, q L gs H3 kp3 hL hL3 gd3 (by omega)⟩
end
end K13
set_option Elab.async false
set_option linter.all false
set_option maxRecDepth 100000
set_option maxHeartbeats 2000000
namespace Bb
open PySem PySem.SeqAt PySem.Spec PyProof.Rows L2
open TL
/-! texts of plain signs (tab, line feed, 32 to 126): shown, cut, split, joined; texts that write numbers -/
def okC9 (c : Nat) : Prop := c = 9 ∨ okC c
def okT9 (z : Str) : Prop := ∀ c ∈ tl z, okC9 c
theorem okT.t9 {z : Str} (h : okT z) : okT9 z := fun c hc => .inr (h c hc)
theorem rp9 {q c : Nat} (h : okC9 c) : (Builtin.Str.reprChar q c).length ≤ 2 := by
  rcases h with rfl | h
  · unfold Builtin.Str.reprChar
    dsimp only
    split
    · exact Nat.le_refl _
    · first | exact Nat.le_refl _ | (simp; done) | (split <;> first | exact Nat.le_refl _ | simp)
  · exact (rp_char h).2
theorem repr9 {x : Str} (h : okT9 x) : (reprText x).length ≤ 2 * x.length + 2 := by
  rw [len_tl, tl_repr, List.length_cons, List.length_append, List.length_singleton]
  have z := flat_le (l := tl x) (f := Builtin.Str.reprChar (reprQuote x)) fun c hc => rp9 (h c hc)
  rw [← len_tl] at z
  omega
theorem okC9.lt {c : Nat} (h : okC9 c) : c < 0x110000 := by
  rcases h with rfl | rfl | h
  · decide
  · decide
  · omega
theorem lay9 {z : Str} (h : okT9 z) : PyData.canLay0 (.str z) = true := by
  show z.cps.all (· < 0x110000) = true
  rw [← Array.all_toList]
  exact List.all_eq_true.mpr fun c hc => decide_eq_true (h c hc).lt
theorem okT9.app {x y : Str} (hx : okT9 x) (hy : okT9 y) : okT9 (x ++ y) := fun c hc => by
  rw [tl_append] at hc
  rcases List.mem_append.mp hc with h | h
  · exact hx c h
  · exact hy c h
theorem tl_cut {z : Str} {lo hi : Option Int} : ∀ c ∈ tl (cutS z lo hi), c ∈ tl z := fun c hc => by
  have e : tl (cutS z lo hi) = (z.cps.toList.drop (HT.sIx z.length 0 lo)).take (HT.sIx z.length z.length hi - HT.sIx z.length 0 lo) := rfl
  rw [e] at hc
  exact List.mem_of_mem_drop (List.mem_of_mem_take hc)
theorem okT9.cut {z : Str} (h : okT9 z) (lo hi : Option Int) : okT9 (cutS z lo hi) := fun c hc => h c (tl_cut c hc)
/-- a text of such signs, so long at most -/
def TX (n : Nat) (z : Str) : Prop := okT9 z ∧ z.length ≤ n
theorem TX.le {n m : Nat} {z : Str} (h : TX n z) (l : n ≤ m) : TX m z := ⟨h.1, Nat.le_trans h.2 l⟩
theorem TX.app {n m : Nat} {x y : Str} (hx : TX n x) (hy : TX m y) : TX (n + m) (x ++ y) := ⟨hx.1.app hy.1, by
  rw [strLen_append]
  exact Nat.add_le_add hx.2 hy.2⟩
theorem TX.cut {n : Nat} {z : Str} (h : TX n z) (lo hi : Option Int) : TX n (cutS z lo hi) := ⟨h.1.cut lo hi, Nat.le_trans (cutS_length z lo hi) h.2⟩
theorem tx_lit {x : Str} {n : Nat} (h : (tl x).all (fun c => decide (c = 9) || decide (okC c)) = true) (l : x.length ≤ n) : TX n x := ⟨fun c hc => by
  have z := List.all_eq_true.mp h c hc
  rw [Bool.or_eq_true] at z
  rcases z with z | z
  · exact .inl (of_decide_eq_true z)
  · exact .inr (of_decide_eq_true z), l⟩
/-! split at one sign -/
theorem pre1 {s c : Nat} {r : List Nat} : pre [s] (c :: r) = decide (c = s) := by
  show ([c] == [s]) = decide (c = s)
  by_cases e : c = s
  · subst e
    simp
  · rw [decide_eq_false e]
    simpa using e
theorem spl_one {s : Nat} : ∀ (l acc : List Nat), ((spl [s] 0 acc l).map (·.length)).sum + (spl [s] 0 acc l).length = acc.length + l.length + 1 ∧ ∀ p ∈ spl [s] 0 acc l, ∀ c ∈ p, c ∈ acc ∨ c ∈ l
  | [], acc => by
    rw [spl_nil]
    refine ⟨by simp, fun p hp c hc => ?_⟩
    rw [List.mem_singleton.mp hp] at hc
    exact .inl hc
  | c :: r, acc => by
    by_cases e : c = s
    · rw [spl_hit (by rw [pre1, decide_eq_true e])]
      obtain ⟨h1, h2⟩ := spl_one (s := s) r []
      have e0 : [s].length - 1 = 0 := rfl
      rw [e0]
      refine ⟨?_, fun p hp c' hc => ?_⟩
      · rw [List.map_cons, List.sum_cons, List.length_cons, List.length_cons]
        have z : ([] : List Nat).length = 0 := rfl
        omega
      · rcases List.mem_cons.mp hp with rfl | hp
        · exact .inl hc
        · rcases h2 p hp c' hc with z | z
          · cases z
          · exact .inr (List.mem_cons_of_mem _ z)
    · rw [spl_miss (by rw [pre1, decide_eq_false e])]
      obtain ⟨h1, h2⟩ := spl_one (s := s) r (acc ++ [c])
      refine ⟨?_, fun p hp c' hc => ?_⟩
      · rw [List.length_append, List.length_singleton] at h1
        rw [List.length_cons]
        omega
      · rcases h2 p hp c' hc with z | z
        · rcases List.mem_append.mp z with z | z
          · exact .inl z
          · rw [List.mem_singleton.mp z]
            exact .inr List.mem_cons_self
        · exact .inr (List.mem_cons_of_mem _ z)
theorem split_one {x y : Str} {s : Nat} (hy : tl y = [s]) (hs : s < 256) : (((Txt.split x y).map (·.length)).sum + (Txt.split x y).length = x.length + 1) ∧ ∀ p ∈ Txt.split x y, ∀ c ∈ tl p, c ∈ tl x := by
  have e := split_spl x y (by rw [hy]; exact List.cons_ne_nil _ _) (kind_ok (by
    rw [← Array.all_toList]
    have z : y.cps.toList = [s] := hy
    rw [z]
    simpa using hs))
  rw [hy] at e
  obtain ⟨h1, h2⟩ := spl_one (s := s) (tl x) []
  rw [← e] at h1 h2
  refine ⟨?_, fun p hp c hc => ?_⟩
  · rw [List.map_map, List.length_map] at h1
    have e2 : (Txt.split x y).map ((fun l : List Nat => l.length) ∘ tl) = (Txt.split x y).map (·.length) := List.map_congr_left fun p _ => (len_tl p).symm
    rw [e2, ← len_tl x] at h1
    have z : ([] : List Nat).length = 0 := rfl
    omega
  · rcases h2 (tl p) (List.mem_map.mpr ⟨p, hp, rfl⟩) c hc with z | z
    · cases z
    · exact z
theorem mem_sum {l : List Nat} {n : Nat} (h : n ∈ l) : n ≤ l.sum := by
  induction l with
  | nil => cases h
  | cons a l ih =>
    rw [List.sum_cons]
    rcases List.mem_cons.mp h with rfl | h
    · omega
    · have := ih h
      omega
theorem TX.split {n : Nat} {x y : Str} {s : Nat} (h : TX n x) (hy : tl y = [s]) (hs : s < 256) : (∀ p ∈ Txt.split x y, TX n p) ∧ ((Txt.split x y).map (·.length)).sum + (Txt.split x y).length ≤ n + 1 := by
  obtain ⟨h1, h2⟩ := split_one (x := x) hy hs
  have hn := h.2
  refine ⟨fun p hp => ⟨fun c hc => h.1 c (h2 p hp c hc), ?_⟩, by omega⟩
  have z := mem_sum (List.mem_map.mpr ⟨p, hp, rfl⟩ : p.length ∈ (Txt.split x y).map (·.length))
  have q : 0 < (Txt.split x y).length := List.length_pos_iff.mpr (List.ne_nil_of_mem hp)
  omega
theorem join_le (sep : Str) : ∀ ts : List Str, (Str.join sep ts).length ≤ (ts.map (·.length)).sum + ts.length * sep.length
  | [] => Nat.zero_le _
  | [x] => by
    show x.length ≤ x.length + 0 + 1 * sep.length
    omega
  | x :: y :: r => by
    have ih := join_le sep (y :: r)
    show (x ++ sep ++ Str.join sep (y :: r)).length ≤ _
    simp only [strLen_append]
    rw [List.map_cons, List.sum_cons, List.length_cons, Nat.add_mul, Nat.one_mul]
    omega
theorem join9 {sep : Str} (hs : okT9 sep) : ∀ {ts : List Str}, (∀ t ∈ ts, okT9 t) → okT9 (Str.join sep ts)
  | [], _ => fun c hc => by cases hc
  | [x], h => h x List.mem_cons_self
  | x :: y :: r, h => by
    show okT9 (x ++ sep ++ Str.join sep (y :: r))
    exact ((h x List.mem_cons_self).app hs).app (join9 hs fun t ht => h t (List.mem_cons_of_mem _ ht))
theorem tx_join {sep : Str} {ts : List Str} {n : Nat} (hs : TX 1 sep) (h : ∀ t ∈ ts, okT9 t) (l : (ts.map (·.length)).sum + ts.length ≤ n) : TX n (Txt.join sep ts) := by
  rw [join_eq]
  refine ⟨join9 hs.1 h, ?_⟩
  have z := join_le sep ts
  have q : ts.length * sep.length ≤ ts.length * 1 := Nat.mul_le_mul_left _ hs.2
  omega
/-! texts that write numbers -/
def digC (c : Nat) : Bool := decide (48 ≤ c) && decide (c ≤ 57)
def figW (z : Str) : List Nat := if (tl z).head? = some 45 then (tl z).drop 1 else tl z
def isNumW (z : Str) : Bool := (decide (1 ≤ (figW z).length) && decide ((figW z).length ≤ 7)) && ((figW z).all digC && (!decide ((figW z).head? = some 48) || decide (z = "0")))
def intW (z : Str) : Int := (intText? z).getD 0
theorem pre_head (l : List Nat) : (l.take 1 == [45]) = decide (l.head? = some 45) := by
  cases l with
  | nil => rfl
  | cons a l =>
    show ([a] == [45]) = decide (some a = some 45)
    by_cases e : a = 45
    · subst e
      rfl
    · rw [decide_eq_false (fun z => e (Option.some.inj z))]
      simpa using e
theorem tl_prefix (z : Str) : tl (Txt.removeprefix z "-") = figW z := by
  have d1 : (Str.ofString "-").length = 1 := by decide +kernel
  have d2 : (Str.ofString "-").cps.toList = [45] := by decide +kernel
  rw [StrLaws.removeprefix_eq, StrLaws.subAt_eq, d1, d2, List.drop_zero]
  unfold figW
  have ez : z.cps.toList = tl z := rfl
  rw [ez, pre_head, len_tl z]
  by_cases c : (tl z).head? = some 45
  · have l : 0 + 1 ≤ (tl z).length := by
      cases e : tl z with
      | nil =>
        rw [e] at c
        cases c
      | cons a l => simp
    rw [if_pos c, decide_eq_true c, decide_eq_true l, Bool.and_self, if_pos rfl, tl_mk]
    exact List.take_of_length_le (by rw [List.length_drop]; omega)
  · rw [if_neg c, decide_eq_false c, Bool.and_false, if_neg Bool.false_ne_true]
theorem val_lt : ∀ (cs : List Nat) (a : Nat), NumText.AllDigits cs → cs.foldl (fun acc c => acc * 10 + (c - 48)) a < (a + 1) * 10 ^ cs.length
  | [], a, _ => by
    show a < (a + 1) * 1
    omega
  | c :: cs, a, h => by
    have ih := val_lt cs (a * 10 + (c - 48)) h.tail
    have hc := h.head
    show cs.foldl _ (a * 10 + (c - 48)) < (a + 1) * 10 ^ (cs.length + 1)
    have e : (a * 10 + (c - 48) + 1) * 10 ^ cs.length ≤ ((a + 1) * 10) * 10 ^ cs.length := Nat.mul_le_mul_right _ (by omega)
    rw [Nat.pow_succ, Nat.mul_comm (10 ^ cs.length) 10, ← Nat.mul_assoc]
    omega
theorem num_int {z : Str} (h : isNumW z = true) : intText? z = some (intW z) ∧ (intW z).natAbs < 10 ^ 7 ∧ z.length ≤ 8 := by
  unfold isNumW at h
  obtain ⟨h1, h2⟩ := Bool.and_eq_true_iff.mp h
  obtain ⟨a1, a2⟩ := Bool.and_eq_true_iff.mp h1
  obtain ⟨b1, b2⟩ := Bool.and_eq_true_iff.mp h2
  have l1 := of_decide_eq_true a1
  have l2 := of_decide_eq_true a2
  have ds : NumText.AllDigits (figW z) := fun c hc => by
    have q := List.all_eq_true.mp b1 c hc
    obtain ⟨q1, q2⟩ := Bool.and_eq_true_iff.mp q
    exact ⟨of_decide_eq_true q1, of_decide_eq_true q2⟩
  have ne : figW z ≠ [] := fun e => by
    rw [e] at l1
    cases l1
  have v := val_lt (figW z) 0 ds
  have p7 : 10 ^ (figW z).length ≤ 10 ^ 7 := Nat.pow_le_pow_right (by decide) l2
  have vl : NumText.digitsVal (figW z) < 10 ^ 7 := by
    have e : NumText.digitsVal (figW z) = (figW z).foldl (fun acc c => acc * 10 + (c - 48)) 0 := rfl
    omega
  unfold figW at l1 l2 ds ne vl
  by_cases c : (tl z).head? = some 45
  · rw [if_pos c] at l1 l2 ds ne vl
    obtain ⟨cs, ecs⟩ : ∃ cs, tl z = 45 :: cs := by
      cases e : tl z with
      | nil =>
        rw [e] at c
        cases c
      | cons a l =>
        rw [e] at c
        exact ⟨l, by rw [Option.some.inj c]⟩
    rw [ecs] at l1 l2 ds ne vl
    have lz : z.length ≤ 8 := by
      rw [len_tl, ecs]
      have q : cs.length ≤ 7 := l2
      rw [List.length_cons]
      omega
    have e := PySem.intText_neg (x := z) ecs ds ne (by omega)
    have ei : intW z = -((NumText.digitsVal cs : Nat) : Int) := by
      unfold intW
      rw [e]
      rfl
    refine ⟨by rw [ei]; exact e, ?_, lz⟩
    rw [ei]
    have q : NumText.digitsVal cs < 10 ^ 7 := vl
    omega
  · rw [if_neg c] at l1 l2 ds ne vl
    have lz : z.length ≤ 8 := by
      rw [len_tl]
      omega
    have e := PySem.intText_digits (x := z) ds ne (by omega)
    have ei : intW z = ((NumText.digitsVal (tl z) : Nat) : Int) := by
      unfold intW
      rw [e]
      rfl
    refine ⟨by rw [ei]; exact e, ?_, lz⟩
    rw [ei]
    omega
/-! text * int -/
def rMulS : R2 := fun x y H Q => ∃ (z : Str) (n : Nat), x = .str z ∧ y = .int (n : Int) ∧ 2 ≤ n ∧ n ≤ 100 ∧ 0 < z.length ∧ z.length ≤ 1000 ∧ Q (.str ⟨(List.replicate n z.cps).foldl (· ++ ·) #[]⟩) H
theorem fold_size (a : Array Nat) : ∀ (n : Nat) (b : Array Nat), ((List.replicate n a).foldl (· ++ ·) b).size = b.size + n * a.size
  | 0, b => by
    show b.size = _
    omega
  | n + 1, b => by
    rw [List.replicate_succ, List.foldl_cons, fold_size a n, Array.size_append, Nat.add_mul, Nat.one_mul]
    omega
theorem fold_mem (a : Array Nat) {c : Nat} : ∀ (n : Nat) (b : Array Nat), c ∈ ((List.replicate n a).foldl (· ++ ·) b).toList → c ∈ b.toList ∨ c ∈ a.toList
  | 0, b, h => .inl h
  | n + 1, b, h => by
    rw [List.replicate_succ, List.foldl_cons] at h
    rcases fold_mem a n _ h with h | h
    · rw [Array.toList_append] at h
      exact List.mem_append.mp h
    · exact .inr h
theorem op_mulS {X : Cx} : OpR X (binaryOp .Mult) rMulS := by
  intro pins s σ H x y v u Q I rx ry h
  obtain ⟨z, n, rfl, rfl, h2, h100, p0, l, q⟩ := h
  obtain ⟨t, rfl⟩ := rx
  obtain ⟨t', rfl⟩ := ry
  refine PySem.P.mul_str (x := z) (n := (n : Int)) ?_ (fun _ _ => ?_) (fun _ _ => ?_) ?_
  · rw [decide_eq_false (by omega), decide_eq_false (by omega)]
    rfl
  · have b : (1000 : Int) ≤ (2 ^ 63 - 1) / (n : Int) := Int.le_ediv_of_mul_le (by omega) (by omega)
    omega
  · have m : z.length * (n : Int).toNat ≤ 1000 * 100 := Nat.mul_le_mul l (by omega)
    have sz := sizeLine_eq
    exact decide_eq_false (by omega)
  · rw [if_neg (by omega), if_neg (by
      intro e
      rw [Bool.or_eq_true, beq_iff_eq, beq_iff_eq] at e
      omega)]
    refine ⟨?_, ⟨.str ⟨(List.replicate n z.cps).foldl (· ++ ·) #[]⟩, H, I.tok _, ⟨_, rfl⟩, q⟩⟩
    have m : n * z.cps.size ≤ 100 * 1000 := Nat.mul_le_mul h100 l
    have sz := sizeLine_eq
    show ((List.replicate (n : Int).toNat z.cps).foldl (· ++ ·) #[]).size ≤ sizeLine
    rw [fold_size]
    show 0 + n * z.cps.size ≤ sizeLine
    omega
end Bb
set_option Elab.async false
set_option linter.all false
set_option maxRecDepth 100000
set_option maxHeartbeats 4000000
namespace K13
open PySem PySem.Spec PyProof.Rows L2 Bb
/-! any text: what writes a number, a deed -/
def rIntS : List V → Hp → VK → Prop := fun xs H Q => ∃ a n, xs = [.str a] ∧ PySem.intText? a = some n ∧ a.length ≤ 640 ∧ Q (.int n) H
theorem call_intS {X : Cx} : CallR X (.type "int") rIntS := call_int_str
/-- the deed that a line writes -/
def rowW (a b c d e f g : Str) : PR := ⟨a, b, intW c, intW d, intW e, intW f, g⟩
def lineR (t : Str) : Option PR := match Txt.split t " " with
  | [a, b, c, d, e, f, g] => if ((isNumW c && (isNumW d && (isNumW e && isNumW f))) && okds (rowW a b c d e f g).ds) = true then some (rowW a b c d e f g) else none
  | _ => none
theorem lineR_no {t : Str} (h : (Txt.split t " ").length ≠ 7) : lineR t = none := by
  unfold lineR
  split
  · rename_i e
    rw [e] at h
    exact absurd rfl h
  · rfl
theorem lineR_at {t a b c d e f g : Str} (h : Txt.split t " " = [a, b, c, d, e, f, g]) : lineR t = if ((isNumW c && (isNumW d && (isNumW e && isNumW f))) && okds (rowW a b c d e f g).ds) = true then some (rowW a b c d e f g) else none := by
  unfold lineR
  rw [h]
theorem seven {zs : List Str} (h : zs.length = 7) : ∃ a b c d e f g, zs = [a, b, c, d, e, f, g] := by
  match zs, h with
  | [a, b, c, d, e, f, g], _ => exact ⟨a, b, c, d, e, f, g, rfl⟩
theorem lineR_ok {t : Str} {r : PR} (h : lineR t = some r) : r.Ok := by
  by_cases l : (Txt.split t " ").length = 7
  · obtain ⟨a, b, c, d, e, f, g, ez⟩ := seven l
    rw [lineR_at ez] at h
    split at h
    · rename_i y
      obtain ⟨_, y2⟩ := Bool.and_eq_true_iff.mp y
      obtain ⟨q, eq, oq⟩ := okds_ex y2
      rw [← Option.some.inj h, ds_inj eq]
      exact oq
    · cases h
  · rw [lineR_no l] at h
    cases h
theorem sp1 : TL.tl (" " : Str) = [32] := by decide +kernel
theorem nl1 : TL.tl ("\n" : Str) = [10] := by decide +kernel
theorem dig_in (c : Nat) : decide (c ∈ (Str.ofString "0123456789").cps.toList) = digC c := by
  have e : (Str.ofString "0123456789").cps.toList = [48, 49, 50, 51, 52, 53, 54, 55, 56, 57] := by decide +kernel
  rw [e]
  unfold digC
  rw [Bool.eq_iff_iff, Bool.and_eq_true, decide_eq_true_iff, decide_eq_true_iff, decide_eq_true_iff]
  simp only [List.mem_cons, List.not_mem_nil, or_false]
  omega
theorem numW_at {x : Str} {c : Nat} {l : List Nat} (ec : figW x = c :: l) (lead : (decide (1 ≤ (figW x).length) && decide ((figW x).length ≤ 7)) = true) (ha : (figW x).all digC = true) : isNumW x = (!decide (c = 48) || decide (x = "0")) := by
  unfold isNumW
  rw [lead, ha, ec]
  simp only [List.head?_cons, Option.some.injEq, Bool.true_and]
def spWrites : Sp := fun vs H Q _ => ∃ z : Str, vs = [.str z] ∧ z.length ≤ 100000 ∧ ∀ H', Same H H' → Q (.bl (isNumW z)) H'
def spDeedOf (C : Addr) : Sp := fun vs H Q _ => ∃ t : Str, vs = [.str t] ∧ TX 100000 t ∧ (∀ r, lineR t = some r → ∀ x H', H x = none → Same H H' → At C H' x r → Q (.ref x) H') ∧ (lineR t = none → ∀ H', Same H H' → Q .non H')
section
variable {P : Program} {w : World} {K : PySem.W.Frag} {mg : Str → Option Value} {base : Heap} {f : Addr} {fd : FuncData}
abbrev nWN : List Str := ["word", "figures", "sign"]
theorem scWN : FnScope nWN ["word"] (defScope sWrites) := ⟨rfl, rfl, rfl, by decide +kernel, rfl, by decide +kernel, by decide +kernel⟩
theorem ok_writes (F : Fn K "writes_number" "writes_number" sWrites f fd) (T : Free mg) (C : Cons mg) : FnOk P w K mg base L2.CX0 1 f fd ["word"] spWrites := by
  refine F.ok scWN (fun vs H Q E h => ?_) (fun cdv A outer s H vs Q E hr hh => ?_)
  · obtain ⟨z, rfl, _⟩ := h
    rfl
  · obtain ⟨x, rfl, lx, q⟩ := hh
    refine ⟨_, PSs.nox (pss_cons (ps_set (i := 1) scWN.nd rfl (.inl rfl) (pe_bm PySem.F.plainAttrs_str PySem.F.slot_str_removeprefix PySem.F.type_str_removeprefix mt_removeprefix (pv 0) (pa_cons pe_str pa_nil)))
      (pss_cons (ps_if (PW.pt (pw_or (pt_not (pt_chain op_le op_le pe_int (pe_callB call_len_str rfl T.len_ boot_len (pa_cons (pv 1) pa_nil)) (pe_k C.mfig rfl))) (pw_or1 (pt_not (pt_val (pe_callB (cr_all rfl) rfl T.all_ (by decide +kernel) (pa_cons (pe_lc (own := [("sign", 2)]) (g := gName 2) (tt := tYes) rfl scWN.nd (pi_str (pv 1)) (blkOk_by (N := nWN) (sc := defScope sWrites) (by decide +kernel)) (fun _ _ _ _ _ => pg_name (i := 2) scWN.nd rfl (Or.inl rfl)) (fun _ _ _ _ _ => pts_nil)
        (fun _ _ _ _ _ => pe_cmpR op_in_sign (pv 2) (pe_kS C.figs rfl) rfl)) pa_nil))))))) (pss_one (ps_ret pe_bl)) pss_nil)
      (pss_one (ps_ret (pe_or (pe_cmpR op_ne (pe_ix ix_str (pv 1) pe_int (fun _ _ => rfl)) pe_str (nomark _)) (pe_one (pe_cmpR op_eq (pv 0) pe_str (nomark _)))))))), ?_⟩
    have sz := sizeLine_eq
    obtain ⟨z, ez⟩ : ∃ z, z = Txt.removeprefix x "-" := ⟨_, rfl⟩
    have ef : TL.tl z = figW x := by rw [ez, tl_prefix]
    have lz : z.length = (figW x).length := by rw [TL.len_tl, ef]
    have lf : (figW x).length ≤ 100000 := by
      unfold figW
      split
      · rw [List.length_drop, ← TL.len_tl]
        omega
      · rw [← TL.len_tl]
        exact lx
    refine ⟨_, rfl, rfl, _, _, rfl, rfl, by omega, ?_⟩
    rw [← ez]
    refine ⟨_, rfl, z, rfl, by omega, _, _, rfl, rfl, _, rfl, ?_⟩
    have no1 : ¬ (1 ≤ (figW x).length ∧ (figW x).length ≤ 7) → isNumW x = false := fun h => by
      unfold isNumW
      rw [show (decide (1 ≤ (figW x).length) && decide ((figW x).length ≤ 7)) = false from by
        rw [Bool.and_eq_false_iff, decide_eq_false_iff_not, decide_eq_false_iff_not]
        omega, Bool.false_and]
    refine ite2 (fun c => ?_) (fun c => ?_)
    · have h1 : (1 : Int) ≤ (z.length : Int) := of_decide_eq_true c
      refine ⟨_, _, rfl, rfl, _, rfl, ?_⟩
      refine ite2 (fun c2 => ?_) (fun c2 => ?_)
      · have h2 : ¬ ((z.length : Int) ≤ 7) := by simpa using c2
        rw [no1 (by omega)] at q
        exact q H (Same.refl H)
      · have h2 : (z.length : Int) ≤ 7 := by simpa using c2
        refine ⟨_, rfl, z, rfl, fun D hD => lc_it walk_str (fun i H' => Same H H' ∧ H' D = some (.lst ((z.cps.toList.take i).map fun c => V.bl (decide (c ∈ (Str.ofString "0123456789").cps.toList)))))
          ⟨up2 hD, by rw [List.take_zero]; exact upd_same⟩ (fun _ _ _ _ => True.intro) ?_ ?_⟩
        · rintro i v H1 H2 hi ⟨sm, hl⟩ ⟨rfl, c, hc, rfl⟩
          refine ⟨rfl, ?_⟩
          unfold tYes
          dsimp only
          rw [if_pos rfl]
          refine ⟨_, rfl, c, _, rfl, rfl, _, hl, small1000 ?_, same_upd sm hD, ?_⟩
          · rw [List.length_map, List.length_take]
            have := strlen z
            omega
          · rw [upd_same, take_sn (sign_at hc), List.map_append]
            rfl
        · rintro H1 ⟨sm, hl⟩
          rw [show z.cps.size = z.cps.toList.length by rw [Array.length_toList], List.take_length] at hl
          have e0 : z.cps.toList = figW x := ef
          refine ⟨D, z.cps.toList.map (fun c => decide (c ∈ (Str.ofString "0123456789").cps.toList)), rfl, ?_, ?_⟩
          · have e : (z.cps.toList.map (fun c => decide (c ∈ (Str.ofString "0123456789").cps.toList))).map V.bl = z.cps.toList.map fun c => V.bl (decide (c ∈ (Str.ofString "0123456789").cps.toList)) := by
              rw [List.map_map]
              rfl
            rw [e]
            exact SqL.of hl
          have ea : (z.cps.toList.map (fun c => decide (c ∈ (Str.ofString "0123456789").cps.toList))).all id = (figW x).all digC := by
            rw [List.all_map, e0]
            exact congrArg (fun g => (figW x).all g) (funext fun c => dig_in c)
          rw [ea]
          have lead : (decide (1 ≤ (figW x).length) && decide ((figW x).length ≤ 7)) = true := by
            rw [Bool.and_eq_true, decide_eq_true_iff, decide_eq_true_iff]
            omega
          cases ha : (figW x).all digC with
          | false =>
            have en : isNumW x = false := by
              unfold isNumW
              rw [ha, Bool.false_and, Bool.and_false]
            rw [en] at q
            exact ⟨_, rfl, iteT (q H1 sm)⟩
          | true =>
            refine ⟨_, rfl, iteF ?_⟩
            obtain ⟨c0, l0, ec⟩ : ∃ c l, figW x = c :: l := by
              cases e : figW x with
              | nil =>
                rw [e] at lz
                have z0 : z.length = 0 := lz
                omega
              | cons c l => exact ⟨c, l, rfl⟩
            have at0 : atI z.cps.toList 0 = some c0 := by
              rw [e0, ec]
              unfold atI ixN
              simp
            refine ⟨_, rfl, z, 0, c0, rfl, rfl, by omega, at0, rfl, ?_⟩
            by_cases h0 : c0 = 48
            · subst h0
              refine ⟨false, by decide +kernel, iteF ?_⟩
              refine ⟨_, rfl, rfl, ?_⟩
              have en : isNumW x = decide (V.str x = V.str (Str.ofString "0")) := by
                rw [numW_at ec lead ha, decide_eq_true (rfl : (48 : Nat) = 48)]
                show decide (x = "0") = _
                rw [decide_eq_decide]
                exact ⟨fun e => by rw [e], fun e => V.str.inj e⟩
              rw [en] at q
              exact q H1 sm
            · have ne : V.str (⟨#[c0]⟩ : Str) ≠ V.str (Str.ofString "0") := by
                intro e
                have e4 := V.str.inj e
                have e5 := congrArg (fun s : Str => s.cps.toList) e4
                have e6 : (Str.ofString "0").cps.toList = [48] := by decide +kernel
                have e7 : [c0] = [48] := e5.trans e6
                injection e7 with e7
                exact h0 e7
              refine ⟨true, by rw [decide_eq_false ne]; rfl, iteT ?_⟩
              have en : isNumW x = true := by
                rw [numW_at ec lead ha, decide_eq_false h0]
                rfl
              rw [en] at q
              exact q H1 sm
    · have h1 : ¬ ((1 : Int) ≤ (z.length : Int)) := fun z => c (decide_eq_true z)
      refine ⟨_, rfl, iteT ?_⟩
      rw [no1 (by omega)] at q
      exact q H (Same.refl H)
abbrev nDO : List Str := ["line", "words", "word", "name", "event", "mark", "day", "hour", "wind", "course"]
theorem scDO : FnScope nDO ["line"] (defScope sDeedOf) := ⟨rfl, rfl, rfl, by decide +kernel, rfl, by decide +kernel, by decide +kernel⟩
theorem sh_row {a b c d e f g : Str} (h : TX 100000 a ∧ TX 100000 b ∧ TX 100000 g) : ∀ x ∈ (rowW a b c d e f g).ds, shortD x = true := by
  have st : ∀ {z : Str}, TX 100000 z → shortD (.str z) = true := fun {z} h => by
    show (decide (z.length ≤ 100000) && PyData.canLay0 (.str z)) = true
    rw [decide_eq_true h.2, lay9 h.1]
    rfl
  intro x hx
  unfold PR.ds rowW at hx
  simp only [List.mem_cons, List.not_mem_nil, or_false] at hx
  rcases hx with rfl | rfl | rfl | rfl | rfl | rfl | rfl
  · exact st h.1
  · exact st h.2.1
  · rfl
  · rfl
  · rfl
  · rfl
  · exact st h.2.2
theorem ok_deedof {C CE fW : Addr} {fdW : FuncData} (F : Fn K "deed_of" "deed_of" sDeedOf f fd) (h : Hq K mg) (o : Own K mg C CE) (te : PySem.W.exmOne K (.ref CE) (.ref CE) = some true) (FW : Fn K "writes_number" "writes_number" sWrites fW fdW) (gW : mg "writes_number" = some (.ref fW)) : FnOk P w K mg base L2.CX0 6 f fd ["line"] (spDeedOf C) := by
  have T := h.fr
  have cs := h.cs
  have R := o.r
  obtain ⟨aI, dI, dvs, FI, hdv, MK⟩ := o.ini
  have GI : FnOk P w K mg base (L2.CX P w) 4 aI dI nIni (spIni C CE) := ok_ini FI h R o.en
  have bI : Binds K dI nIni [] := ini_binds FI hdv
  have GW : FnOk P w K mg base L2.CX0 1 fW fdW ["word"] spWrites := ok_writes FW T cs
  have bW : Binds K fdW ["word"] [] := FW.bindsN fun _ _ _ _ _ _ us hl => match us, hl with | [_], _ => rfl
  refine F.ok scDO (fun vs H Q E h => ?_) (fun cdv A outer s H vs Q E hr hh => ?_)
  · obtain ⟨t, rfl, _⟩ := h
    rfl
  · obtain ⟨t, rfl, tx, q, qn⟩ := hh
    let X := (cxOf L2.CX0 P w K mg base nDO "deed_of" (defScope sDeedOf) f cdv A outer s H E).nox
    refine' ⟨_, PSs.nox ?d, ?r⟩
    case d =>
      refine' pss_cons (ps_set (i := 1) scDO.nd rfl (.inl rfl) (pe_bm PySem.F.plainAttrs_str PySem.F.slot_str_split PySem.F.type_str_split mt_split (pv 0) (pa_cons pe_str pa_nil)))
        (pss_cons (ps_if (PW.pt (pw_or (pt_cmpR op_ne (pe_callB call_len_seq rfl T.len_ boot_len (pa_cons (pv 1) pa_nil)) (pe_k cs.wod rfl) (nomark _)) (pw_or1 (pt_not (pt_val (pe_callB (cr_all rfl) rfl T.all_ (by decide +kernel) (pa_cons (pe_lc (own := [("word", 2)]) (g := gName 2) (tt := tYes) rfl scDO.nd (pi_list (pe_slice sl_list (pv 1) (po_some pe_int) (po_some pe_int))) (blkOk_by (N := nDO) (sc := defScope sDeedOf) (by decide +kernel)) (fun _ _ _ _ _ => pg_name (i := 2) scDO.nd rfl (Or.inl rfl)) (fun _ _ _ _ _ => pts_nil)
          (fun _ _ _ _ _ => pe_call GW (hr.mono (by decide)) rfl gW FW.kp bW .nil pass0 (pa_cons (pv 2) pa_nil))) pa_nil))))))) (pss_one (ps_ret pe_non)) pss_nil)
        (pss_cons (ps_asg (pv 1) (pg_unl rfl (pgs_cons (pg_name (i := 3) scDO.nd rfl (Or.inl rfl)) (pgs_cons (pg_name (i := 4) scDO.nd rfl (Or.inl rfl)) (pgs_cons (pg_name (i := 5) scDO.nd rfl (Or.inl rfl)) (pgs_cons (pg_name (i := 6) scDO.nd rfl (Or.inl rfl)) (pgs_cons (pg_name (i := 7) scDO.nd rfl (Or.inl rfl)) (pgs_cons (pg_name (i := 8) scDO.nd rfl (Or.inl rfl)) (pgs_cons (pg_name (i := 9) scDO.nd rfl (Or.inl rfl)) pgs_nil)))))))))
        ?tr))
      case tr =>
        exact (pss_one (ps_try_only (X := X) (c := .ref CE) (Wout := fun _ _ _ _ => False) (ts := fun _ _ _ => tRet (tC .non)) (tb := fun W D σ H => ∃ Ech : XK, (∀ cls d σ' H', Ech cls d H' → W cls d σ' H') ∧ tRet (tMake C (spIni C CE) [] Ech (tCons (tVar 3) (tCons (tVar 4) (tCons (tCB rIntS (tCons (tVar 5) tNil)) (tCons (tCB rIntS (tCons (tVar 6) tNil)) (tCons (tCB rIntS (tCons (tVar 7) tNil)) (tCons (tCB rIntS (tCons (tVar 8) tNil)) (tCons (tVar 9) tNil)))))))) D σ H) rfl rfl ⟨rfl, by decide, .inl o.en.g⟩ LamX.takes0
          (fun W pn xe tk _ => ⟨fun pins s' σ H' D I h' => by
            obtain ⟨Ech, hW, h1⟩ := h'
            refine PSs.run (X := X.tr pn xe) ?_ pins s' σ H' D I h1
            exact (pss_one (ps_ret (pe_make MK GI (hr.mono (by decide)) rfl R.gC bI .nil (passes_call tk hW) (pa_cons (pv 3) (pa_cons (pv 4) (pa_cons (pe_callTy call_intS rfl T.int_ (by decide +kernel) (pa_cons (pv 5) pa_nil)) (pa_cons (pe_callTy call_intS rfl T.int_ (by decide +kernel) (pa_cons (pv 6) pa_nil)) (pa_cons (pe_callTy call_intS rfl T.int_ (by decide +kernel) (pa_cons (pv 7) pa_nil)) (pa_cons (pe_callTy call_intS rfl T.int_ (by decide +kernel) (pa_cons (pv 8) pa_nil)) (pa_cons (pv 9) pa_nil))))))))))⟩) (fun a oe cls d pn _ _ => pss_one (ps_ret pe_non))))
    case r =>
      have sz := sizeLine_eq
      have l1 := tx.2
      obtain ⟨px, ps⟩ := tx.split sp1 (by decide)
      have d1 : (Str.ofString " ").length = 1 := by decide +kernel
      refine ⟨_, rfl, rfl, _, _, rfl, rfl, by rw [d1]; rfl, by omega, fun L hL => ?_⟩
      obtain ⟨zs, ezs⟩ : ∃ zs, zs = Txt.split t " " := ⟨_, rfl⟩
      rw [← ezs] at px ps ⊢
      have u1 := up2 (o := .lst (zs.map V.str)) hL
      obtain ⟨H1, eH1⟩ : ∃ G, G = upd H L (.lst (zs.map V.str)) := ⟨_, rfl⟩
      have hL1 : H1 L = some (.lst (zs.map V.str)) := by
        rw [eH1]
        exact upd_same
      rw [← eH1] at u1 ⊢
      refine ⟨_, rfl, L, _, rfl, .inl (SqL.of hL1), rfl, ?_⟩
      by_cases l7 : zs.length = 7
      case neg =>
        refine ⟨true, ?_, iteT (qn (lineR_no (by rw [← ezs]; exact l7)) H1 u1)⟩
        rw [List.length_map, decide_eq_false (fun e => l7 (by
          have e2 := V.int.inj e
          omega))]
        rfl
      case pos =>
      refine ⟨false, by rw [List.length_map, l7]; rfl, iteF ?_⟩
      obtain ⟨a, b, c, d, e, g, k, rfl⟩ := seven l7
      have hline := lineR_at ezs.symm
      have ta := px a (by simp)
      have tb := px b (by simp)
      have tk := px k (by simp)
      obtain ⟨ns, ens⟩ : ∃ ns, ns = [c, d, e, g] := ⟨_, rfl⟩
      have cut : cutV (([a, b, c, d, e, g, k] : List Str).map V.str) (some 2) (some 6) = ns.map V.str := by
        rw [ens]
        rfl
      have hns : ∀ n ∈ ns, n.length ≤ 100000 := by
        rw [ens]
        intro n hn
        simp only [List.mem_cons, List.not_mem_nil, or_false] at hn
        rcases hn with rfl | rfl | rfl | rfl <;> exact (px _ (by simp)).2
      refine ⟨_, rfl, _, rfl, _, rfl, L, _, rfl, SqL.of hL1, fun S hS => ?_⟩
      rw [cut]
      have u2 := up2 (o := .lst (ns.map V.str)) hS
      obtain ⟨H2, eH2⟩ : ∃ G, G = upd H1 S (.lst (ns.map V.str)) := ⟨_, rfl⟩
      have hS2 : H2 S = some (.lst (ns.map V.str)) := by
        rw [eH2]
        exact upd_same
      rw [← eH2] at u2 ⊢
      refine ⟨S, rfl, ⟨_, SqL.of hS2⟩, fun D hD => lc_list (K := K) (a := S) (xs := ns.map V.str) (fun i H' => Same H2 H' ∧ H' D = some (.lst (((ns.map isNumW).take i).map V.bl))) ⟨up2 hD, by rw [List.take_zero]; exact upd_same⟩ (fun i H' _ p => SqL.of (p.1 _ _ hS2)) ?_ ?_⟩
      · rintro i y H' hy ⟨sm, hl⟩
        have ilt := (List.getElem?_eq_some_iff.mp hy).1
        rw [List.length_map, ens] at ilt
        have ilt : i < 4 := ilt
        rw [List.getElem?_map] at hy
        obtain ⟨n, hn, rfl⟩ := Option.map_eq_some_iff.mp hy
        have hz : (ns.map isNumW)[i]? = some (isNumW n) := by
          rw [List.getElem?_map, hn]
          rfl
        refine ⟨rfl, ?_⟩
        unfold tYes
        dsimp only
        rw [if_pos rfl]
        refine ⟨_, rfl, n, rfl, hns n (List.mem_of_getElem? hn), fun H3 s3 => ?_⟩
        refine ⟨_, s3 _ _ hl, small1000 (by rw [List.length_map, List.length_take]; omega), same_upd (sm.trans s3) hD, ?_⟩
        rw [upd_same, take_sn hz, List.map_append]
        rfl
      · rintro H3 ⟨sm, hl⟩
        rw [show (ns.map V.str).length = (ns.map isNumW).length from by rw [List.length_map, List.length_map], List.take_length] at hl
        refine ⟨D, _, rfl, SqL.of hl, ?_⟩
        have s3 := u1.trans (u2.trans sm)
        have ea : (ns.map isNumW).all id = (isNumW c && (isNumW d && (isNumW e && isNumW g))) := by
          rw [ens]
          show (isNumW c && (isNumW d && (isNumW e && (isNumW g && true)))) = _
          rw [Bool.and_true]
        rw [ea]
        cases hall : (isNumW c && (isNumW d && (isNumW e && isNumW g))) with
        | false =>
          rw [hall, Bool.false_and, if_neg Bool.false_ne_true] at hline
          exact ⟨_, rfl, iteT (qn hline H3 s3)⟩
        | true =>
          rw [hall, Bool.true_and] at hline
          refine ⟨_, rfl, iteF ?_⟩
          have hL3 := (u2.trans sm) _ _ hL1
          obtain ⟨n1, hall⟩ := Bool.and_eq_true_iff.mp hall
          obtain ⟨n2, hall⟩ := Bool.and_eq_true_iff.mp hall
          obtain ⟨n3, n4⟩ := Bool.and_eq_true_iff.mp hall
          obtain ⟨i1, b1, z1⟩ := num_int n1
          obtain ⟨i2, b2, z2⟩ := num_int n2
          obtain ⟨i3, b3, z3⟩ := num_int n3
          obtain ⟨i4, b4, z4⟩ := num_int n4
          refine ⟨_, rfl, L, _, rfl, SqL.of hL3, rfl, ?_⟩
          refine ⟨_, _, rfl, _, _, rfl, _, _, rfl, _, _, rfl, _, _, rfl, _, _, rfl, _, _, rfl, rfl, ?_⟩
          refine ⟨fun cls d H' => cls = .ref CE ∧ Q .non H', ?_, ?_⟩
          · rintro cls d σ' H' ⟨rfl, hq⟩
            exact ⟨true, te, fun _ _ _ => hq, fun z => by cases z⟩
          · refine ⟨_, rfl, _, rfl, _, rfl, _, _, rfl, i1, by omega, _, rfl, _, _, rfl, i2, by omega, _, rfl, _, _, rfl, i3, by omega, _, rfl, _, _, rfl, i4, by omega, _, rfl, fun x dx nx ndx nex => ?_⟩
            have mk0 : Same H3 (upd (upd H3 dx (.own x)) x (.ins C dx [])) := Same.made nx ndx fun _ _ e _ => e
            refine ⟨(fun _ => False), x, dx, _, (rowW a b c d e g k).ds, rfl, upd_same, .cons (.str _) (.cons (.str _) (.cons (.int _) (.cons (.int _) (.cons (.int _) (.cons (.int _) (.cons (.str _) .nil)))))), rfl, sh_row ⟨ta, tb, tk⟩, fun r1 er o1 H' kp hx => ⟨rfl, ?_⟩, fun no H' s' => ⟨rfl, ?_⟩⟩
            · have e1 := ds_inj er
              rw [okds_of (by rw [e1]; exact o1), if_pos rfl] at hline
              rw [← ds_inj er] at hx
              exact q _ hline x H' (Same.free s3 nx) (s3.trans (Same.made nx ndx kp)) ⟨dx, hx⟩
            · rw [no, if_neg Bool.false_ne_true] at hline
              exact qn hline H' (s3.trans (mk0.trans s'))
end
end K13
set_option Elab.async false
set_option linter.all false
set_option maxRecDepth 100000
set_option maxHeartbeats 4000000
namespace K13
open PySem PySem.Spec PyProof.Rows L2 Bb
/-! read_sheet of any thing -/
/-- what NoText is -/
structure Nt (K : PySem.W.Frag) (mg : Str → Option Value) (TE fI : Addr) : Prop where
  ef : Bb.XL.ExcF K TE fI "ValueError" "ValueError.__new__" "ValueError.__init__" [.type "ValueError", .type "Exception", .type "BaseException", .type "object"]
  g : mg "NoText" = some (.ref TE)
def readR : List Str → Nat → List PR → Nat ⊕ List PR
  | [], _, acc => .inr acc
  | l :: ls, i, acc => match lineR l with
    | none => .inl i
    | some r => if i = 60 then .inl i else readR ls (i + 1) (acc ++ [r])
def sheetR (t : Str) : Nat ⊕ List PR := if t = "none" then .inr [] else readR (Txt.split t "\n") 0 []
theorem readR_ok : ∀ (ls : List Str) (i : Nat) (acc rs : List PR), (∀ r ∈ acc, r.Ok) → acc.length = i → i ≤ 60 → readR ls i acc = .inr rs → (∀ r ∈ rs, r.Ok) ∧ rs.length ≤ 60
  | [], i, acc, rs, ok, l, l60, h => by
    have e : acc = rs := Sum.inr.inj h
    rw [← e]
    exact ⟨ok, by omega⟩
  | x :: ls, i, acc, rs, ok, l, l60, h => by
    unfold readR at h
    cases hx : lineR x with
    | none =>
      rw [hx] at h
      cases h
    | some r =>
      rw [hx] at h
      dsimp only at h
      by_cases c : i = 60
      · rw [if_pos c] at h
        cases h
      · rw [if_neg c] at h
        refine readR_ok ls (i + 1) (acc ++ [r]) rs (fun q hq => ?_) (by rw [List.length_append, List.length_singleton, l]) (by omega) h
        rcases List.mem_append.mp hq with z | z
        · exact ok q z
        · rw [List.mem_singleton.mp z]
          exact lineR_ok hx
theorem sheetR_ok {t : Str} {rs : List PR} (h : sheetR t = .inr rs) : (∀ r ∈ rs, r.Ok) ∧ rs.length ≤ 60 := by
  unfold sheetR at h
  split at h
  · rw [← Sum.inr.inj h]
    exact ⟨(fun r hr => by cases hr), by decide⟩
  · exact readR_ok _ 0 [] rs (fun r hr => by cases hr) rfl (by decide) h
theorem readR_le : ∀ (ls : List Str) (i : Nat) (acc : List PR) (n : Nat), readR ls i acc = .inl n → n ≤ i + ls.length
  | [], i, acc, n, h => by cases h
  | x :: ls, i, acc, n, h => by
    unfold readR at h
    rw [List.length_cons]
    cases hx : lineR x with
    | none =>
      rw [hx] at h
      have e : i = n := Sum.inl.inj h
      omega
    | some r =>
      rw [hx] at h
      dsimp only at h
      by_cases c : i = 60
      · rw [if_pos c] at h
        have e : i = n := Sum.inl.inj h
        omega
      · rw [if_neg c] at h
        have := readR_le ls (i + 1) (acc ++ [r]) n h
        omega
theorem recs_snoc {C : Addr} {H : Hp} {bs : List Addr} {rs : List PR} {x : Addr} {r : PR} (m : Recs C H bs rs) (ax : At C H x r) (ok : r.Ok) : Recs C H (bs ++ [x]) (rs ++ [r]) := by
  refine ⟨by rw [List.length_append, m.1, List.length_append]; rfl, fun j b r' hj hr' => ?_, fun r' hr' => ?_⟩
  · by_cases jl : j < bs.length
    · rw [List.getElem?_append_left jl] at hj
      rw [List.getElem?_append_left (by rw [← m.1]; exact jl)] at hr'
      exact m.2.1 j b r' hj hr'
    · have jl2 := (List.getElem?_eq_some_iff.mp hj).1
      rw [List.length_append, List.length_singleton] at jl2
      rw [List.getElem?_append_right (by omega)] at hj
      rw [List.getElem?_append_right (by rw [← m.1]; omega)] at hr'
      have q1 : j - bs.length = 0 := by omega
      have q2 : j - rs.length = 0 := by rw [← m.1]; omega
      rw [q1] at hj
      rw [q2] at hr'
      have eb : x = b := by simpa using hj
      have ee : r = r' := by simpa using hr'
      rw [← eb, ← ee]
      exact ax
  · rcases List.mem_append.mp hr' with z | z
    · exact m.2.2 r' z
    · rw [List.mem_singleton.mp z]
      exact ok

def spSIni0 (C S : Addr) : Sp := fun vs H Q _ => ∃ (p dx : Addr), vs = [.ref p, .non] ∧ H p = some (.ins S dx []) ∧ ∀ H', (∀ b o, H b = some o → b ≠ p → H' b = some o) → SAt C S H' p [] → Q .non H'
/-- what read_sheet takes: text of plain signs, or no text -/
def NoStr : PyData → Prop
  | .str _ => False
  | _ => True
def spRead (C S TE : Addr) : Sp := fun vs H Q E => ∃ (v : V) (d : PyData), vs = [v] ∧ Da (fun _ => False) H v d ∧ (∀ t, d = .str t → TX 100000 t) ∧
  (∀ t rs, d = .str t → sheetR t = .inr rs → ∀ y H', H y = none → Same H H' → SAt C S H' y rs → Q (.ref y) H') ∧
  (∀ t n, d = .str t → sheetR t = .inl n → ∀ dd H', Same H H' → H' dd = some (.xd [(("line" : Str), .int (n : Int))]) → E (.ref TE) (some dd) H') ∧
  (NoStr d → ∀ dd H', Same H H' → H' dd = some (.xd [(("line" : Str), .int (-1))]) → E (.ref TE) (some dd) H')
section
variable {P : Program} {w : World} {K : PySem.W.Frag} {mg : Str → Option Value} {base : Heap} {f : Addr} {fd : FuncData}
theorem ok_sini0 {C S CE fA : Addr} {fdA : FuncData} {dvs : List V} (F : FunD K "__init__" "Sheet.__init__" (defArgs sSIni) (defBody sSIni) (defScope sSIni) dvs [] f fd) (T : Free mg) (cs : Cons mg) (R : ClsT K mg C) (RS : ClsS K mg S) (en : ErrT K mg "NoSheet" CE) (FA : Fn K "are_deeds" "are_deeds" sAreD fA fdA) (gA : mg "are_deeds" = some (.ref fA)) : FnOk P w K mg base (L2.CX P w) 2 f fd nSIni (spSIni0 C S) := by
  have GA : FnOk P w K mg base L2.CX0 1 fA fdA ["thing"] (spAreD C) := ok_ared FA T cs R
  have bA : Binds K fdA ["thing"] [] := FA.bindsN fun _ _ _ _ _ _ us hl => match us, hl with | [_], _ => rfl
  refine F.ok (CX := L2.CX P w) scSIni (fun vs H Q E h => ?_) (fun cdv A outer s H vs Q E hr hh => ?_)
  · obtain ⟨p, dx, rfl, _⟩ := h
    rfl
  · obtain ⟨p, dx, rfl, hp, q⟩ := hh
    refine ⟨_, pss_cons (ps_if (pt_cmpR op_isN (pv 1) pe_non (nomark _)) (pss_one (ps_set (i := 1) scSIni.nd rfl (.inl rfl) (pe_tup pa_nil))) pss_nil)
      (pss_cons (ps_if (pt_not (pt_val (pe_call GA hr rfl gA FA.kp bA .nil pass0 (pa_cons (pv 1) pa_nil)))) (pss_one (ps_raise rfl (takes_of rfl rfl rfl rfl) (pmk_own PySem.F.excBase_ValueError en.ex en.g en.kp (raises_own en.sb en.ty) rfl))) pss_nil)
      (pss_one (ps_fld (pv 0) (pe_callTy call_tuple_of rfl T.tup_ (by decide +kernel) (pa_cons (pv 1) pa_nil)) rfl))), ?_⟩
    refine ⟨_, rfl, rfl, _, rfl, iteT ?_⟩
    refine ⟨Nat.zero_le _, fun t ht => ?_⟩
    have u1 := up2 (o := .tup []) ht
    obtain ⟨H1, eH1⟩ : ∃ G, G = upd H t (.tup []) := ⟨_, rfl⟩
    have ht1 : H1 t = some (.tup (([] : List Addr).map V.ref)) := by
      rw [eH1]
      exact upd_same
    rw [← eH1] at u1 ⊢
    have rec0 : ∀ G : Hp, Recs C G [] [] := fun G => ⟨rfl, fun i b r h _ => (by cases h), fun r hr => (by cases hr)⟩
    refine ⟨_, rfl, t, [], [], rfl, .inr ht1, rec0 _, Nat.zero_le _, fun H2 s2 => ⟨_, rfl, iteF ?_⟩⟩
    have ht2 := s2 _ _ ht1
    have hp2 := (u1.trans s2) _ _ hp
    have lt1 : ([] : List (Str × V)).length < 1000 := by decide
    refine ⟨_, rfl, t, _, rfl, .inr ⟨SqT.of ht2, ?_⟩⟩
    refine ⟨_, rfl, p, S, dx, _, rfl, hp2, RS.cl, RS.n0, lt1, ?_⟩
    have ntp : t ≠ p := by
      rintro rfl
      rw [hp2] at ht2
      cases ht2
    refine q _ (fun b o e ne => ?_) ⟨dx, t, [], upd_same, ?_, rec0 _, Nat.zero_le _⟩
    · rw [upd_ne ne]
      exact (u1.trans s2) _ _ e
    · rw [upd_ne ntp]
      exact ht2
abbrev nRead : List Str := ["text", "deeds", "number", "line", "deed"]
theorem scRead : FnScope nRead ["text"] (defScope sRead) := ⟨rfl, rfl, rfl, by decide +kernel, rfl, by decide +kernel, by decide +kernel⟩
theorem ok_read {C S TE fN fD fI : Addr} {fdD fdI : FuncData} {di : List Value} (F : Fn K "read_sheet" "read_sheet" sRead f fd) (T : Free mg) (cs : Cons mg) (RS : ClsS K mg S) (nt : Nt K mg TE fN) (GD : FnOk P w K mg base L2.CX0 6 fD fdD ["line"] (spDeedOf C)) (gD : mg "deed_of" = some (.ref fD)) (kD : PySem.W.keepIn K (.ref fD) = true) (bD : Binds K fdD ["line"] [])
    (MK : Mk K S fI) (GI : FnOk P w K mg base (L2.CX P w) 2 fI fdI nSIni (spSIni C S)) (bI : Binds K fdI nSIni []) (GI0 : FnOk P w K mg base (L2.CX P w) 2 fI fdI nSIni (spSIni0 C S)) (rI : Vals [.non] di) (bI0 : Binds K fdI nSIni di) : FnOk P w K mg base (L2.CX P w) 7 f fd ["text"] (spRead C S TE) := by
  refine F.ok (CX := L2.CX P w) scRead (fun vs H Q E h => ?_) (fun cdv A outer s H vs Q E hr hh => ?_)
  · obtain ⟨v, d, rfl, _⟩ := h
    rfl
  · obtain ⟨v, d, rfl, hx, htx, q, qe, qn⟩ := hh
    obtain ⟨n, ty⟩ := hx.ty (K := K)
    refine ⟨_, pss_cons (ps_if (pt_not (pt_val (pe_callB call_isi rfl T.isi boot_isinstance (pa_cons (pv 0) (pa_cons (pe_bltn rfl T.str_ (by decide +kernel) (v := .ty "str") rfl) pa_nil))))) (pss_one (ps_raise rfl (takes_of rfl rfl rfl rfl) (Bb.XL.pmk_fld nt.ef nt.g hr (pa_cons (pe_un un_neg pe_int) pa_nil)))) pss_nil)
      (pss_cons (ps_if (pt_cmpR op_eq (pv 0) (pe_kS cs.nod rfl) (nomark _)) (pss_one (ps_ret (pe_make0 MK GI0 (hr.mono (by decide)) rfl RS.gC bI0 rI passL))) pss_nil)
      (pss_cons (ps_set (i := 1) scRead.nd rfl (.inl rfl) (pe_lst pa_nil))
      (pss_cons (ps_for (passes_of rfl) rfl (pi_enum rfl T.enu_ (pa_cons (pe_bm PySem.F.plainAttrs_str PySem.F.slot_str_split PySem.F.type_str_split mt_split (pv 0) (pa_cons pe_str pa_nil)) pa_nil)) (pg_tup rfl (pgs_cons (pg_name (i := 2) scRead.nd rfl (Or.inl rfl)) (pgs_cons (pg_name (i := 3) scRead.nd rfl (Or.inl rfl)) pgs_nil)))
        (pss_cons (ps_set (i := 4) scRead.nd rfl (.inl rfl) (pe_call GD hr rfl gD kD bD .nil pass0 (pa_cons (pv 3) pa_nil)))
        (pss_cons (ps_if (PW.pt (pw_or (pt_cmpR op_isN (pv 4) pe_non (nomark _)) (pw_or1 (pt_cmpR op_eq (pv 2) (pe_k cs.deeds rfl) (nomark _))))) (pss_one (ps_raise rfl (takes_of rfl rfl rfl rfl) (Bb.XL.pmk_fld nt.ef nt.g hr (pa_cons (pv 2) pa_nil)))) pss_nil)
        (pss_one (ps_expr (pe_bm PySem.F.plainAttrs_list PySem.F.slot_list_append PySem.F.type_list_append mt_append (pv 1) (pa_cons (pv 4) pa_nil)))))))
      (pss_one (ps_ret (pe_make MK GI (hr.mono (by decide)) rfl RS.gC bI .nil passL (pa_cons (pv 1) pa_nil))))))), ?_⟩
    refine ⟨_, rfl, _, _, _, _, _, rfl, .ty "str", ty.ty, kit_ty ty.s, _, rfl, ?_⟩
    cases d with
    | str t =>
      cases hx
      refine iteF ?_
      have tx := htx t rfl
      have q := fun rs => q t rs rfl
      have qe := fun n => qe t n rfl
      by_cases en : t = "none"
      · refine ⟨_, rfl, rfl, true, by rw [en]; decide +kernel, iteT ?_⟩
        refine fun y dy ny ndy _ => ?_
        have mk0 : Same H _ := Same.made (C := S) ny ndy fun _ _ e _ => e
        refine ⟨y, dy, rfl, upd_same, fun H1 k1 sy => ⟨rfl, ?_⟩⟩
        exact q [] (by unfold sheetR; rw [if_pos en]) y H1 ny (Same.made ny ndy k1) sy
      · have sz := sizeLine_eq
        have l1 := tx.2
        have eR : sheetR t = readR (Txt.split t "\n") 0 [] := by
          unfold sheetR
          rw [if_neg en]
        have d1 : (Str.ofString "\n").length = 1 := by decide +kernel
        refine ⟨_, rfl, rfl, false, by rw [decide_eq_false (fun e => en (V.str.inj e))], iteF ?_⟩
        refine ⟨Nat.zero_le _, fun L hL => ?_⟩
        have u1 := up2 (o := .lst []) hL
        obtain ⟨H1, eH1⟩ : ∃ G, G = upd H L (.lst []) := ⟨_, rfl⟩
        have hL1 : H1 L = some (.lst (([] : List Addr).map V.ref)) := by
          rw [eH1]
          exact upd_same
        rw [← eH1] at u1 ⊢
        refine ⟨_, rfl, rfl, _, _, rfl, rfl, by rw [d1]; rfl, by omega, fun W hW => ?_⟩
        obtain ⟨px, _⟩ := tx.split nl1 (by decide)
        obtain ⟨ls, els⟩ : ∃ ls, ls = Txt.split t "\n" := ⟨_, rfl⟩
        rw [← els] at px eR ⊢
        have u2 := up2 (o := .lst (ls.map V.str)) hW
        obtain ⟨H2, eH2⟩ : ∃ G, G = upd H1 W (.lst (ls.map V.str)) := ⟨_, rfl⟩
        have hW2 : H2 W = some (.lst (ls.map V.str)) := by
          rw [eH2]
          exact upd_same
        rw [← eH2] at u2 ⊢
        have hL2 := u2 _ _ hL1
        have nLW : W ≠ L := by
          rintro rfl
          rw [hL1] at hW
          cases hW
        have s0 : ∀ {G : Hp}, (∀ b o, H2 b = some o → b ≠ L → G b = some o) → Same H G := fun {G} kp b o e => kp b o (u2 _ _ (u1 _ _ e)) (ne_of_none e hL)
        refine ⟨W, _, rfl, SqL.of hW2, for_it walk_enum (fun i σ H' => ∃ (v2 v3 v4 : Option V) (bs : List Addr) (rs : List PR), σ = [some (.str t), some (.ref L), v2, v3, v4] ∧ (∀ b o, H2 b = some o → b ≠ L → H' b = some o) ∧ H' L = some (.lst (bs.map V.ref)) ∧ Recs C H' bs rs ∧ rs.length = i ∧ i ≤ 60 ∧ readR (ls.drop i) i rs = sheetR t)
          ⟨_, _, _, [], [], rfl, fun _ _ e _ => e, hL2, ⟨rfl, fun i b r h _ => (by cases h), fun r hr => (by cases hr)⟩, rfl, by decide, by rw [List.drop_zero]; exact eR.symm⟩ (fun i σ H' _ ⟨_, _, _, _, _, _, kp, _⟩ => SqL.of (kp _ _ hW2 nLW)) ?_ ?_⟩
        · rintro i y σ H3 H4 hi ⟨v2, v3, v4, bs, rs, rfl, kp, hL3, rec, lrs, i60, eRi⟩ ⟨T0, y1, y2, rfl, hT, rfl, ey1, ey2⟩
          have e1 : y1 = .int (i : Nat) := (Option.some.inj ey1).symm
          subst e1
          have ey2 : (ls.map V.str)[i]? = some y2 := ey2
          rw [List.length_map] at hi
          obtain ⟨l, hl⟩ : ∃ l, ls[i]? = some l := ⟨_, List.getElem?_eq_getElem hi⟩
          rw [List.getElem?_map, hl] at ey2
          have e2 : y2 = .str l := (Option.some.inj ey2).symm
          subst e2
          have hd : ls.drop i = l :: ls.drop (i + 1) := by
            rw [List.drop_eq_getElem_cons hi]
            have z := List.getElem?_eq_getElem hi
            rw [hl] at z
            rw [Option.some.inj z]
          rw [hd] at eRi
          unfold readR at eRi
          have uT := up2 (o := .tup [.int (i : Nat), .str l]) hT
          have sT : Same H _ := (s0 kp).trans uT
          refine ⟨T0, _, rfl, SqT.of upd_same, rfl, _, _, rfl, _, _, rfl, rfl, ?_⟩
          refine ⟨_, rfl, l, rfl, px l (List.mem_of_getElem? hl), fun r er x H5 nx s5 ax => ?_, fun er H5 s5 => ?_⟩
          · rw [er] at eRi
            dsimp only at eRi
            refine ⟨_, rfl, rfl, _, rfl, iteF ?_⟩
            refine ⟨_, rfl, rfl, _, rfl, ?_⟩
            by_cases c60 : i = 60
            · rw [if_pos c60] at eRi
              rw [show decide (V.int ((i : Nat) : Int) = V.int 60) = true from decide_eq_true (by rw [c60]; rfl)]
              refine iteT ⟨_, rfl, _, rfl, fun dd hdd => ?_⟩
              exact qe i eRi.symm dd _ ((sT.trans s5).trans (up2 hdd)) upd_same
            · rw [if_neg c60] at eRi
              rw [show decide (V.int ((i : Nat) : Int) = V.int 60) = false from decide_eq_false (fun e => c60 (by have z := V.int.inj e; omega))]
              refine iteF ?_
              have s35 := uT.trans s5
              have hL5 := s35 _ _ hL3
              refine ⟨_, rfl, .inl ⟨rfl, _, SqL.of hL5⟩, _, rfl, L, _, _, rfl, rfl, hL5, small1000 (by rw [List.length_map, rec.1]; omega), ?_⟩
              have keep : ∀ {b : Addr} {t : PR}, At C H5 b t → At C (upd H5 L (.lst (bs.map V.ref ++ [.ref x]))) b t := fun {b t} at_ => by
                obtain ⟨dy, hy2⟩ := at_
                refine ⟨dy, ?_⟩
                rw [upd_ne (by rintro rfl; rw [hy2] at hL5; cases hL5)]
                exact hy2
              have r5 := recs_snoc (rec.same s35) ax (lineR_ok er)
              refine ⟨_, _, _, bs ++ [x], rs ++ [r], rfl, fun b o e n => ?_, by rw [upd_same, List.map_append]; rfl, ⟨r5.1, fun j b r' hj hr' => keep (r5.2.1 j b r' hj hr'), r5.2.2⟩, by rw [List.length_append, List.length_singleton, lrs], by omega, eRi⟩
              rw [upd_ne n]
              exact s35 _ _ (kp b o e n)
          · rw [er] at eRi
            refine ⟨_, rfl, rfl, _, rfl, iteT ⟨_, rfl, _, rfl, fun dd hdd => ?_⟩⟩
            exact qe i eRi.symm dd _ ((sT.trans s5).trans (up2 hdd)) upd_same
        · rintro σ H3 ⟨v2, v3, v4, bs, rs, rfl, kp, hL3, rec, lrs, i60, eRi⟩
          rw [List.length_map, List.drop_length] at eRi
          refine ⟨_, rfl, fun y dy ny ndy _ => ?_⟩
          have mk0 := Same.made (C := S) ny ndy fun _ _ e _ => e
          refine ⟨y, dy, L, bs, rs, rfl, upd_same, .inl (mk0 _ _ hL3), rec.same mk0, by rw [lrs]; exact i60, fun H4 k4 sy => ⟨rfl, ?_⟩⟩
          have s4 := Same.made ny ndy k4
          exact q rs eRi.symm y H4 (Same.free (s0 kp) ny) ((s0 kp).trans s4) sy
    | _ =>
      refine ⟨_, rfl, _, rfl, fun dd hdd => ?_⟩
      exact qn True.intro dd _ (up2 hdd) upd_same
end
end K13
set_option Elab.async false
set_option linter.all false
set_option maxRecDepth 100000
set_option maxHeartbeats 4000000
namespace K13
open PySem PySem.Spec PyProof.Rows L2 Bb
/-! NoText as it stands: a check, what it says -/
abbrev bmVE : List Value := [.type "ValueError", .type "Exception", .type "BaseException", .type "object"]
def npFn (K : PySem.W.Frag) (f : Addr) : Bool := match K.lookup f with
  | some o => (match o.data with
    | .func d => decide (d.defaults = .none) && decide (d.kwdefaults = .none)
    | _ => false)
  | none => false
def npB (K : PySem.W.Frag) (C f : Addr) : Bool :=
  PySem.W.excInitIn K C bmVE "ValueError.__new__" && (He.eqO (PySem.W.findIn K (.ref C) "__setattr__") (some (some (.builtin "object.__setattr__"))) && (He.eqO (PySem.W.findIn K (.ref C) "__getattribute__") (some (some (.builtin "BaseException.__getattribute__"))) && (He.eqO (PySem.W.findIn K (.ref C) "__getattr__") (some none) &&
  (He.eqO (PySem.W.findIn K (.ref C) "line") (some none) && (PySem.W.keepIn K (.ref C) && (decide (PySem.W.subIn K (.ref C) (.type "BaseException") = some true) && (decide (PySem.W.typeIn K (.ref C) = some (.type "type")) && (PySem.W.hasDictIn K C && (decide (PySem.W.mroIn K C (.type "object") = some true) &&
  (decide (PySem.W.exmOne K (.ref C) (.ref C) = some true) && npFn K f))))))))))
theorem np_cls {K : PySem.W.Frag} {C : Addr} {tl : List Value} {nw : String} (q : PySem.W.excInitIn K C tl nw = true) (hd : PySem.W.hasDictIn K C = true) :
    ∃ nm q N bs bm sn sub ab col dd k0 k1 k2 k3 k5, K.lookup C = some (excClassObj nm q C N bs bm true sn sub ab col dd k0 k1 k2 k3 k5 nw) ∧ PySem.W.excTail tl bm = true := by
  unfold PySem.W.hasDictIn PySem.W.clsIn at hd
  unfold PySem.W.excInitIn at q
  cases eo : K.lookup C with
  | none =>
    rw [eo] at q
    cases q
  | some o =>
    rw [eo] at q hd
    obtain ⟨ocl, odi, oda, osl⟩ := o
    split at q
    · rename_i dd cd sl ho
      cases ho
      split at q
      · rename_i C2 bm k0 k1 k2 k3 n k5 hm hs
        simp only [Bool.and_eq_true, beq_iff_eq, Bool.not_eq_true'] at q
        obtain ⟨⟨⟨a1, a2⟩, a3⟩, a4⟩ := q
        obtain ⟨c1, c2, c3, c4, c5, c6, c7, c8, c9, c10, c11⟩ := cd
        obtain ⟨ls⟩ := osl
        have z6 : c6 = true := by simpa using hd
        have zm : c3 = .ref C2 :: bm := hm
        have zd : c11 = false := a3
        have zs : ls = [k0, k1, k2, k3, some (.builtin n), k5] := hs
        refine ⟨c1, c5, c4, c2, bm, c7, c8, c9, c10, odi, k0, k1, k2, k3, k5, ?_, a4⟩
        rw [z6, zm, zd, zs, a1, a2]
      · cases q
    · cases q
theorem npB_ok {K : PySem.W.Frag} {mg : Str → Option Value} {C f : Addr} {fd : FuncData} (e : npB K C f = true) (F : Fn K "__init__" "NoText.__init__" sNTI f fd) (hi : PySem.W.findIn K (.ref C) "__init__" = some (some (.ref f))) (hf : PySem.W.isFn K (.ref f) = true) (g : mg "NoText" = some (.ref C)) : Nt K mg C f := by
  obtain ⟨h1, e⟩ := He.ba e
  obtain ⟨h2, e⟩ := He.ba e
  obtain ⟨h3, e⟩ := He.ba e
  obtain ⟨h4, e⟩ := He.ba e
  obtain ⟨h5, e⟩ := He.ba e
  obtain ⟨h6, e⟩ := He.ba e
  obtain ⟨h7, e⟩ := He.ba e
  obtain ⟨h8, e⟩ := He.ba e
  obtain ⟨h9, e⟩ := He.ba e
  obtain ⟨h10, e⟩ := He.ba e
  obtain ⟨h11, h14⟩ := He.ba e
  obtain ⟨oc, od, dV, kV, doc, pm, an, cdv, ct, osl, efd, lk, hcd, _, _⟩ := F.ex
  subst efd
  have hn : dV = .none ∧ kV = .none := by
    unfold npFn at h14
    rw [lk] at h14
    obtain ⟨g1, g2⟩ := He.ba h14
    exact ⟨of_decide_eq_true g1, of_decide_eq_true g2⟩
  obtain ⟨rfl, rfl⟩ := hn
  obtain ⟨nm, q, N, bs, bm, sn, sub, ab, col, dd, k0, k1, k2, k3, k5, hC, ht⟩ := np_cls h1 h9
  refine ⟨⟨PySem.F.excBase_ValueError, ⟨nm, q, N, bs, bm, sn, sub, ab, col, dd, k0, k1, k2, k3, k5, hC, fun T => PySem.W.excTail_contains T _ ht, fun self => ?_⟩, He.eqO_ok h2, He.eqO_ok h3, He.eqO_ok h4, He.eqO_ok h5, hi, beq_iff_eq.mp hf, h6, of_decide_eq_true h7, of_decide_eq_true h8, h9, of_decide_eq_true h10, of_decide_eq_true h11, ?_⟩, g⟩
  · exact PySem.W.excTail_pass self (PySem.F.store_ValueError.passes self) (.ref C :: bm) ht
  · exact ⟨oc, od, doc, pm, an, cdv, ct, osl, _, _, _, _, _, _, lk, hcd⟩
end K13
set_option Elab.async false
set_option linter.all false
set_option maxRecDepth 100000
set_option maxHeartbeats 0
namespace K13
open PySem PySem.Spec PyProof.Rows L2 Bb
/-! the head: facts by names, the run -/
def d_is_number : He.DefD := ⟨("is_number", none), "is_number", "is_number", defArgs sIsNum, defBody sIsNum, defScope sIsNum, [], []⟩
def d_is_number_from : He.DefD := ⟨("is_number_from", none), "is_number_from", "is_number_from", defArgs sFrom, defBody sFrom, defScope sFrom, [], []⟩
def d_is_name : He.DefD := ⟨("is_name", none), "is_name", "is_name", defArgs sIsName, defBody sIsName, defScope sIsName, [], []⟩
def d_is_day : He.DefD := ⟨("is_day", none), "is_day", "is_day", defArgs sIsDay, defBody sIsDay, defScope sIsDay, [], []⟩
def d_is_hour : He.DefD := ⟨("is_hour", none), "is_hour", "is_hour", defArgs sIsHour, defBody sIsHour, defScope sIsHour, [], []⟩
def d_is_wind : He.DefD := ⟨("is_wind", none), "is_wind", "is_wind", defArgs sIsWind, defBody sIsWind, defScope sIsWind, [], []⟩
def d_is_mark : He.DefD := ⟨("is_mark", none), "is_mark", "is_mark", defArgs sIsMark, defBody sIsMark, defScope sIsMark, [], []⟩
def d__law_cell : He.DefD := ⟨("_law_cell", none), "_law_cell", "_law_cell", defArgs sCell, defBody sCell, defScope sCell, [], []⟩
def d__law_pen : He.DefD := ⟨("_law_pen", none), "_law_pen", "_law_pen", defArgs sPen, defBody sPen, defScope sPen, [], []⟩
def d__law_draw : He.DefD := ⟨("_law_draw", none), "_law_draw", "_law_draw", defArgs sDraw, defBody sDraw, defScope sDraw, [], []⟩
def d__law_pick : He.DefD := ⟨("_law_pick", none), "_law_pick", "_law_pick", defArgs sPick, defBody sPick, defScope sPick, [], []⟩
def d__law_anything : He.DefD := ⟨("_law_anything", none), "_law_anything", "_law_anything", defArgs sAny, defBody sAny, defScope sAny, [], []⟩
def d__law_name : He.DefD := ⟨("_law_name", none), "_law_name", "_law_name", defArgs sName, defBody sName, defScope sName, [], []⟩
def d__law_number : He.DefD := ⟨("_law_number", none), "_law_number", "_law_number", defArgs sNum, defBody sNum, defScope sNum, [], []⟩
def d__law_is_name : He.DefD := ⟨("_law_is_name", none), "_law_is_name", "_law_is_name", defArgs sLName, defBody sLName, defScope sLName, [], []⟩
def d__law_when : He.DefD := ⟨("_law_when", none), "_law_when", "_law_when", defArgs sWhen, defBody sWhen, defScope sWhen, [], []⟩
def d__law_feat : He.DefD := ⟨("_law_feat", none), "_law_feat", "_law_feat", defArgs sFeat, defBody sFeat, defScope sFeat, [], []⟩
def d__law_is_feat : He.DefD := ⟨("_law_is_feat", none), "_law_is_feat", "_law_is_feat", defArgs sIsFeat, defBody sIsFeat, defScope sIsFeat, [], []⟩
def d__law_feats : He.DefD := ⟨("_law_feats", none), "_law_feats", "_law_feats", defArgs sFeats, defBody sFeats, defScope sFeats, [], []⟩
def d__law_shown : He.DefD := ⟨("_law_shown", none), "_law_shown", "_law_shown", defArgs sShown, defBody sShown, defScope sShown, [], []⟩
def d__law_values : He.DefD := ⟨("_law_values", none), "_law_values", "_law_values", defArgs sValues, defBody sValues, defScope sValues, [], []⟩
def d__law_bent : He.DefD := ⟨("_law_bent", none), "_law_bent", "_law_bent", defArgs sBent, defBody sBent, defScope sBent, [], []⟩
def d_law : He.DefD := ⟨("law", none), "law", "law", defArgs sLaw, defBody sLaw, defScope sLaw, [], []⟩
def d_are_deeds : He.DefD := ⟨("are_deeds", none), "are_deeds", "are_deeds", defArgs sAreD, defBody sAreD, defScope sAreD, [], []⟩
def d_writes_number : He.DefD := ⟨("writes_number", none), "writes_number", "writes_number", defArgs sWrites, defBody sWrites, defScope sWrites, [], []⟩
def d_deed_of : He.DefD := ⟨("deed_of", none), "deed_of", "deed_of", defArgs sDeedOf, defBody sDeedOf, defScope sDeedOf, [], []⟩
def d_read_sheet : He.DefD := ⟨("read_sheet", none), "read_sheet", "read_sheet", defArgs sRead, defBody sRead, defScope sRead, [], []⟩
def d__law_figures : He.DefD := ⟨("_law_figures", none), "_law_figures", "_law_figures", defArgs sFigs, defBody sFigs, defScope sFigs, [], []⟩
def d__law_row_in : He.DefD := ⟨("_law_row_in", none), "_law_row_in", "_law_row_in", defArgs sRowIn, defBody sRowIn, defScope sRowIn, [], []⟩
def d__law_due : He.DefD := ⟨("_law_due", none), "_law_due", "_law_due", defArgs sDue, defBody sDue, defScope sDue, [], []⟩
def d__law_read : He.DefD := ⟨("_law_read", none), "_law_read", "_law_read", defArgs sLRead, defBody sLRead, defScope sLRead, [], []⟩
def d_Deed___init__ : He.DefD := ⟨("Deed", some "__init__"), "__init__", "Deed.__init__", defArgs sIni, defBody sIni, defScope sIni, [.int 0, .int 0, .str "yard"], []⟩
def d_Deed_parts : He.DefD := ⟨("Deed", some "parts"), "parts", "Deed.parts", defArgs sParts, defBody sParts, defScope sParts, [], []⟩
def d_Deed_time : He.DefD := ⟨("Deed", some "time"), "time", "Deed.time", defArgs sTime, defBody sTime, defScope sTime, [], []⟩
def d_Deed___eq__ : He.DefD := ⟨("Deed", some "__eq__"), "__eq__", "Deed.__eq__", defArgs sEq, defBody sEq, defScope sEq, [], []⟩
def d_Deed___str__ : He.DefD := ⟨("Deed", some "__str__"), "__str__", "Deed.__str__", defArgs sStr, defBody sStr, defScope sStr, [], []⟩
def d_Sheet___init__ : He.DefD := ⟨("Sheet", some "__init__"), "__init__", "Sheet.__init__", defArgs sSIni, defBody sSIni, defScope sSIni, [.non], []⟩
def d_Sheet_all_deeds : He.DefD := ⟨("Sheet", some "all_deeds"), "all_deeds", "Sheet.all_deeds", defArgs sSAll, defBody sSAll, defScope sSAll, [], []⟩
def d_NoText___init__ : He.DefD := ⟨("NoText", some "__init__"), "__init__", "NoText.__init__", defArgs sNTI, defBody sNTI, defScope sNTI, [], []⟩
def hfn : List He.DefD := ([d_is_number, d_is_number_from, d_is_name, d_is_day, d_is_hour, d_is_wind, d_is_mark, d__law_cell, d__law_pen, d__law_draw, d__law_pick, d__law_anything, d__law_name, d__law_number, d__law_is_name, d__law_when, d__law_feat, d__law_is_feat, d__law_feats, d__law_shown] : List He.DefD) ++ ([d__law_values, d__law_bent, d_law, d_are_deeds, d_writes_number, d_deed_of, d_read_sheet, d__law_figures, d__law_row_in, d__law_due, d__law_read, d_Deed___init__, d_Deed_parts, d_Deed_time, d_Deed___eq__, d_Deed___str__, d_Sheet___init__, d_Sheet_all_deeds, d_NoText___init__] : List He.DefD)
def hfa : List He.Fa := ([.glo "is_number", .glo "is_number_from", .glo "is_name", .glo "is_day", .glo "is_hour", .glo "is_wind", .glo "is_mark", .glo "_law_cell", .glo "_law_pen", .glo "_law_draw", .glo "_law_pick", .glo "_law_anything", .glo "_law_name", .glo "_law_number", .glo "_law_is_name", .glo "_law_when", .glo "_law_feat", .glo "_law_is_feat", .glo "_law_feats", .glo "_law_shown"] : List He.Fa) ++ ([.glo "_law_values", .glo "_law_bent", .glo "law", .glo "are_deeds", .glo "writes_number", .glo "deed_of", .glo "read_sheet", .glo "_law_figures", .glo "_law_row_in", .glo "_law_due", .glo "_law_read", .glo "NoDeed", .glo "NoSheet", .glo "NoText", .glo "ClubError", .glo "Deed", .glo "Sheet", .free "isinstance", .free "int", .free "bool"] : List He.Fa) ++ ([.free "tuple", .free "list", .free "str", .free "len", .free "all", .free "range", .free "enumerate", .free "repr", .free "min", .free "max", .free "sorted", .free "zip", .free "ValueError", .free "LookupError", .int "MOST_DAY" 40000, .int "LAST_HOUR" 23, .int "MOST_WIND" 99, .int "LEAST_MARK" 1, .int "MOST_MARK" 1000000, .int "LONGEST_NAME" 8] : List He.Fa) ++ ([.int "MOST_DEEDS" 60, .int "WORDS_OF_DEED" 7, .int "MOST_FIGURES" 7, .str "LETTERS" "abcdefghijklmnopqrstuvwxyz", .str "NO_DEEDS" "none", .str "FIGURES" "0123456789", .cls "Deed", .noat "Deed" "name", .noat "Deed" "event", .noat "Deed" "mark", .noat "Deed" "day", .noat "Deed" "hour", .noat "Deed" "wind", .noat "Deed" "course", .meth "Deed" "parts", .meth "Deed" "time", .meth "Deed" "__eq__", .meth "Deed" "__str__", .mkr "Deed", .exc "NoDeed"] : List He.Fa) ++ ([.cls "Sheet", .noat "Sheet" "_deeds", .meth "Sheet" "all_deeds", .mkr "Sheet", .exc "NoSheet", .exm "NoDeed" "NoDeed" true, .meth "NoText" "__init__"] : List He.Fa)
def htf : List He.Defn := []

def insB (K : PySem.W.Frag) (C : Addr) : Bool :=
  He.eqO (PySem.W.findIn K (.ref C) "__class__") (some (some (.builtin "object.__class__"))) && (He.eqO (PySem.W.specialIn K (.builtin "object.__class__") "__get__") (some (some (.builtin "getset_descriptor.__get__"))) && (decide (PySem.W.takesIn K (.builtin "object.__class__") = some true) && (decide (PySem.W.mroIn K C (.type "object") = some true) &&
  (decide (PySem.W.kitOne K (.ref C) (.ref C) = some true) && (He.eqO (PySem.W.findIn K (.ref C) "__ne__") (some (some (.builtin "object.__ne__"))) && (decide (PySem.W.subIn K (.ref C) (.type "object") = some true) &&
  tyNames.all (fun n => decide (PySem.W.kitOne K (.type n) (.ref C) = some false))))))))
def excB (K : PySem.W.Frag) (D : Addr) : Bool :=
  He.eqO (PySem.W.findIn K (.ref D) "__getattribute__") (some (some (.builtin "BaseException.__getattribute__"))) && (He.eqO (PySem.W.findIn K (.ref D) "__getattr__") (some none) && (decide (PySem.W.subIn K (.ref D) (.type "BaseException") = some true) && (PySem.W.hasDictIn K D &&
  (He.eqO (PySem.W.findIn K (.ref D) "__class__") (some (some (.builtin "object.__class__"))) && (He.eqO (PySem.W.specialIn K (.builtin "object.__class__") "__get__") (some (some (.builtin "getset_descriptor.__get__"))) && (decide (PySem.W.takesIn K (.builtin "object.__class__") = some true) && decide (PySem.W.mroIn K D (.type "object") = some true)))))))
theorem excB_ok {K : PySem.W.Frag} {D : Addr} (h : excB K D = true) : ExcC K D := by
  obtain ⟨h1, h⟩ := He.ba h
  obtain ⟨h2, h⟩ := He.ba h
  obtain ⟨h3, h⟩ := He.ba h
  obtain ⟨h4, h⟩ := He.ba h
  obtain ⟨h5, h⟩ := He.ba h
  obtain ⟨h6, h⟩ := He.ba h
  obtain ⟨h7, h8⟩ := He.ba h
  exact ⟨He.eqO_ok h1, He.eqO_ok h2, of_decide_eq_true h3, h4, He.eqO_ok h5, He.eqO_ok h6, of_decide_eq_true h7, of_decide_eq_true h8⟩

def ntiB (K : PySem.W.Frag) (TE DE SE CC : Addr) : Bool := excB K TE && (decide (PySem.W.kitOne K (.ref TE) (.ref TE) = some true) && (decide (PySem.W.kitAny K (.ref TE) [.ref DE, .ref SE] = some false) && (decide (PySem.W.kitOne K (.ref TE) (.type "ValueError") = some true) && decide (PySem.W.exmOne K (.ref TE) (.ref CC) = some true))))
def hex (K : PySem.W.Frag) : Bool := insB K (He.ga K "Deed") && (insB K (He.ga K "Sheet") && (npB K (He.ga K "NoText") (He.ma K (He.ga K "NoText") "__init__") && ntiB K (He.ga K "NoText") (He.ga K "NoDeed") (He.ga K "NoSheet") (He.ga K "ClubError")))
abbrev R : PySem.W.OpenRow := PySem.W.OpenLaw.row PySem.Challenge.rw_bestsbook_k13_texts_that_write_none
abbrev hk : PySem.W.Hook := He.hookX 5 hfa hfn [] htf hex
def ob (s : PySem.W.SharedT) : He.AlX := He.obsX 5 hfa hfn [] htf hex (HandSHeadRun.getT s)
theorem ob_eq (s : PySem.W.SharedT) : ob s = hk.obs s.abs := He.obsX_eq (HandSHeadRun.getT_eq s)
def loose : List Str := (["_wall", "ClubError", "NoDeed", "NoSheet", "NoText", "LETTERS", "LONGEST_NAME", "MOST_DAY", "LAST_HOUR", "MOST_WIND", "is_number", "is_number_from", "is_name", "is_day", "is_hour", "is_wind", "LEAST_MARK", "MOST_MARK", "is_mark", "Deed"] : List Str) ++ (["MOST_DEEDS", "are_deeds", "Sheet", "NO_DEEDS", "WORDS_OF_DEED", "FIGURES", "MOST_FIGURES", "writes_number", "deed_of", "read_sheet", "_law_cell", "_law_pen", "_law_draw", "_law_pick", "_law_anything", "_law_name", "_law_when", "_law_number", "_law_is_name", "_law_feat"] : List Str) ++ (["_law_is_feat", "_law_feats", "_law_shown", "_law_values", "_law_figures", "_law_row_in", "_law_due", "_law_read", "_law_bent"] : List Str)
theorem run (w : World) : HandSHeadRun.RunEq R (PySem.W.view R.prog [56]) hk ob 9000 loose w := by
  intro os
  kernel_rfl
end K13
set_option Elab.async false
set_option linter.all false
set_option maxRecDepth 100000
set_option maxHeartbeats 4000000
namespace K13
open PySem PySem.Spec PyProof.Rows L2 Bb
/-! the law's own: a number, a name, a row that is a deed's -/
section
variable {P : Program} {w : World} {K : PySem.W.Frag} {mg : Str → Option Value} {base : Heap} {f : Addr} {fd : FuncData}
theorem scNum : FnScope ["_law_thing", "_law_least", "_law_greatest"] ["_law_thing", "_law_least", "_law_greatest"] (defScope sNum) := ⟨rfl, rfl, rfl, by decide +kernel, rfl, by decide +kernel, by decide +kernel⟩
theorem ok_num (F : Fn K "_law_number" "_law_number" sNum f fd) (T : Free mg) : FnOk P w K mg base L2.CX0 1 f fd ["_law_thing", "_law_least", "_law_greatest"] spFrom := by
  refine F.ok scNum (fun vs H Q E h => ?_) (fun cdv A outer s H vs Q E hr hh => ?_)
  · obtain ⟨x, lo, hi, rfl, _⟩ := h
    rfl
  · obtain ⟨x, lo, hi, rfl, hx, q⟩ := hh
    obtain ⟨n, ty, k1, k2⟩ := hx.ty (K := K)
    refine ⟨_, PSs.nox (pss_one (ps_ret (pe_and (pe_callB call_isi rfl T.isi boot_isinstance (pa_cons (pv 0) (pa_cons (pe_bltn rfl T.int_ (by decide +kernel) (v := .ty "int") rfl) pa_nil)))
      (pe_and (pe_not (pe_callB call_isi rfl T.isi boot_isinstance (pa_cons (pv 0) (pa_cons (pe_bltn rfl T.bool_ (by decide +kernel) (v := .ty "bool") rfl) pa_nil))))
      (pe_one (pe_chain op_le op_le (pv 1) (pv 0) (pv 2))))))), ?_⟩
    refine ⟨x, rfl, _, _, _, _, _, rfl, .ty "int", ty, kit_ty k1, _, rfl, ?_⟩
    cases x with
    | int i =>
      refine ⟨_, rfl, _, _, _, _, _, rfl, .ty "bool", ty, kit_ty k2, _, rfl, _, rfl, iteT ?_⟩
      refine ⟨_, rfl, _, rfl, _, _, rfl, rfl, _, rfl, ?_⟩
      refine ite2 (fun c => ?_) (fun c => ?_)
      · refine ⟨_, rfl, _, _, rfl, rfl, ?_⟩
        have e : numIn lo hi (.int i) = decide (i ≤ hi) := by
          show (decide (lo ≤ i) && decide (i ≤ hi)) = _
          rw [c, Bool.true_and]
        rw [e] at q
        exact q
      · have e : numIn lo hi (.int i) = false := by
          show (decide (lo ≤ i) && decide (i ≤ hi)) = _
          rw [Bool.eq_false_iff.mpr c, Bool.false_and]
        rw [e] at q
        exact q
    | bl b => exact ⟨_, rfl, _, _, _, _, _, rfl, .ty "bool", ty, kit_ty k2, _, rfl, _, rfl, iteF q⟩
    | _ => exact q
end
def rNIn : R2 := fun x y H Q => ∃ (c : Nat) (z : Str), x = .str ⟨#[c]⟩ ∧ y = .str z ∧ Q (.bl (!decide (c ∈ z.cps.toList))) H
theorem op_nin {X : Cx} : OpR X (compareOp .NotIn) rNIn := op_notIn_sign
section
variable {P : Program} {w : World} {K : PySem.W.Frag} {mg : Str → Option Value} {base : Heap} {f : Addr} {fd : FuncData}
theorem scLName : FnScope ["_law_thing", "_law_sign"] ["_law_thing"] (defScope sLName) := ⟨rfl, rfl, rfl, by decide +kernel, rfl, by decide +kernel, by decide +kernel⟩
theorem ok_lname (F : Fn K "_law_is_name" "_law_is_name" sLName f fd) (T : Free mg) : FnOk P w K mg base L2.CX0 1 f fd ["_law_thing"] (spPred nameD) := by
  refine F.ok scLName (fun vs H Q E h => ?_) (fun cdv A outer s H vs Q E hr hh => ?_)
  · obtain ⟨Z, x, d, rfl, _⟩ := h
    rfl
  · obtain ⟨Z, x, d, rfl, hx, sh, q⟩ := hh
    obtain ⟨n, ty⟩ := hx.ty (K := K)
    refine ⟨_, PSs.nox (pss_cons (ps_if (PW.pt (pw_or (pt_not (pt_val (pe_callB call_isi rfl T.isi boot_isinstance (pa_cons (pv 0) (pa_cons (pe_bltn rfl T.str_ (by decide +kernel) (v := .ty "str") rfl) pa_nil)))))
        (pw_or (pt_cmpR op_eq (pv 0) pe_str (nomark _)) (pw_or1 (pt_cmpR op_gt (pe_callB call_len_str rfl T.len_ boot_len (pa_cons (pv 0) pa_nil)) pe_int (nomark _)))))) (pss_one (ps_ret pe_bl)) pss_nil)
      (pss_one (ps_ret (pe_cmpR (op_eqD hr.units) (pe_lc (own := [("_law_sign", 1)]) (g := gName 1) (tt := tTest (tOp rNIn (tVar 1) (tC (.str letters)))) rfl scLName.nd (pi_str (pv 0)) (blkOk_by (N := ["_law_thing", "_law_sign"]) (sc := defScope sLName) (by decide +kernel)) (fun _ _ _ _ _ => pg_name (i := 1) scLName.nd rfl (Or.inl rfl)) (fun _ _ _ _ _ => pts_one (pt_cmpR op_nin (pv 1) pe_str rfl))
        (fun _ _ _ _ _ => pv 1)) (pe_lst pa_nil) (nomark _))))), ?_⟩
    refine ⟨_, rfl, _, _, _, _, _, rfl, .ty "str", ty.ty, kit_ty ty.s, _, rfl, ?_⟩
    cases d with
    | str z =>
      cases hx
      refine iteF ?_
      have hz : z.length ≤ 100000 := of_decide_eq_true (Bool.and_eq_true_iff.mp sh).1
      have lay := (Bool.and_eq_true_iff.mp sh).2
      refine ⟨_, rfl, rfl, _, rfl, ?_⟩
      refine ite2 (fun c => ?_) (fun c => ?_)
      · have ez : z = "" := V.str.inj (of_decide_eq_true c)
        have e : nameD (.str z) = false := nameZ_no (fun y => by rw [ez] at y; exact absurd y.1 (by decide))
        rw [e] at q
        exact iteT (q H (Same.refl H))
      · have ez : z ≠ "" := fun ez => c (decide_eq_true (congrArg V.str ez))
        refine ⟨_, rfl, z, rfl, (by have := sizeLine_eq; omega), _, _, rfl, rfl, _, rfl, ?_⟩
        refine ite2 (fun c2 => ?_) (fun c2 => ?_)
        · have h2 : (8 : Int) < (z.length : Int) := of_decide_eq_true c2
          have e : nameD (.str z) = false := nameZ_no (fun y => by omega)
          rw [e] at q
          exact q H (Same.refl H)
        · have h2 : ¬ (8 : Int) < (z.length : Int) := fun y => c2 (decide_eq_true y)
          have h1 : 1 ≤ z.length := by
            rcases Nat.eq_zero_or_pos z.length with e | e
            · refine absurd ?_ ez
              obtain ⟨cs⟩ := z
              have e2 : cs = #[] := Array.size_eq_zero_iff.mp e
              rw [e2]
              decide +kernel
            · exact e
          refine ⟨_, rfl, z, rfl, fun D hD => lc_it walk_str (fun i H' => Same H H' ∧ H' D = some (.lst (sV (oddSigns (z.cps.toList.take i)))))
            ⟨up2 hD, by rw [List.take_zero]; exact upd_same⟩ (fun _ _ _ _ => True.intro) ?_ ?_⟩
          · rintro i v H1 H2 hi ⟨sm, hl⟩ ⟨rfl, c, hc, rfl⟩
            have et := take_sn (sign_at hc)
            refine ⟨rfl, _, rfl, c, _, rfl, rfl, _, rfl, ?_⟩
            have sp : oddSigns (z.cps.toList.take (i + 1)) = oddSigns (z.cps.toList.take i) ++ oddSigns [c] := by
              unfold oddSigns
              rw [et, List.filter_append]
            refine ite2 (fun c3 => ?_) (fun c3 => ?_)
            · have o1 : oddSigns [c] = [c] := by
                unfold oddSigns
                rw [List.filter_cons, if_pos c3, List.filter_nil]
              refine ⟨_, rfl, _, hl, small1000 ?_, same_upd sm hD, ?_⟩
              · have a1 : (sV (oddSigns (z.cps.toList.take i))).length ≤ i := by
                  unfold sV oddSigns
                  rw [List.length_map]
                  exact Nat.le_trans (List.length_filter_le _ _) (by rw [List.length_take]; omega)
                have := strlen z
                have e3 : z.cps.size = z.cps.toList.length := by rw [Array.length_toList]
                omega
              · rw [upd_same, sp, o1]
                unfold sV
                rw [List.map_append]
                rfl
            · have o1 : oddSigns [c] = [] := by
                unfold oddSigns
                rw [List.filter_cons, if_neg c3, List.filter_nil]
              refine ⟨sm, ?_⟩
              rw [sp, o1, List.append_nil]
              exact hl
          · rintro H1 ⟨sm, hl⟩
            rw [show z.cps.size = z.cps.toList.length by rw [Array.length_toList], List.take_length] at hl
            refine ⟨Nat.zero_le _, fun e2 he2 => ?_⟩
            have s2 := up2 (o := .lst []) he2
            have lays : PyData.canLayAll0 (sD (oddSigns z.cps.toList)) = true := lay_signs fun c hc => by
              obtain ⟨j, hj⟩ := List.getElem?_of_mem ((List.mem_filter.mp hc).1)
              rw [Array.getElem?_toList] at hj
              exact sign_ok lay hj
            refine ⟨.list (sD (oddSigns z.cps.toList)), .list [], .lst (SqL.of (s2 _ _ hl)) (dp_signs _), .lst (SqL.of upd_same) .nil, ?_, by decide, ?_⟩
            · unfold SeqAt.shaped
              rw [Bool.and_eq_true]
              refine ⟨lays, decide_eq_true ?_⟩
              show PyData.depthAll (sD (oddSigns z.cps.toList)) + 1 ≤ 64
              rw [depth_signs]
              decide
            · rw [eqv_nil, odd_nil]
              have e : nameD (.str z) = z.cps.toList.all (fun c => decide (c ∈ letters.cps.toList)) := nameZ_of h1 (by omega) rfl
              rw [e] at q
              exact q _ (sm.trans s2)
    | _ => exact q H (Same.refl H)
end
/-- a row of seven parts, texts not too long -/
structure RowL (Z : Addr → Prop) (H : Hp) (R : Addr) (xs : List V) (ds : List PyData) : Prop where
  at_ : H R = some (.tup xs)
  al : DaAll Z H xs ds
  len : ds.length = 7
  sh : ∀ d ∈ ds, shortD d = true
def spIsRow : Sp := fun vs H Q _ => ∃ (Z : Addr → Prop) (R : Addr) (xs : List V) (ds : List PyData), vs = [.ref R] ∧ RowL Z H R xs ds ∧ ∀ H', Same H H' → Q (.bl (okds ds)) H'
section
variable {P : Program} {w : World} {K : PySem.W.Frag} {mg : Str → Option Value} {base : Heap} {f : Addr} {fd : FuncData}
theorem dp_ints {K : PySem.W.Frag} {H : Hp} : ∀ l : List Int, DpAll K H (l.map V.int) (l.map PyData.int)
  | [] => .nil
  | i :: l => .cons (.int _) (dp_ints l)
theorem shaped_ints (l : List Int) : SeqAt.shaped (.list (l.map PyData.int)) = true := by
  have h1 : ∀ l : List Int, PyData.canLayAll0 (l.map PyData.int) = true := by
    intro l
    induction l with
    | nil => rfl
    | cons i l ih =>
      show (true && PyData.canLayAll0 (l.map PyData.int)) = true
      rw [ih]
      rfl
  have h2 : ∀ l : List Int, PyData.depthAll (l.map PyData.int) = 0 := by
    intro l
    induction l with
    | nil => rfl
    | cons i l ih =>
      show max (PyData.depth (.int i)) (PyData.depthAll (l.map PyData.int)) = 0
      rw [ih]
      rfl
  unfold SeqAt.shaped
  rw [Bool.and_eq_true]
  refine ⟨h1 l, decide_eq_true ?_⟩
  show PyData.depthAll (l.map PyData.int) + 1 ≤ 64
  rw [h2]
  decide
theorem nil_ints (l : List Int) : PyData.eqv (.list (l.map PyData.int)) (.list []) = decide (l = []) := by
  rw [eqv_nil]
  cases l <;> simp
theorem nb_t {b : Bool} (c : (!b) = true) : b = false := by
  cases b
  · rfl
  · cases c
theorem nb_f {b : Bool} (c : ¬ (!b) = true) : b = true := by
  cases b
  · exact absurd rfl c
  · rfl
theorem all_last (g : Nat → Bool) (i : Nat) : (List.range (i + 1)).all g = ((List.range i).all g && g i) := by
  rw [List.range_succ, List.all_append]
  simp
/-- which are none: one more looked at -/
theorem keep_yes {es : List Int} {g : Nat → Bool} {i : Nat} (h : decide (es = []) = (List.range i).all g) (y : g i = true) : decide (es = []) = (List.range (i + 1)).all g := by
  rw [all_last, y, Bool.and_true]
  exact h
theorem keep_no {es : List Int} {g : Nat → Bool} {i : Nat} {j : Int} (y : g i = false) : decide (es ++ [j] = []) = (List.range (i + 1)).all g := by
  rw [all_last, y, Bool.and_false]
  simp
abbrev nIs : List Str := ["_law_row", "_law_spans", "_law_at", "_law_least", "_law_greatest"]
theorem scIsRow : FnScope nIs ["_law_row"] (defScope sIsFeat) := ⟨rfl, rfl, rfl, by decide +kernel, rfl, by decide +kernel, by decide +kernel⟩
theorem ok_isrow {aN aU : Addr} {dN dU : FuncData} (F : Fn K "_law_is_feat" "_law_is_feat" sIsFeat f fd) (T : Free mg) (FN : Fn K "_law_is_name" "_law_is_name" sLName aN dN) (gN : mg "_law_is_name" = some (.ref aN)) (FU : Fn K "_law_number" "_law_number" sNum aU dU) (gU : mg "_law_number" = some (.ref aU)) : FnOk P w K mg base L2.CX0 2 f fd ["_law_row"] spIsRow := by
  have GN : FnOk P w K mg base L2.CX0 1 aN dN ["_law_thing"] (spPred nameD) := ok_lname FN T
  have GU : FnOk P w K mg base L2.CX0 1 aU dU ["_law_thing", "_law_least", "_law_greatest"] spFrom := ok_num FU T
  have bN : Binds K dN ["_law_thing"] [] := FN.bindsN fun _ _ _ _ _ _ us hl => match us, hl with | [_], _ => rfl
  have bU : Binds K dU ["_law_thing", "_law_least", "_law_greatest"] [] := FU.bindsN fun _ _ _ _ _ _ us hl => match us, hl with | [_, _, _], _ => rfl
  refine F.ok scIsRow (fun vs H Q E h => ?_) (fun cdv A outer s H vs Q E hr hh => ?_)
  · obtain ⟨Z, R, xs, ds, rfl, _⟩ := h
    rfl
  · obtain ⟨Z, R, xs, ds, rfl, row, q⟩ := hh
    obtain ⟨v0, v1, v2, v3, v4, v5, v6, d0, d1, d2, d3, d4, d5, d6, rfl, rfl, h0, h1, h2, h3, h4, h5, h6⟩ := daall_m row.al row.len
    refine ⟨_, PSs.nox (pss_cons (ps_if (pt_cmpR (op_neD hr.units) (pe_lc (own := [("_law_at", 2)]) (g := gName 2) (tt := tNot (tB (tCall (spPred nameD) [] E0 (tCons (tOp (rIxT K) (tVar 0) (tVar 2)) tNil)))) rfl scIsRow.nd (pi_tup (pe_tup (pa_cons pe_int (pa_cons pe_int (pa_cons pe_int pa_nil))))) (blkOk_by (N := nIs) (sc := defScope sIsFeat) (by decide +kernel)) (fun _ _ _ _ _ => pg_name (i := 2) scIsRow.nd rfl (Or.inl rfl))
        (fun _ _ _ _ _ => pts_one (pt_not (pt_val (pe_call GN hr rfl gN FN.kp bN .nil pass0 (pa_cons (pe_ix ix_tup (pv 0) (pv 2) (fun _ _ => rfl)) pa_nil))))) (fun _ _ _ _ _ => pv 2)) (pe_lst pa_nil) (nomark _)) (pss_one (ps_ret pe_bl)) pss_nil)
      (pss_cons (ps_set (i := 1) scIsRow.nd rfl (.inl rfl) (pe_lst (pa_cons (pe_tup (pa_cons pe_int (pa_cons pe_int (pa_cons (pe_op op_pow pe_int pe_int) pa_nil)))) (pa_cons (pe_tup (pa_cons pe_int (pa_cons (pe_un un_neg pe_int) (pa_cons pe_int pa_nil)))) (pa_cons (pe_tup (pa_cons pe_int (pa_cons pe_int (pa_cons pe_int pa_nil)))) (pa_cons (pe_tup (pa_cons pe_int (pa_cons (pe_un un_neg pe_int) (pa_cons pe_int pa_nil)))) pa_nil))))))
      (pss_one (ps_ret (pe_cmpR (op_eqD hr.units) (pe_lc (own := [("_law_at", 2), ("_law_least", 3), ("_law_greatest", 4)]) (g := gTup K 3 (gCons (gName 2) (gCons (gName 3) (gCons (gName 4) gNil)))) (tt := tNot (tB (tCall spFrom [] E0 (tCons (tOp (rIxT K) (tVar 0) (tVar 2)) (tCons (tVar 3) (tCons (tVar 4) tNil)))))) rfl scIsRow.nd (pi_list (pv 1)) (blkOk_by (N := nIs) (sc := defScope sIsFeat) (by decide +kernel))
          (fun _ _ _ _ _ => pg_tup rfl (pgs_cons (pg_name (i := 2) scIsRow.nd rfl (Or.inl rfl) (Or.inr rfl)) (pgs_cons (pg_name (i := 3) scIsRow.nd rfl (Or.inl rfl) (Or.inr rfl)) (pgs_cons (pg_name (i := 4) scIsRow.nd rfl (Or.inl rfl) (Or.inr rfl)) pgs_nil))))
          (fun _ _ _ _ _ => pts_one (pt_not (pt_val (pe_call GU hr rfl gU FU.kp bU .nil pass0 (pa_cons (pe_ix ix_tup (pv 0) (pv 2) (fun _ _ => rfl)) (pa_cons (pv 3) (pa_cons (pv 4) pa_nil))))))) (fun _ _ _ _ _ => pv 2)) (pe_lst pa_nil) (nomark _)))))), ?_⟩
    have i0 : ∀ {a b c d e f g : V}, atI [a, b, c, d, e, f, g] (0 : Int) = some a := fun {a b c d e f g} => at_of (j := 0) rfl rfl
    have i1 : ∀ {a b c d e f g : V}, atI [a, b, c, d, e, f, g] (1 : Int) = some b := fun {a b c d e f g} => at_of (j := 1) rfl rfl
    have i2 : ∀ {a b c d e f g : V}, atI [a, b, c, d, e, f, g] (2 : Int) = some c := fun {a b c d e f g} => at_of (j := 2) rfl rfl
    have i3 : ∀ {a b c d e f g : V}, atI [a, b, c, d, e, f, g] (3 : Int) = some d := fun {a b c d e f g} => at_of (j := 3) rfl rfl
    have i4 : ∀ {a b c d e f g : V}, atI [a, b, c, d, e, f, g] (4 : Int) = some e := fun {a b c d e f g} => at_of (j := 4) rfl rfl
    have i5 : ∀ {a b c d e f g : V}, atI [a, b, c, d, e, f, g] (5 : Int) = some f := fun {a b c d e f g} => at_of (j := 5) rfl rfl
    have i6 : ∀ {a b c d e f g : V}, atI [a, b, c, d, e, f, g] (6 : Int) = some g := fun {a b c d e f g} => at_of (j := 6) rfl rfl
    let g1 : Nat → Bool := fun i => match i with | 0 => nameD d0 | 1 => nameD d1 | _ => nameD d6
    let g2 : Nat → Bool := fun i => match i with | 0 => numD 1 1000000 d2 | 1 => numD (-40000) 40000 d3 | 2 => numD 0 23 d4 | _ => numD (-99) 99 d5
    refine ⟨(by show 3 ≤ sizeLine; decide), fun T0 hT0 => ?_⟩
    have u1 := up2 (o := .tup [.int 0, .int 1, .int 6]) hT0
    obtain ⟨H1, eH1⟩ : ∃ G, G = upd H T0 (.tup [.int 0, .int 1, .int 6]) := ⟨_, rfl⟩
    have hT1 : H1 T0 = some (.tup [.int 0, .int 1, .int 6]) := by
      rw [eH1]
      exact upd_same
    rw [← eH1] at u1 ⊢
    refine ⟨T0, rfl, ⟨_, SqT.of hT1⟩, fun D hD => lc_tup (K := K) (a := T0) (xs := [.int 0, .int 1, .int 6]) (fun i H' => Same H1 H' ∧ ∃ es : List Int, H' D = some (.lst (es.map V.int)) ∧ es.length ≤ i ∧ decide (es = []) = (List.range i).all g1)
      ⟨up2 hD, [], upd_same, Nat.le_refl _, rfl⟩ (fun i H' _ ⟨s', _⟩ => SqT.of (s' _ _ hT1)) ?_ ?_⟩
    · rintro i y H' hy ⟨s', es, hDe, len, al⟩
      have sm := u1.trans s'
      have ilt := (List.getElem?_eq_some_iff.mp hy).1
      have ilt3 : i < 3 := ilt
      obtain ⟨j, v, d, rfl, ev, hd, sd, eg⟩ : ∃ (j : Int) (v : V) (d : PyData), y = .int j ∧ atI [v0, v1, v2, v3, v4, v5, v6] j = some v ∧ Da Z H v d ∧ shortD d = true ∧ nameD d = g1 i := by
        match i, hy with
        | 0, hy => exact ⟨0, v0, d0, (Option.some.inj hy).symm, i0, h0, row.sh _ (by simp), rfl⟩
        | 1, hy => exact ⟨1, v1, d1, (Option.some.inj hy).symm, i1, h1, row.sh _ (by simp), rfl⟩
        | 2, hy => exact ⟨6, v6, d6, (Option.some.inj hy).symm, i6, h6, row.sh _ (by simp), rfl⟩
        | n + 3, hy => simp at hy
      refine ⟨rfl, _, rfl, _, rfl, R, _, j, v, rfl, rfl, SqT.of (sm _ _ row.at_), ev, Z, v, d, rfl, Da.keep (Keeps.of sm) _ _ hd, sd, fun H2 s2 => ⟨_, rfl, ?_⟩⟩
      have hD2 := s2 _ _ hDe
      refine ite2 (fun c => ?_) (fun c => ?_)
      · have cg : g1 i = false := by
          rw [← eg]
          simpa using c
        refine ⟨_, rfl, es.map V.int, hD2, small1000 (by rw [List.length_map]; omega), same_upd (s'.trans s2) hD, es ++ [j], by rw [upd_same, List.map_append]; rfl, by simp; omega, keep_no cg⟩
      · have cg : g1 i = true := by
          rw [← eg]
          simpa using c
        exact ⟨s'.trans s2, es, hD2, by omega, keep_yes al cg⟩
    rintro H3 ⟨s3, es, hD3, len, al⟩
    refine ⟨Nat.zero_le _, fun e2 he2 => ?_⟩
    have u4 := up2 (o := .lst []) he2
    refine ⟨.list (es.map .int), .list [], .lst (SqL.of (u4 _ _ hD3)) (dp_ints _), .lst (SqL.of upd_same) .nil, shaped_ints _, by decide, _, rfl, ?_⟩
    rw [nil_ints, al]
    have sA := u1.trans (s3.trans u4)
    obtain ⟨H4, eH4⟩ : ∃ G, G = upd H3 e2 (.lst []) := ⟨_, rfl⟩
    rw [← eH4] at sA ⊢
    have ea : (List.range [V.int 0, V.int 1, V.int 6].length).all g1 = (nameD d0 && (nameD d1 && nameD d6)) := by
      show (List.range 3).all g1 = _
      rw [all_last, all_last, all_last]
      show (((true && nameD d0) && nameD d1) && nameD d6) = _
      rw [Bool.true_and, Bool.and_assoc]
    rw [ea]
    have eo : okds [d0, d1, d2, d3, d4, d5, d6] = (nameD d0 && (nameD d1 && (numD 1 1000000 d2 && (numD (-40000) 40000 d3 && (numD 0 23 d4 && (numD (-99) 99 d5 && nameD d6)))))) := rfl
    refine ite2 (fun c => ?_) (fun c => ?_)
    · have c' : (nameD d0 && (nameD d1 && nameD d6)) = false := nb_t c
      have bb : ∀ a b c n2 n3 n4 n5 : Bool, (a && (b && c)) = false → (a && (b && (n2 && (n3 && (n4 && (n5 && c)))))) = false := by decide
      have z := q H4 sA
      rw [eo, bb _ _ _ _ _ _ _ c'] at z
      exact z
    have c' : (nameD d0 && (nameD d1 && nameD d6)) = true := nb_f c
    refine ⟨_, _, rfl, rfl, ⟨by decide, by decide, by decide⟩, (by show 3 ≤ sizeLine; decide), fun T1 t1 => ?_⟩
    refine ⟨_, rfl, (by show 3 ≤ sizeLine; decide), fun T2 t2 => ⟨(by show 3 ≤ sizeLine; decide), fun T3 t3 => ⟨_, rfl, (by show 3 ≤ sizeLine; decide), fun T4 t4 => ⟨(by show 4 ≤ sizeLine; decide), fun L hL => ?_⟩⟩⟩⟩
    have w1 := up2 (o := .tup [.int 2, .int 1, .int (10 ^ 6)]) t1
    have w2 := up2 (o := .tup [.int 3, .int (-40000), .int 40000]) t2
    have w3 := up2 (o := .tup [.int 4, .int 0, .int 23]) t3
    have w4 := up2 (o := .tup [.int 5, .int (-99), .int 99]) t4
    have w5 := up2 (o := .lst [.ref T1, .ref T2, .ref T3, .ref T4]) hL
    let H5 : Hp := upd (upd (upd (upd (upd H4 T1 (.tup [.int 2, .int 1, .int (10 ^ 6)])) T2 (.tup [.int 3, .int (-40000), .int 40000])) T3 (.tup [.int 4, .int 0, .int 23])) T4 (.tup [.int 5, .int (-99), .int 99])) L (.lst [.ref T1, .ref T2, .ref T3, .ref T4])
    have e1 : H5 T1 = some (.tup [.int 2, .int 1, .int (10 ^ 6)]) := (w2.trans (w3.trans (w4.trans w5))) _ _ upd_same
    have e2' : H5 T2 = some (.tup [.int 3, .int (-40000), .int 40000]) := (w3.trans (w4.trans w5)) _ _ upd_same
    have e3 : H5 T3 = some (.tup [.int 4, .int 0, .int 23]) := (w4.trans w5) _ _ upd_same
    have e4 : H5 T4 = some (.tup [.int 5, .int (-99), .int 99]) := w5 _ _ upd_same
    have w15 : Same H4 H5 := w1.trans (w2.trans (w3.trans (w4.trans w5)))
    have eL : H5 L = some (.lst [.ref T1, .ref T2, .ref T3, .ref T4]) := upd_same
    have sB : Same H H5 := sA.trans w15
    refine ⟨_, rfl, L, rfl, ⟨_, SqL.of eL⟩, fun D hD => lc_list (K := K) (a := L) (xs := [.ref T1, .ref T2, .ref T3, .ref T4]) (fun i H' => Same H5 H' ∧ ∃ es : List Int, H' D = some (.lst (es.map V.int)) ∧ es.length ≤ i ∧ decide (es = []) = (List.range i).all g2)
      ⟨up2 hD, [], upd_same, Nat.le_refl _, rfl⟩ (fun i H' _ ⟨s', _⟩ => SqL.of (s' _ _ eL)) ?_ ?_⟩
    · rintro i y H' hy ⟨s', es, hDe, len, al⟩
      have sm := sB.trans s'
      have ilt := (List.getElem?_eq_some_iff.mp hy).1
      have ilt3 : i < 4 := ilt
      obtain ⟨Tt, j, lo, hi, v, d, rfl, et, ev, hd, eg⟩ : ∃ (Tt : Addr) (j lo hi : Int) (v : V) (d : PyData), y = .ref Tt ∧ H5 Tt = some (.tup [.int j, .int lo, .int hi]) ∧ atI [v0, v1, v2, v3, v4, v5, v6] j = some v ∧ Da Z H v d ∧ numD lo hi d = g2 i := by
        match i, hy with
        | 0, hy => exact ⟨T1, 2, 1, _, v2, d2, (Option.some.inj hy).symm, e1, i2, h2, rfl⟩
        | 1, hy => exact ⟨T2, 3, _, _, v3, d3, (Option.some.inj hy).symm, e2', i3, h3, rfl⟩
        | 2, hy => exact ⟨T3, 4, _, _, v4, d4, (Option.some.inj hy).symm, e3, i4, h4, rfl⟩
        | 3, hy => exact ⟨T4, 5, _, _, v5, d5, (Option.some.inj hy).symm, e4, i5, h5, rfl⟩
        | n + 4, hy => simp at hy
      refine ⟨Tt, _, rfl, SqT.of (s' _ _ et), rfl, _, _, rfl, _, _, rfl, _, _, rfl, rfl, rfl, ?_⟩
      refine ⟨_, rfl, _, rfl, R, _, j, v, rfl, rfl, SqT.of (sm _ _ row.at_), ev, _, rfl, _, rfl, v, lo, hi, rfl, (da_th hd).same sm, _, rfl, ?_⟩
      rw [num_da hd]
      refine ite2 (fun c => ?_) (fun c => ?_)
      · have cg : g2 i = false := by
          rw [← eg]
          simpa using c
        refine ⟨_, rfl, es.map V.int, hDe, small1000 (by rw [List.length_map]; omega), same_upd s' hD, es ++ [j], by rw [upd_same, List.map_append]; rfl, by simp; omega, keep_no cg⟩
      · have cg : g2 i = true := by
          rw [← eg]
          simpa using c
        exact ⟨s', es, hDe, by omega, keep_yes al cg⟩
    rintro H6 ⟨s6, es, hD6, len, al⟩
    refine ⟨Nat.zero_le _, fun f2 hf2 => ?_⟩
    have u7 := up2 (o := .lst []) hf2
    refine ⟨.list (es.map .int), .list [], .lst (SqL.of (u7 _ _ hD6)) (dp_ints _), .lst (SqL.of upd_same) .nil, shaped_ints _, by decide, ?_⟩
    rw [nil_ints, al]
    have ec : (List.range [V.ref T1, V.ref T2, V.ref T3, V.ref T4].length).all g2 = (numD 1 1000000 d2 && (numD (-40000) 40000 d3 && (numD 0 23 d4 && numD (-99) 99 d5))) := by
      show (List.range 4).all g2 = _
      rw [all_last, all_last, all_last, all_last]
      show ((((true && numD 1 1000000 d2) && numD (-40000) 40000 d3) && numD 0 23 d4) && numD (-99) 99 d5) = _
      rw [Bool.true_and, Bool.and_assoc, Bool.and_assoc]
    rw [ec]
    have z := q _ (sB.trans (s6.trans u7))
    have bb : ∀ a b c n2 n3 n4 n5 : Bool, (a && (b && c)) = true → (a && (b && (n2 && (n3 && (n4 && (n5 && c)))))) = (n2 && (n3 && (n4 && n5))) := by decide
    rw [eo, bb _ _ _ _ _ _ _ c'] at z
    exact z
end
/-! _law_figures, _law_row_in -/
theorem starts1 {x y : Str} {s : Nat} (hy : TL.tl y = [s]) : Txt.startswith x y = decide ((TL.tl x).head? = some s) := by
  have e1 : y.cps.toList = [s] := hy
  have e2 : y.length = 1 := by
    rw [TL.len_tl, hy]
    rfl
  have e3 : x.cps.toList = TL.tl x := rfl
  unfold Txt.startswith
  rw [StrLaws.subAt_eq, e1, e2, e3, TL.len_tl, List.drop_zero]
  cases h : TL.tl x with
  | nil => rfl
  | cons a l =>
    show (decide (0 + 1 ≤ l.length + 1) && ([a] == [s])) = decide (some a = some s)
    rw [decide_eq_true (by omega), Bool.true_and]
    by_cases c : a = s
    · subst c
      simp
    · rw [decide_eq_false (fun z => c (Option.some.inj z))]
      simpa using c
theorem tl_tail (x : Str) : TL.tl (cutS x (some 1) none) = (TL.tl x).drop 1 := by
  have e : TL.tl (cutS x (some 1) none) = ((TL.tl x).drop (min 1 x.length)).take (x.length - min 1 x.length) := rfl
  rw [e]
  have l := TL.len_tl x
  by_cases c : 1 ≤ x.length
  · rw [Nat.min_eq_left c]
    exact List.take_of_length_le (by rw [List.length_drop]; omega)
  · have z : TL.tl x = [] := List.length_eq_zero_iff.mp (by omega)
    rw [z]
    simp
def figV (z : Str) : V := if isNumW z = true then .int (intW z) else .non
def figD (z : Str) : PyData := if isNumW z = true then .int (intW z) else .none
theorem fig_da {Z : Addr → Prop} {H : Hp} (z : Str) : Da Z H (figV z) (figD z) := by
  unfold figV figD
  split
  · exact .int _
  · exact .non
theorem fig_num {lo hi : Int} {z : Str} : numD lo hi (figD z) = (isNumW z && numD lo hi (.int (intW z))) := by
  unfold figD
  cases h : isNumW z with
  | true => rfl
  | false => rfl
theorem okds_fig (a b c d e g k : Str) : okds [.str a, .str b, figD c, figD d, figD e, figD g, .str k] = ((isNumW c && (isNumW d && (isNumW e && isNumW g))) && okds (rowW a b c d e g k).ds) := by
  show (nameD (.str a) && (nameD (.str b) && ((numD (1) 1000000) (figD c) && ((numD (-40000) 40000) (figD d) && ((numD (0) 23) (figD e) && ((numD (-99) 99) (figD g) && (nameD (.str k)))))))) = ((isNumW c && (isNumW d && (isNumW e && isNumW g))) && (nameD (.str a) && (nameD (.str b) && ((numD (1) 1000000) (.int (intW c)) && ((numD (-40000) 40000) (.int (intW d)) && ((numD (0) 23) (.int (intW e)) && ((numD (-99) 99) (.int (intW g)) && (nameD (.str k)))))))))
  rw [fig_num, fig_num, fig_num, fig_num]
  generalize nameD (.str a) = A1
  generalize nameD (.str b) = A2
  generalize nameD (.str k) = A3
  generalize isNumW c = B1
  generalize isNumW d = B2
  generalize isNumW e = B3
  generalize isNumW g = B4
  generalize (numD (1) 1000000) (.int (intW c)) = C1
  generalize (numD (-40000) 40000) (.int (intW d)) = C2
  generalize (numD (0) 23) (.int (intW e)) = C3
  generalize (numD (-99) 99) (.int (intW g)) = C4
  revert A1 A2 A3 B1 B2 B3 B4 C1 C2 C3 C4
  decide +kernel
def oddFigs (l : List Nat) : List Nat := l.filter fun c => !decide (c ∈ (Str.ofString "0123456789").cps.toList)
theorem oddFigs_nil (l : List Nat) : decide (sD (oddFigs l) = []) = l.all digC := by
  unfold oddFigs sD
  induction l with
  | nil => rfl
  | cons c l ih =>
    rw [List.filter_cons, dig_in, List.all_cons]
    cases h : digC c with
    | true =>
      rw [Bool.true_and]
      exact ih
    | false => rfl
def spFigs : Sp := fun vs H Q _ => ∃ z : Str, vs = [.str z] ∧ TX 100000 z ∧ ∀ H', Same H H' → Q (figV z) H'
def tBare : TS := fun D σ H => ∃ (x : Str) (v1 v2 : Option V), σ = [some (.str x), v1, v2] ∧ x.length ≤ 100000 ∧ ∀ b, TL.tl b = figW x → D.nx [some (.str x), some (.str b), v2] H
abbrev nFg : List Str := ["_law_word", "_law_bare", "_law_sign"]
section
variable {P : Program} {w : World} {K : PySem.W.Frag} {mg : Str → Option Value} {base : Heap} {f : Addr} {fd : FuncData}
theorem scFg : FnScope nFg ["_law_word"] (defScope sFigs) := ⟨rfl, rfl, rfl, by decide +kernel, rfl, by decide +kernel, by decide +kernel⟩
theorem ok_figs (F : Fn K "_law_figures" "_law_figures" sFigs f fd) (T : Free mg) : FnOk P w K mg base L2.CX0 1 f fd ["_law_word"] spFigs := by
  refine F.ok scFg (fun vs H Q E h => ?_) (fun cdv A outer s H vs Q E hr hh => ?_)
  · obtain ⟨z, rfl, _⟩ := h
    rfl
  · obtain ⟨x, rfl, tx, q⟩ := hh
    have hu := hr.units
    refine' ⟨_, PSs.nox ?d, ?r⟩
    case d =>
      refine' pss_cons (psBy (t' := tBare) (ps_set (i := 1) scFg.nd rfl (.inl rfl) (pe_ifExp (pt_val (pe_bm PySem.F.plainAttrs_str PySem.F.slot_str_startswith PySem.F.type_str_startswith mt_startswith (pv 0) (pa_cons pe_str pa_nil))) (pe_slice sl_str (pv 0) (po_some pe_int) po_none) (pv 0))) ?w1)
        (pss_cons (ps_if (PW.pt (pw_or (pt_cmpR op_eq (pv 1) pe_str (nomark _)) (pw_or (pt_cmpR op_gt (pe_callB call_len_str rfl T.len_ boot_len (pa_cons (pv 1) pa_nil)) pe_int (nomark _)) (pw_or1 (pt_cmpR (op_neD hu) (pe_lc (own := [("_law_sign", 2)]) (g := gName 2) (tt := tTest (tOp rNIn (tVar 2) (tC (.str (Str.ofString "0123456789"))))) rfl scFg.nd (pi_str (pv 1)) (blkOk_by (N := nFg) (sc := defScope sFigs) (by decide +kernel)) (fun _ _ _ _ _ => pg_name (i := 2) scFg.nd rfl (Or.inl rfl))
            (fun _ _ _ _ _ => pts_one (pt_cmpR op_nin (pv 2) pe_str rfl)) (fun _ _ _ _ _ => pv 2)) (pe_lst pa_nil) (nomark _)))))) (pss_one (ps_ret pe_non)) pss_nil)
        (pss_cons (ps_if (PW.pt (pw_and (pt_val (pe_bm PySem.F.plainAttrs_str PySem.F.slot_str_startswith PySem.F.type_str_startswith mt_startswith (pv 1) (pa_cons pe_str pa_nil))) (pw_and1 (pt_cmpR op_ne (pv 0) pe_str (nomark _))))) (pss_one (ps_ret pe_non)) pss_nil)
        (pss_one (ps_ret (pe_callTy call_intS rfl T.int_ (by decide +kernel) (pa_cons (pv 0) pa_nil))))))
      case w1 =>
        rintro D σ H ⟨x, v1, v2, rfl, lx, nx⟩
        have sz := sizeLine_eq
        refine ⟨_, rfl, rfl, _, _, rfl, rfl, _, rfl, ?_⟩
        rw [starts1 (s := 45) (by decide +kernel)]
        refine ite2 (fun c => ?_) (fun c => ?_)
        · have c1 := of_decide_eq_true c
          refine ⟨_, rfl, _, rfl, x, rfl, by omega, ?_⟩
          refine nx _ ?_
          rw [tl_tail]
          unfold figW
          rw [if_pos c1]
        · have c1 : ¬ (TL.tl x).head? = some 45 := fun z => c (decide_eq_true z)
          refine ⟨_, rfl, ?_⟩
          refine nx _ ?_
          unfold figW
          rw [if_neg c1]
    case r =>
      have sz := sizeLine_eq
      have lx := tx.2
      refine ⟨x, _, _, rfl, lx, fun z ef => ?_⟩
      have e0 : z.cps.toList = figW x := ef
      have lz : z.length = (figW x).length := by rw [TL.len_tl, ef]
      have fsub : ∀ c ∈ figW x, c ∈ TL.tl x := fun c hc => by
        unfold figW at hc
        split at hc
        · exact List.mem_of_mem_drop hc
        · exact hc
      have lf : (figW x).length ≤ 100000 := by
        unfold figW
        split
        · rw [List.length_drop, ← TL.len_tl]
          omega
        · rw [← TL.len_tl]
          exact lx
      have no1 : isNumW x = false → figV x = .non := fun h => by
        unfold figV
        rw [h, if_neg Bool.false_ne_true]
      have noL : ¬ (1 ≤ (figW x).length ∧ (figW x).length ≤ 7) → isNumW x = false := fun h => by
        unfold isNumW
        rw [show (decide (1 ≤ (figW x).length) && decide ((figW x).length ≤ 7)) = false from by
          rw [Bool.and_eq_false_iff, decide_eq_false_iff_not, decide_eq_false_iff_not]
          omega, Bool.false_and]
      refine ⟨_, rfl, rfl, _, rfl, ?_⟩
      refine ite2 (fun c => ?_) (fun c => ?_)
      · have ez : z = "" := V.str.inj (of_decide_eq_true c)
        have z0 : z.length = 0 := by rw [ez]; decide +kernel
        rw [no1 (noL (by omega))] at q
        exact iteT (q H (Same.refl H))
      · have ez : z ≠ "" := fun ez => c (decide_eq_true (congrArg V.str ez))
        have h1 : 1 ≤ z.length := by
          rcases Nat.eq_zero_or_pos z.length with e | e
          · refine absurd ?_ ez
            obtain ⟨cs⟩ := z
            have e2 : cs = #[] := Array.size_eq_zero_iff.mp e
            rw [e2]
            decide +kernel
          · exact e
        refine ⟨_, rfl, z, rfl, by omega, _, _, rfl, rfl, _, rfl, ?_⟩
        refine ite2 (fun c2 => ?_) (fun c2 => ?_)
        · have h2 : (7 : Int) < (z.length : Int) := of_decide_eq_true c2
          rw [no1 (noL (by omega))] at q
          exact iteT (q H (Same.refl H))
        · have h2 : ¬ (7 : Int) < (z.length : Int) := fun y => c2 (decide_eq_true y)
          refine ⟨_, rfl, z, rfl, fun D hD => lc_it walk_str (fun i H' => Same H H' ∧ H' D = some (.lst (sV (oddFigs (z.cps.toList.take i)))))
            ⟨up2 hD, by rw [List.take_zero]; exact upd_same⟩ (fun _ _ _ _ => True.intro) ?_ ?_⟩
          · rintro i v H1 H2 hi ⟨sm, hl⟩ ⟨rfl, c, hc, rfl⟩
            have et := take_sn (sign_at hc)
            refine ⟨rfl, _, rfl, c, _, rfl, rfl, _, rfl, ?_⟩
            have sp : oddFigs (z.cps.toList.take (i + 1)) = oddFigs (z.cps.toList.take i) ++ oddFigs [c] := by
              unfold oddFigs
              rw [et, List.filter_append]
            refine ite2 (fun c3 => ?_) (fun c3 => ?_)
            · have o1 : oddFigs [c] = [c] := by
                unfold oddFigs
                rw [List.filter_cons, if_pos c3, List.filter_nil]
              refine ⟨_, rfl, _, hl, small1000 ?_, same_upd sm hD, ?_⟩
              · have a1 : (sV (oddFigs (z.cps.toList.take i))).length ≤ i := by
                  unfold sV oddFigs
                  rw [List.length_map]
                  exact Nat.le_trans (List.length_filter_le _ _) (by rw [List.length_take]; omega)
                have := strlen z
                have e3 : z.cps.size = z.cps.toList.length := by rw [Array.length_toList]
                omega
              · rw [upd_same, sp, o1]
                unfold sV
                rw [List.map_append]
                rfl
            · have o1 : oddFigs [c] = [] := by
                unfold oddFigs
                rw [List.filter_cons, if_neg c3, List.filter_nil]
              refine ⟨sm, ?_⟩
              rw [sp, o1, List.append_nil]
              exact hl
          · rintro H1 ⟨sm, hl⟩
            rw [show z.cps.size = z.cps.toList.length by rw [Array.length_toList], List.take_length] at hl
            refine ⟨Nat.zero_le _, fun e2 he2 => ?_⟩
            have s2 := up2 (o := .lst []) he2
            have lays : PyData.canLayAll0 (sD (oddFigs z.cps.toList)) = true := lay_signs fun c hc => by
              have hc2 := (List.mem_filter.mp hc).1
              rw [e0] at hc2
              have z9 := (tx.1 c (fsub c hc2)).lt
              show (#[c] : Array Nat).all (· < 0x110000) = true
              simpa using z9
            refine ⟨.list (sD (oddFigs z.cps.toList)), .list [], .lst (SqL.of (s2 _ _ hl)) (dp_signs _), .lst (SqL.of upd_same) .nil, ?_, by decide, _, rfl, ?_⟩
            · unfold SeqAt.shaped
              rw [Bool.and_eq_true]
              refine ⟨lays, decide_eq_true ?_⟩
              show PyData.depthAll (sD (oddFigs z.cps.toList)) + 1 ≤ 64
              rw [depth_signs]
              decide
            · rw [eqv_nil, oddFigs_nil, e0]
              have lead : (decide (1 ≤ (figW x).length) && decide ((figW x).length ≤ 7)) = true := by
                rw [Bool.and_eq_true, decide_eq_true_iff, decide_eq_true_iff]
                omega
              cases ha : (figW x).all digC with
              | false =>
                have en : isNumW x = false := by
                  unfold isNumW
                  rw [ha, Bool.false_and, Bool.and_false]
                rw [no1 en] at q
                exact iteT (q _ (sm.trans s2))
              | true =>
                refine iteF ?_
                obtain ⟨c0, l0, ec⟩ : ∃ c l, figW x = c :: l := by
                  cases e : figW x with
                  | nil =>
                    rw [e] at lz
                    have z0 : z.length = 0 := lz
                    omega
                  | cons c l => exact ⟨c, l, rfl⟩
                have en := numW_at ec lead ha
                refine ⟨_, rfl, rfl, _, _, rfl, rfl, _, rfl, ?_⟩
                rw [starts1 (s := 48) (by decide +kernel), ef, ec]
                have last : isNumW x = true → ∃ n : Int, intText? x = some n ∧ x.length ≤ 640 ∧ figV x = .int n := fun hn => by
                  obtain ⟨i1, _, z1⟩ := num_int hn
                  refine ⟨_, i1, by omega, ?_⟩
                  unfold figV
                  rw [if_pos hn]
                refine ite2 (fun c4 => ?_) (fun c4 => ?_)
                · have c48 : c0 = 48 := Option.some.inj (of_decide_eq_true c4)
                  rw [decide_eq_true c48] at en
                  refine ⟨_, rfl, rfl, ?_⟩
                  by_cases ez : x = "0"
                  · rw [decide_eq_true ez] at en
                    obtain ⟨n, i1, l1, e1⟩ := last en
                    refine ⟨false, by rw [ez]; decide +kernel, iteF ?_⟩
                    refine ⟨_, rfl, _, n, rfl, i1, l1, ?_⟩
                    rw [e1] at q
                    exact q _ (sm.trans s2)
                  · rw [decide_eq_false ez] at en
                    refine ⟨true, by rw [decide_eq_false (fun e => ez (V.str.inj e))]; rfl, iteT ?_⟩
                    rw [no1 en] at q
                    exact q _ (sm.trans s2)
                · have c48 : c0 ≠ 48 := fun e => c4 (decide_eq_true (congrArg some e))
                  rw [decide_eq_false c48] at en
                  obtain ⟨n, i1, l1, e1⟩ := last en
                  refine ⟨_, rfl, _, n, rfl, i1, l1, ?_⟩
                  rw [e1] at q
                  exact q _ (sm.trans s2)
end
end K13
set_option Elab.async false
set_option linter.all false
set_option maxRecDepth 100000
set_option maxHeartbeats 4000000
namespace K13
open PySem PySem.Spec PyProof.Rows L2 Bb
/-! _law_row_in, _law_due -/
def spRowIn : Sp := fun vs H Q _ => ∃ t : Str, vs = [.str t] ∧ TX 100000 t ∧ (∀ r, lineR t = some r → ∀ q H', H q = none → Same H H' → H' q = some (.tup r.vs) → Q (.ref q) H') ∧ (lineR t = none → ∀ H', Same H H' → Q .non H')
abbrev nRi : List Str := ["_law_line", "_law_words", "_law_row", "_law_word"]
def encR (x : Nat ⊕ List PR) : PyData := match x with
  | .inl n => .tuple [.str "no", .int (n : Int)]
  | .inr rs => .tuple [.str "told", .list (rs.map encD)]
def dueD : PyData → PyData
  | .str t => encR (sheetR t)
  | _ => .tuple [.str "no", .int (-1)]
def spDue : Sp := fun vs H Q _ => ∃ (v : V) (d : PyData), vs = [v] ∧ Da (fun _ => False) H v d ∧ (∀ t, d = .str t → TX 100000 t) ∧ ∀ q H', Same H H' → Da (fun _ => False) H' (.ref q) (dueD d) → Q (.ref q) H'
theorem da_rows {H : Hp} : ∀ {gs : List (Addr × PR)}, Gd H gs → DaAll (fun _ => False) H (gv gs) ((gs.map (·.2)).map encD)
  | [], _ => .nil
  | g :: gs, h => .cons (.tup (h g List.mem_cons_self).1 (fun z => z) (da_R _)) (da_rows (gs := gs) fun x hx => h x (List.mem_cons_of_mem _ hx))
abbrev nDu : List Str := ["_law_text", "_law_rows", "_law_at", "_law_line", "_law_row"]
section
variable {P : Program} {w : World} {K : PySem.W.Frag} {mg : Str → Option Value} {base : Heap} {f : Addr} {fd : FuncData}
theorem scRi : FnScope nRi ["_law_line"] (defScope sRowIn) := ⟨rfl, rfl, rfl, by decide +kernel, rfl, by decide +kernel, by decide +kernel⟩
theorem ok_rowin {fG fI : Addr} {fdG fdI : FuncData} (F : Fn K "_law_row_in" "_law_row_in" sRowIn f fd) (T : Free mg) (GG : FnOk P w K mg base L2.CX0 1 fG fdG ["_law_word"] spFigs) (gG : mg "_law_figures" = some (.ref fG)) (kG : PySem.W.keepIn K (.ref fG) = true) (bG : Binds K fdG ["_law_word"] [])
    (GI : FnOk P w K mg base L2.CX0 2 fI fdI ["_law_row"] spIsRow) (gI : mg "_law_is_feat" = some (.ref fI)) (kI : PySem.W.keepIn K (.ref fI) = true) (bI : Binds K fdI ["_law_row"] []) : FnOk P w K mg base L2.CX0 3 f fd ["_law_line"] spRowIn := by
  refine F.ok scRi (fun vs H Q E h => ?_) (fun cdv A outer s H vs Q E hr hh => ?_)
  · obtain ⟨t, rfl, _⟩ := h
    rfl
  · obtain ⟨t, rfl, tx, q, qn⟩ := hh
    refine ⟨_, PSs.nox (pss_cons (ps_set (i := 1) scRi.nd rfl (.inl rfl) (pe_bm PySem.F.plainAttrs_str PySem.F.slot_str_split PySem.F.type_str_split mt_split (pv 0) (pa_cons pe_str pa_nil)))
      (pss_cons (ps_if (pt_cmpR op_ne (pe_callB call_len_seq rfl T.len_ boot_len (pa_cons (pv 1) pa_nil)) pe_int (nomark _)) (pss_one (ps_ret pe_non)) pss_nil)
      (pss_cons (ps_set (i := 2) scRi.nd rfl (.inl rfl) (pe_callTy call_tuple_of rfl T.tup_ (by decide +kernel) (pa_cons (pe_op op_cat (pe_op op_cat (pe_slice sl_list (pv 1) po_none (po_some pe_int)) (pe_lc (own := [("_law_word", 3)]) (g := gName 3) (tt := tYes) rfl scRi.nd (pi_list (pe_slice sl_list (pv 1) (po_some pe_int) (po_some pe_int))) (blkOk_by (N := nRi) (sc := defScope sRowIn) (by decide +kernel)) (fun _ _ _ _ _ => pg_name (i := 3) scRi.nd rfl (Or.inl rfl)) (fun _ _ _ _ _ => pts_nil)
          (fun _ _ _ _ _ => pe_call GG (hr.mono (by decide)) rfl gG kG bG .nil pass0 (pa_cons (pv 3) pa_nil)))) (pe_slice sl_list (pv 1) (po_some pe_int) po_none)) pa_nil)))
      (pss_one (ps_ret (pe_ifExp (pt_val (pe_call GI hr rfl gI kI bI .nil pass0 (pa_cons (pv 2) pa_nil))) (pv 2) pe_non)))))), ?_⟩
    have sz := sizeLine_eq
    have l1 := tx.2
    obtain ⟨px, ps⟩ := tx.split sp1 (by decide)
    have d1 : (Str.ofString " ").length = 1 := by decide +kernel
    refine ⟨_, rfl, rfl, _, _, rfl, rfl, by rw [d1]; rfl, by omega, fun L hL => ?_⟩
    obtain ⟨zs, ezs⟩ : ∃ zs, zs = Txt.split t " " := ⟨_, rfl⟩
    rw [← ezs] at px ps ⊢
    have u1 := up2 (o := .lst (zs.map V.str)) hL
    obtain ⟨H1, eH1⟩ : ∃ G, G = upd H L (.lst (zs.map V.str)) := ⟨_, rfl⟩
    have hL1 : H1 L = some (.lst (zs.map V.str)) := by
      rw [eH1]
      exact upd_same
    rw [← eH1] at u1 ⊢
    refine ⟨_, rfl, L, _, rfl, .inl (SqL.of hL1), rfl, ?_⟩
    by_cases l7 : zs.length = 7
    case neg =>
      refine ⟨true, ?_, iteT (qn (lineR_no (by rw [← ezs]; exact l7)) H1 u1)⟩
      rw [List.length_map, decide_eq_false (fun e => l7 (by
        have e2 := V.int.inj e
        omega))]
      rfl
    case pos =>
    refine ⟨false, by rw [List.length_map, l7]; rfl, iteF ?_⟩
    obtain ⟨a, b, c, d, e, g, k, rfl⟩ := seven l7
    have hline := lineR_at ezs.symm
    have ta := px a (by simp)
    have tb := px b (by simp)
    have tk := px k (by simp)
    obtain ⟨ns, ens⟩ : ∃ ns, ns = [c, d, e, g] := ⟨_, rfl⟩
    have cut : cutV (([a, b, c, d, e, g, k] : List Str).map V.str) (some 2) (some 6) = ns.map V.str := by
      rw [ens]
      rfl
    have cutA : cutV (([a, b, c, d, e, g, k] : List Str).map V.str) none (some 2) = [.str a, .str b] := rfl
    have cutB : cutV (([a, b, c, d, e, g, k] : List Str).map V.str) (some 6) none = [.str k] := rfl
    have hns : ∀ n ∈ ns, TX 100000 n := by
      rw [ens]
      intro n hn
      simp only [List.mem_cons, List.not_mem_nil, or_false] at hn
      rcases hn with rfl | rfl | rfl | rfl <;> exact px _ (by simp)
    refine ⟨_, rfl, _, rfl, L, _, rfl, SqL.of hL1, fun S1 hS1 => ?_⟩
    rw [cutA]
    have uA := up2 (o := .lst [V.str a, V.str b]) hS1
    refine ⟨_, rfl, _, rfl, _, rfl, L, _, rfl, SqL.of (uA _ _ hL1), fun S hS => ?_⟩
    rw [cut]
    have uS := up2 (o := .lst (ns.map V.str)) hS
    have u2 := uA.trans uS
    obtain ⟨H2, eH2⟩ : ∃ G, G = upd (upd H1 S1 (.lst [V.str a, V.str b])) S (.lst (ns.map V.str)) := ⟨_, rfl⟩
    have hS2 : H2 S = some (.lst (ns.map V.str)) := by
      rw [eH2]
      exact upd_same
    have hS12 : H2 S1 = some (.lst [.str a, .str b]) := by
      rw [eH2]
      exact uS _ _ upd_same
    rw [← eH2] at u2 ⊢
    refine ⟨S, rfl, ⟨_, SqL.of hS2⟩, fun D hD => lc_list (K := K) (a := S) (xs := ns.map V.str) (fun i H' => Same H2 H' ∧ H' D = some (.lst ((ns.map figV).take i))) ⟨up2 hD, by rw [List.take_zero]; exact upd_same⟩ (fun i H' _ p => SqL.of (p.1 _ _ hS2)) ?_ ?_⟩
    · rintro i y H' hy ⟨sm, hl⟩
      have ilt := (List.getElem?_eq_some_iff.mp hy).1
      rw [List.length_map, ens] at ilt
      have ilt : i < 4 := ilt
      rw [List.getElem?_map] at hy
      obtain ⟨n, hn, rfl⟩ := Option.map_eq_some_iff.mp hy
      have hz : (ns.map figV)[i]? = some (figV n) := by
        rw [List.getElem?_map, hn]
        rfl
      refine ⟨rfl, ?_⟩
      unfold tYes
      dsimp only
      rw [if_pos rfl]
      refine ⟨_, rfl, n, rfl, hns n (List.mem_of_getElem? hn), fun H3 s3 => ?_⟩
      refine ⟨_, s3 _ _ hl, small1000 (by rw [List.length_take]; omega), same_upd (sm.trans s3) hD, ?_⟩
      rw [upd_same, take_sn hz]
    · rintro H3 ⟨sm, hl⟩
      rw [show (ns.map V.str).length = (ns.map figV).length from by rw [List.length_map, List.length_map], List.take_length] at hl
      have el : ns.map figV = [figV c, figV d, figV e, figV g] := by rw [ens]; rfl
      rw [el] at hl
      have s3 := u1.trans (u2.trans sm)
      refine ⟨S1, D, _, _, rfl, rfl, sm _ _ hS12, hl, (by show 2 + 4 ≤ sizeLine; decide), fun C1 hC1 => ?_⟩
      have u4 := up2 (o := .lst ([.str a, .str b] ++ [figV c, figV d, figV e, figV g])) hC1
      refine ⟨_, rfl, _, rfl, L, _, rfl, SqL.of (u4 _ _ ((u2.trans sm) _ _ hL1)), fun S5 hS5 => ?_⟩
      rw [cutB]
      have u5 := up2 (o := .lst [V.str k]) hS5
      refine ⟨C1, S5, _, _, rfl, rfl, u5 _ _ upd_same, upd_same, (by show 6 + 1 ≤ sizeLine; decide), fun C6 hC6 => ?_⟩
      have u6 := up2 (o := .lst ([.str a, .str b] ++ [figV c, figV d, figV e, figV g] ++ [V.str k])) hC6
      refine ⟨C6, _, rfl, .inl ⟨SqL.of upd_same, fun R hR => ?_⟩⟩
      have u7 := up2 (o := .tup ([.str a, .str b] ++ [figV c, figV d, figV e, figV g] ++ [V.str k])) hR
      have s7 := s3.trans (u4.trans (u5.trans (u6.trans u7)))
      have nR : H R = none := Same.free (s3.trans (u4.trans (u5.trans u6))) hR
      obtain ⟨H7, eH7⟩ : ∃ G, G = upd (upd (upd (upd H3 C1 (.lst ([.str a, .str b] ++ [figV c, figV d, figV e, figV g]))) S5 (.lst [V.str k])) C6 (.lst ([.str a, .str b] ++ [figV c, figV d, figV e, figV g] ++ [V.str k]))) R (.tup ([.str a, .str b] ++ [figV c, figV d, figV e, figV g] ++ [V.str k])) := ⟨_, rfl⟩
      have hR7 : H7 R = some (.tup [.str a, .str b, figV c, figV d, figV e, figV g, .str k]) := by
        rw [eH7]
        exact upd_same
      rw [← eH7] at s7 ⊢
      have st : ∀ {z : Str}, TX 100000 z → shortD (.str z) = true := fun {z} h => by
        show (decide (z.length ≤ 100000) && PyData.canLay0 (.str z)) = true
        rw [decide_eq_true h.2, lay9 h.1]
        rfl
      have sf : ∀ z : Str, shortD (figD z) = true := fun z => by
        unfold figD
        split <;> rfl
      refine ⟨_, rfl, (fun _ => False), R, _, [.str a, .str b, figD c, figD d, figD e, figD g, .str k], rfl, ⟨hR7, .cons (.str _) (.cons (.str _) (.cons (fig_da _) (.cons (fig_da _) (.cons (fig_da _) (.cons (fig_da _) (.cons (.str _) .nil)))))), rfl, fun x hx => ?_⟩, fun H8 s8 => ⟨_, rfl, ?_⟩⟩
      · simp only [List.mem_cons, List.not_mem_nil, or_false] at hx
        rcases hx with rfl | rfl | rfl | rfl | rfl | rfl | rfl
        · exact st ta
        · exact st tb
        · exact sf _
        · exact sf _
        · exact sf _
        · exact sf _
        · exact st tk
      · rw [okds_fig]
        cases hall : ((isNumW c && (isNumW d && (isNumW e && isNumW g))) && okds (rowW a b c d e g k).ds) with
        | false =>
          rw [hall, if_neg Bool.false_ne_true] at hline
          exact iteF (qn hline H8 (s7.trans s8))
        | true =>
          rw [hall, if_pos rfl] at hline
          refine iteT ⟨_, rfl, ?_⟩
          refine q _ hline R H8 nR (s7.trans s8) ?_
          obtain ⟨h1, _⟩ := Bool.and_eq_true_iff.mp hall
          obtain ⟨n1, h1⟩ := Bool.and_eq_true_iff.mp h1
          obtain ⟨n2, h1⟩ := Bool.and_eq_true_iff.mp h1
          obtain ⟨n3, n4⟩ := Bool.and_eq_true_iff.mp h1
          have fv : ∀ {z : Str}, isNumW z = true → figV z = .int (intW z) := fun {z} h => by
            unfold figV
            rw [if_pos h]
          rw [fv n1, fv n2, fv n3, fv n4] at hR7
          exact s8 _ _ hR7
theorem scDu : FnScope nDu ["_law_text"] (defScope sDue) := ⟨rfl, rfl, rfl, by decide +kernel, rfl, by decide +kernel, by decide +kernel⟩
theorem ok_due {fR : Addr} {fdR : FuncData} (F : Fn K "_law_due" "_law_due" sDue f fd) (T : Free mg) (GR : FnOk P w K mg base L2.CX0 3 fR fdR ["_law_line"] spRowIn) (gR : mg "_law_row_in" = some (.ref fR)) (kR : PySem.W.keepIn K (.ref fR) = true) (bR : Binds K fdR ["_law_line"] []) : FnOk P w K mg base L2.CX0 4 f fd ["_law_text"] spDue := by
  refine F.ok scDu (fun vs H Q E h => ?_) (fun cdv A outer s H vs Q E hr hh => ?_)
  · obtain ⟨v, d, rfl, _⟩ := h
    rfl
  · obtain ⟨v, d, rfl, hx, htx, q⟩ := hh
    obtain ⟨n, ty⟩ := hx.ty (K := K)
    have ts2 : 2 ≤ sizeLine := by decide
    refine ⟨_, PSs.nox (pss_cons (ps_if (pt_not (pt_val (pe_callB call_isi rfl T.isi boot_isinstance (pa_cons (pv 0) (pa_cons (pe_bltn rfl T.str_ (by decide +kernel) (v := .ty "str") rfl) pa_nil))))) (pss_one (ps_ret (pe_tup (pa_cons pe_str (pa_cons (pe_un un_neg pe_int) pa_nil))))) pss_nil)
      (pss_cons (ps_if (pt_cmpR op_eq (pv 0) pe_str (nomark _)) (pss_one (ps_ret (pe_tup (pa_cons pe_str (pa_cons (pe_lst pa_nil) pa_nil))))) pss_nil)
      (pss_cons (ps_set (i := 1) scDu.nd rfl (.inl rfl) (pe_lst pa_nil))
      (pss_cons (ps_for PassesOwn.never rfl (pi_enum rfl T.enu_ (pa_cons (pe_bm PySem.F.plainAttrs_str PySem.F.slot_str_split PySem.F.type_str_split mt_split (pv 0) (pa_cons pe_str pa_nil)) pa_nil)) (pg_tup rfl (pgs_cons (pg_name (i := 2) scDu.nd rfl (Or.inl rfl)) (pgs_cons (pg_name (i := 3) scDu.nd rfl (Or.inl rfl)) pgs_nil)))
        (pss_cons (ps_set (i := 4) scDu.nd rfl (.inl rfl) (pe_call GR hr rfl gR kR bR .nil pass0 (pa_cons (pv 3) pa_nil)))
        (pss_cons (ps_if (PW.pt (pw_or (pt_cmpR op_isN (pv 4) pe_non (nomark _)) (pw_or1 (pt_cmpR op_eq (pv 2) pe_int (nomark _))))) (pss_one (ps_ret (pe_tup (pa_cons pe_str (pa_cons (pv 2) pa_nil))))) pss_nil)
        (pss_one (ps_expr (pe_bm PySem.F.plainAttrs_list PySem.F.slot_list_append PySem.F.type_list_append mt_append (pv 1) (pa_cons (pv 4) pa_nil)))))))
      (pss_one (ps_ret (pe_tup (pa_cons pe_str (pa_cons (pv 1) pa_nil))))))))), ?_⟩
    refine ⟨_, rfl, _, _, _, _, _, rfl, .ty "str", ty.ty, kit_ty ty.s, _, rfl, ?_⟩
    cases d with
    | str t =>
      cases hx
      refine iteF ?_
      have tx := htx t rfl
      by_cases en : t = "none"
      · refine ⟨_, rfl, rfl, true, by rw [en]; decide +kernel, iteT ?_⟩
        refine ⟨Nat.zero_le _, fun l hl => ⟨ts2, fun p hp => ?_⟩⟩
        have u1 := up2 (o := .lst []) hl
        have u2 := up2 (o := .tup [.str "told", .ref l]) hp
        refine q p _ (u1.trans u2) ?_
        have e : dueD (.str t) = .tuple [.str "told", .list []] := by
          show encR (sheetR t) = _
          unfold sheetR
          rw [if_pos en]
          rfl
        rw [e]
        exact .tup upd_same (fun z => z) (.cons (.str _) (.cons (.lst (u2 _ _ upd_same) (fun z => z) .nil) .nil))
      · have sz := sizeLine_eq
        have l1 := tx.2
        have eR : sheetR t = readR (Txt.split t "\n") 0 [] := by
          unfold sheetR
          rw [if_neg en]
        have d1 : (Str.ofString "\n").length = 1 := by decide +kernel
        have qe : ∀ (n : Nat) (p : Addr) (H' : Hp), sheetR t = .inl n → Same H H' → H' p = some (.tup [.str "no", .int (n : Int)]) → Q (.ref p) H' := fun n p H' e s hp => by
          refine q p H' s ?_
          show Da (fun _ => False) H' (.ref p) (encR (sheetR t))
          rw [e]
          exact .tup hp (fun z => z) (.cons (.str _) (.cons (.int _) .nil))
        refine ⟨_, rfl, rfl, false, by rw [decide_eq_false (fun e => en (V.str.inj e))], iteF ?_⟩
        refine ⟨Nat.zero_le _, fun L hL => ?_⟩
        have u1 := up2 (o := .lst []) hL
        obtain ⟨H1, eH1⟩ : ∃ G, G = upd H L (.lst []) := ⟨_, rfl⟩
        have hL1 : H1 L = some (.lst (gv [])) := by
          rw [eH1]
          exact upd_same
        rw [← eH1] at u1 ⊢
        refine ⟨_, rfl, rfl, _, _, rfl, rfl, by rw [d1]; rfl, by omega, fun W hW => ?_⟩
        obtain ⟨px, _⟩ := tx.split nl1 (by decide)
        obtain ⟨ls, els⟩ : ∃ ls, ls = Txt.split t "\n" := ⟨_, rfl⟩
        rw [← els] at px eR ⊢
        have u2 := up2 (o := .lst (ls.map V.str)) hW
        obtain ⟨H2, eH2⟩ : ∃ G, G = upd H1 W (.lst (ls.map V.str)) := ⟨_, rfl⟩
        have hW2 : H2 W = some (.lst (ls.map V.str)) := by
          rw [eH2]
          exact upd_same
        rw [← eH2] at u2 ⊢
        have hL2 := u2 _ _ hL1
        have nLW : W ≠ L := by
          rintro rfl
          rw [hL1] at hW
          cases hW
        have s0 : ∀ {G : Hp}, (∀ b o, H2 b = some o → b ≠ L → G b = some o) → Same H G := fun {G} kp b o e => kp b o (u2 _ _ (u1 _ _ e)) (ne_of_none e hL)
        refine ⟨W, _, rfl, SqL.of hW2, for_it walk_enum (fun i σ H' => ∃ (v2 v3 v4 : Option V) (gs : List (Addr × PR)), σ = [some (.str t), some (.ref L), v2, v3, v4] ∧ (∀ b o, H2 b = some o → b ≠ L → H' b = some o) ∧ H' L = some (.lst (gv gs)) ∧ Gd H' gs ∧ gs.length = i ∧ i ≤ 60 ∧ readR (ls.drop i) i (gs.map (·.2)) = sheetR t)
          ⟨_, _, _, [], rfl, fun _ _ e _ => e, hL2, (fun x hx => by cases hx), rfl, by decide, by rw [List.drop_zero]; exact eR.symm⟩ (fun i σ H' _ ⟨_, _, _, _, _, kp, _⟩ => SqL.of (kp _ _ hW2 nLW)) ?_ ?_⟩
        · rintro i y σ H3 H4 hi ⟨v2, v3, v4, gs, rfl, kp, hL3, gd, lrs, i60, eRi⟩ ⟨T0, y1, y2, rfl, hT, rfl, ey1, ey2⟩
          have e1 : y1 = .int (i : Nat) := (Option.some.inj ey1).symm
          subst e1
          have ey2 : (ls.map V.str)[i]? = some y2 := ey2
          rw [List.length_map] at hi
          obtain ⟨l, hl⟩ : ∃ l, ls[i]? = some l := ⟨_, List.getElem?_eq_getElem hi⟩
          rw [List.getElem?_map, hl] at ey2
          have e2 : y2 = .str l := (Option.some.inj ey2).symm
          subst e2
          have hd : ls.drop i = l :: ls.drop (i + 1) := by
            rw [List.drop_eq_getElem_cons hi]
            have z := List.getElem?_eq_getElem hi
            rw [hl] at z
            rw [Option.some.inj z]
          rw [hd] at eRi
          unfold readR at eRi
          have uT := up2 (o := .tup [.int (i : Nat), .str l]) hT
          have sT : Same H _ := (s0 kp).trans uT
          refine ⟨T0, _, rfl, SqT.of upd_same, rfl, _, _, rfl, _, _, rfl, rfl, ?_⟩
          refine ⟨_, rfl, l, rfl, px l (List.mem_of_getElem? hl), fun r er R H5 nR s5 hR => ?_, fun er H5 s5 => ?_⟩
          · rw [er] at eRi
            dsimp only at eRi
            refine ⟨_, rfl, rfl, _, rfl, iteF ?_⟩
            refine ⟨_, rfl, rfl, _, rfl, ?_⟩
            by_cases c60 : i = 60
            · rw [if_pos c60] at eRi
              rw [show decide (V.int ((i : Nat) : Int) = V.int 60) = true from decide_eq_true (by rw [c60]; rfl)]
              refine iteT ⟨_, rfl, ts2, fun p hp => ?_⟩
              exact qe i p _ eRi.symm ((sT.trans s5).trans (up2 hp)) upd_same
            · rw [if_neg c60] at eRi
              rw [show decide (V.int ((i : Nat) : Int) = V.int 60) = false from decide_eq_false (fun e => c60 (by have z := V.int.inj e; omega))]
              refine iteF ?_
              have s35 := uT.trans s5
              have hL5 := s35 _ _ hL3
              refine ⟨_, rfl, .inl ⟨rfl, _, SqL.of hL5⟩, _, rfl, L, _, _, rfl, rfl, hL5, small1000 (by rw [gv_len]; omega), ?_⟩
              refine ⟨_, _, _, gs ++ [(R, r)], rfl, fun b o e n => ?_, by rw [upd_same, ← gv_app]; rfl, ((gd.same s35).app (Gd.one hR (lineR_ok er))).upd hL5, by rw [List.length_append, List.length_singleton, lrs], by omega, by rw [List.map_append]; exact eRi⟩
              rw [upd_ne n]
              exact s35 _ _ (kp b o e n)
          · rw [er] at eRi
            refine ⟨_, rfl, rfl, _, rfl, iteT ⟨_, rfl, ts2, fun p hp => ?_⟩⟩
            exact qe i p _ eRi.symm ((sT.trans s5).trans (up2 hp)) upd_same
        · rintro σ H3 ⟨v2, v3, v4, gs, rfl, kp, hL3, gd, lrs, i60, eRi⟩
          rw [List.length_map, List.drop_length] at eRi
          refine ⟨_, rfl, ts2, fun p hp => ?_⟩
          have u5 := up2 (o := .tup [.str "told", .ref L]) hp
          refine q p _ ((s0 kp).trans u5) ?_
          show Da (fun _ => False) _ (.ref p) (encR (sheetR t))
          rw [← eRi]
          exact .tup upd_same (fun z => z) (.cons (.str _) (.cons (.lst (u5 _ _ hL3) (fun z => z) (da_rows (gd.same u5))) .nil))
    | _ =>
      refine ⟨_, rfl, ts2, fun p hp => ?_⟩
      exact q p _ (up2 hp) (.tup upd_same (fun z => z) (.cons (.str _) (.cons (.int _) .nil)))
end
end K13
set_option Elab.async false
set_option linter.all false
set_option maxRecDepth 100000
set_option maxHeartbeats 4000000
namespace K13
open PySem PySem.Spec PyProof.Rows L2 Bb
/-! _law_values, _law_read -/
def spValues (C : Addr) : Sp := fun vs H Q _ => ∃ (p : Addr) (r : PR), vs = [.ref p] ∧ At C H p r ∧ ∀ q H', H q = none → Same H H' → H' q = some (.tup r.vs) → Q (.ref q) H'
/-- what isinstance, except say of NoText -/
structure NtI (K : PySem.W.Frag) (mg : Str → Option Value) (CC TE DE SE : Addr) : Prop where
  ex : ExcC K TE
  k1 : PySem.W.kitOne K (.ref TE) (.ref TE) = some true
  k2 : PySem.W.kitAny K (.ref TE) [.ref DE, .ref SE] = some false
  k3 : PySem.W.kitOne K (.ref TE) (.type "ValueError") = some true
  cc : PySem.W.exmOne K (.ref TE) (.ref CC) = some true
  gC : mg "ClubError" = some (.ref CC)
  gD : mg "NoDeed" = some (.ref DE)
  gS : mg "NoSheet" = some (.ref SE)
abbrev nLr : List Str := ["_law_text", "_law_told", "e", "_law_one"]
def tTold (S C : Addr) : TS := fun D σ H => ∃ (v : V) (d : PyData) (v1 v2 v3 : Option V), σ = [some v, v1, v2, v3] ∧ Da (fun _ => False) H v d ∧ (∀ t, d = .str t → TX 100000 t) ∧
  (∀ t rs, d = .str t → sheetR t = .inr rs → ∀ y H', Same H H' → SAt C S H' y rs → D.nx [some v, some (.ref y), v2, v3] H') ∧
  (∀ t n, d = .str t → sheetR t = .inl n → ∀ p H', Same H H' → H' p = some (.tup [.str "no", .int (n : Int)]) → D.rt (.ref p) H') ∧
  (NoStr d → ∀ p H', Same H H' → H' p = some (.tup [.str "no", .int (-1)]) → D.rt (.ref p) H')
section
variable {P : Program} {w : World} {K : PySem.W.Frag} {mg : Str → Option Value} {base : Heap} {f : Addr} {fd : FuncData}
theorem scValues : FnScope ["_law_one"] ["_law_one"] (defScope sValues) := ⟨rfl, rfl, rfl, by decide +kernel, rfl, by decide +kernel, by decide +kernel⟩
theorem ok_values {C : Addr} (F : Fn K "_law_values" "_law_values" sValues f fd) (R : ClsT K mg C) : FnOk P w K mg base L2.CX0 1 f fd ["_law_one"] (spValues C) := by
  refine F.ok scValues (fun vs H Q E h => ?_) (fun cdv A outer s H vs Q E hr hh => ?_)
  · obtain ⟨p, r, rfl, _⟩ := h
    rfl
  · obtain ⟨p, r, rfl, ⟨dx, hp⟩, q⟩ := hh
    refine ⟨_, PSs.nox (pss_one (ps_ret (pe_tup (pa_cons (pe_fld (pv 0) rfl) (pa_cons (pe_fld (pv 0) rfl) (pa_cons (pe_fld (pv 0) rfl) (pa_cons (pe_fld (pv 0) rfl) (pa_cons (pe_fld (pv 0) rfl) (pa_cons (pe_fld (pv 0) rfl) (pa_cons (pe_fld (pv 0) rfl) pa_nil)))))))))), ?_⟩
    refine ⟨_, rfl, p, C, dx, _, _, rfl, hp, R.cl, R.n0, f_0 _, _, rfl, p, C, dx, _, _, rfl, hp, R.cl, R.n1, f_1 _, _, rfl, p, C, dx, _, _, rfl, hp, R.cl, R.n2, f_2 _, _, rfl, p, C, dx, _, _, rfl, hp, R.cl, R.n3, f_3 _, _, rfl, p, C, dx, _, _, rfl, hp, R.cl, R.n4, f_4 _, _, rfl, p, C, dx, _, _, rfl, hp, R.cl, R.n5, f_5 _, _, rfl, p, C, dx, _, _, rfl, hp, R.cl, R.n6, f_6 _, (by show 7 ≤ sizeLine; decide), fun t ht => ?_⟩
    exact q t _ ht (up2 ht) upd_same
theorem scLr : FnScope nLr ["_law_text"] (defScope sLRead) := ⟨rfl, rfl, rfl, by decide +kernel, rfl, by decide +kernel, by decide +kernel⟩
theorem ok_lread {C S CC TE DE SE fN fR fA fV : Addr} {fdR fdA fdV : FuncData} (F : Fn K "_law_read" "_law_read" sLRead f fd) (T : Free mg) (RS : ClsS K mg S) (nt : Nt K mg TE fN) (ni : NtI K mg CC TE DE SE)
    (GR : FnOk P w K mg base (L2.CX P w) 7 fR fdR ["text"] (spRead C S TE)) (gR : mg "read_sheet" = some (.ref fR)) (kR : PySem.W.keepIn K (.ref fR) = true) (bR : Binds K fdR ["text"] [])
    (GA : FnOk P w K mg base L2.CX0 1 fA fdA ["self"] (spSAll C S)) (mA : Meth K S "all_deeds" fA) (bA : Binds K fdA ["self"] [])
    (GV : FnOk P w K mg base L2.CX0 1 fV fdV ["_law_one"] (spValues C)) (gV : mg "_law_values" = some (.ref fV)) (kV : PySem.W.keepIn K (.ref fV) = true) (bV : Binds K fdV ["_law_one"] []) :
    FnOk P w K mg base L2.CX0 8 f fd ["_law_text"] spDue := by
  refine F.ok scLr (fun vs H Q E h => ?_) (fun cdv A outer s H vs Q E hr hh => ?_)
  · obtain ⟨v, d, rfl, _⟩ := h
    rfl
  · obtain ⟨v, d, rfl, hx, htx, q⟩ := hh
    let Z := (cxOf L2.CX0 P w K mg base nLr "_law_read" (defScope sLRead) f cdv A outer s H E).nox
    have hr1 : Room 1 Z.A := hr.mono (by decide)
    let ts1 : Addr → Value → Option Addr → TS := fun a cls d => fun De σ H => cls = .ref TE ∧ ∃ (dd : Addr) (n : Int), d = some dd ∧ H dd = some (.xd [(("line" : Str), .int n)]) ∧ (σ.length = 4 → σ[2]? = some (some (.ref a))) ∧ ∀ p H', Same H H' → H' p = some (.tup [.str "no", .int n]) → De.rt (.ref p) H'
    refine' ⟨_, PSs.nox ?d, ?r⟩
    case d =>
      refine' pss_cons (psBy (t' := tTold S C) (ps_try_all (X := Z) (l := [(.ref CC, 2, ts1)]) (Wout := fun _ _ _ _ => False)
        (tb := fun W D σ H => ∃ Ech : XK, (∀ cls d σ' H', Ech cls d H' → W cls d σ' H') ∧ tAsg (tCall (spRead C S TE) [] Ech (tCons (tVar 0) tNil)) (gName 1) D σ H)
        rfl rfl scLr.nd LamX.takes0 (fun W pn xe tk _ => ?b1) (.cons rfl rfl ⟨rfl, by decide, .inl ni.gC⟩ (fun a oe cls d pn hz hf => ?b2) .nil)) ?w1) ?s1
      case b1 =>
        refine ⟨fun pins s' σ H' D I h' => ?_⟩
        obtain ⟨Ech, hW, h1⟩ := h'
        refine PSs.run (X := Z.tr pn xe) ?_ pins s' σ H' D I h1
        exact pss_one (ps_set (i := 1) scLr.nd rfl (.inl rfl) (pe_call GR hr rfl gR kR bR .nil (passes_call tk hW) (pa_cons (pv 0) pa_nil)))
      case b2 =>
        refine ⟨fun pins s' σ H' De I h' => ?_⟩
        obtain ⟨rfl, dd, n, rfl, hdd, h1, back⟩ := h'
        have h1 := h1 I.len
        have isi1 : CallR (Z.suite a ((a, oe) :: pn)) (.builtin "isinstance") (rIsEd K TE a dd) := call_isEd (X := Z.suite a ((a, oe) :: pn)) List.mem_cons_self ni.ex hz hf
        have isi2 : CallR (Z.suite a ((a, oe) :: pn)) (.builtin "isinstance") (rIsEdT K TE a dd) := call_isEdT (X := Z.suite a ((a, oe) :: pn)) List.mem_cons_self ni.ex hz hf
        refine' PSs.run (X := Z.suite a ((a, oe) :: pn)) ?h3 pins s' σ H' De I ?w3
        case h3 =>
          exact pss_cons (ps_if (PW.pt (pw_or (pt_not (pt_val (pe_callB isi1 rfl T.isi boot_isinstance (pa_cons (pv 2) (pa_cons (pe_glob rfl nt.g (v := .ref TE) rfl) pa_nil))))) (pw_or (pt_val (pe_callB isi2 rfl T.isi boot_isinstance (pa_cons (pv 2) (pa_cons (pe_tup (pa_cons (pe_glob rfl ni.gD (v := .ref DE) rfl) (pa_cons (pe_glob rfl ni.gS (v := .ref SE) rfl) pa_nil))) pa_nil))))
              (pw_or1 (pt_not (pt_val (pe_callB isi1 rfl T.isi boot_isinstance (pa_cons (pv 2) (pa_cons (pe_bltn rfl T.ve_ (by decide +kernel) (v := .ty "ValueError") rfl) pa_nil))))))))) (pss_one (ps_ret (pe_tup (pa_cons pe_str (pa_cons pe_str pa_nil))))) pss_nil)
            (pss_one (ps_ret (pe_tup (pa_cons pe_str (pa_cons (Bb.XL.pe_byF (X := Z) nt.ef hz hf (pv 2)) pa_nil)))))
        case w3 =>
          have ts2 : 2 ≤ sizeLine := by decide
          refine ⟨_, h1, _, _, _, rfl, (fun u r => r), ni.k1, ⟨_, hdd⟩, _, rfl, iteF ?_⟩
          refine ⟨_, h1, ts2, fun t ht => ?_⟩
          have u1 := up2 (o := .tup [.ref DE, .ref SE]) ht
          refine ⟨t, _, _, _, rfl, upd_same, .cons (.own DE) (.cons (.own SE) .nil), ni.k2, ⟨_, u1 _ _ hdd⟩, _, rfl, iteF ?_⟩
          refine ⟨_, h1, _, _, _, rfl, (fun u r => r), ni.k3, ⟨_, u1 _ _ hdd⟩, _, rfl, iteF ?_⟩
          refine ⟨_, h1, rfl, rfl, dd, _, rfl, u1 _ _ hdd, ts2, fun p hp => ?_⟩
          exact back p _ (u1.trans (up2 hp)) upd_same
      case w1 =>
        rintro D σ H ⟨v, d, v1, v2, v3, rfl, hx, htx, qt, qe, qn⟩
        refine ⟨fun cls dd H' => cls = .ref TE ∧ ∃ (n : Int) (a : Addr), dd = some a ∧ H' a = some (.xd [(("line" : Str), .int n)]) ∧ ∀ p H'', Same H' H'' → H'' p = some (.tup [.str "no", .int n]) → D.rt (.ref p) H'', ?_, ?_⟩
        · rintro cls dd σ' H' ⟨rfl, n, a, rfl, ha, back⟩
          refine ⟨true, ni.cc, fun _ b hb => ?_, fun e => by cases e⟩
          refine ⟨rfl, a, n, rfl, ha, fun hlen => ?_, back⟩
          show (σ'.set 2 (some (V.ref b)))[2]? = some (some (V.ref b))
          have hlen : (σ'.set 2 (some (V.ref b))).length = 4 := hlen
          rw [List.length_set] at hlen
          rw [List.getElem?_set_self (by omega)]
        · refine ⟨_, rfl, v, d, rfl, hx, htx, fun t rs e1 e2 y H' ny s1 sy => ?_, fun t n e1 e2 dd H' s1 hdd => ⟨rfl, _, dd, rfl, hdd, fun p H'' s2 hp => qe t n e1 e2 p H'' (s1.trans s2) hp⟩, fun ns dd H' s1 hdd => ⟨rfl, _, dd, rfl, hdd, fun p H'' s2 hp => qn ns p H'' (s1.trans s2) hp⟩⟩
          exact qt t rs e1 e2 y H' s1 sy
      case s1 =>
        exact pss_cons (ps_if (pt_not (pt_val (pe_callB call_isi rfl T.isi boot_isinstance (pa_cons (pv 1) (pa_cons (pe_glob rfl RS.gC (v := .ref S) rfl) pa_nil))))) (pss_one (ps_ret (pe_tup (pa_cons pe_str (pa_cons pe_str pa_nil))))) pss_nil)
          (pss_one (ps_ret (pe_tup (pa_cons pe_str (pa_cons (pe_lc (own := [("_law_one", 3)]) (g := gName 3) (tt := tYes) rfl scLr.nd (pi_list (pe_meth0 (pv 1) RS.cl mA GA hr1 bA .nil pass0)) (blkOk_by (N := nLr) (sc := defScope sLRead) (by decide +kernel)) (fun _ _ _ _ _ => pg_name (i := 3) scLr.nd rfl (Or.inl rfl)) (fun _ _ _ _ _ => pts_nil)
            (fun _ _ _ _ _ => pe_call GV hr1 rfl gV kV bV .nil pass0 (pa_cons (pv 3) pa_nil))) pa_nil)))))
    case r =>
      have ts2 : 2 ≤ sizeLine := by decide
      refine ⟨v, d, _, _, _, rfl, hx, htx, fun t rs e1 e2 y H1 s1 sy => ?_, fun t n e1 e2 p H' s1 hp => ?_, fun ns p H' s1 hp => ?_⟩
      · obtain ⟨dx, tt, bs, hy, _, _, l60⟩ := id sy
        refine ⟨_, rfl, _, _, _, _, _, rfl, .own S, .base (.ins hy RS.cl RS.ha RS.hn RS.ht RS.hm), RS.kit, _, rfl, iteF ?_⟩
        refine ⟨_, rfl, y, dx, _, rfl, hy, sf_no tt (by decide +kernel), y, rs, rfl, sy, fun L cs H2 nL s2 hL rec => ?_⟩
        refine ⟨L, rfl, ⟨_, SqL.of hL⟩, fun M hM => lc_list (K := K) (a := L) (xs := cs.map V.ref) (fun i H' => Same H2 H' ∧ ∃ gs : List (Addr × PR), H' M = some (.lst (gv gs)) ∧ Gd H' gs ∧ gs.map (·.2) = rs.take i)
          ⟨up2 hM, [], upd_same, (fun x hx => by cases hx), by rw [List.take_zero]; rfl⟩ (fun i H' _ ⟨s', _⟩ => SqL.of (s' _ _ hL)) ?_ ?_⟩
        · rintro i z H' hz ⟨sm, gs, hl, gd, er⟩
          obtain ⟨b, r, rfl, h1, h2, ab, okr⟩ := rec.get hz
          have il := (List.getElem?_eq_some_iff.mp h2).1
          have lg : gs.length = i := by
            have e := congrArg List.length er
            rw [List.length_map, List.length_take] at e
            omega
          refine ⟨rfl, ?_⟩
          unfold tYes
          dsimp only
          rw [if_pos rfl]
          refine ⟨_, rfl, b, r, rfl, ab.same sm, fun R H3 nR s3 hR => ?_⟩
          have hl3 := s3 _ _ hl
          refine ⟨_, hl3, small1000 (by rw [gv_len]; omega), same_upd (sm.trans s3) hM, gs ++ [(R, r)], by rw [upd_same, ← gv_app]; rfl, ((gd.same s3).app (Gd.one hR okr)).upd hl3, ?_⟩
          rw [List.map_append, er, take_sn h2]
          rfl
        · rintro H3 ⟨s3, gs, hl, gd, er⟩
          rw [List.length_map, rec.1, List.take_length] at er
          refine ⟨ts2, fun p hp => ?_⟩
          have u5 := up2 (o := .tup [.str "told", .ref M]) hp
          refine q p _ (s1.trans (s2.trans (s3.trans u5))) ?_
          rw [e1]
          show Da (fun _ => False) _ (.ref p) (encR (sheetR t))
          rw [e2, ← er]
          exact .tup upd_same (fun z => z) (.cons (.str _) (.cons (.lst (u5 _ _ hl) (fun z => z) (da_rows (gd.same u5))) .nil))
      · refine q p H' s1 ?_
        rw [e1]
        show Da (fun _ => False) H' (.ref p) (encR (sheetR t))
        rw [e2]
        exact .tup hp (fun z => z) (.cons (.str _) (.cons (.int _) .nil))
      · refine q p H' s1 ?_
        have e : dueD d = .tuple [.str "no", .int (-1)] := by
          cases d with
          | str t => exact ns.elim
          | _ => rfl
        rw [e]
        exact .tup hp (fun z => z) (.cons (.str _) (.cons (.int _) .nil))
end
end K13
set_option Elab.async false
set_option linter.all false
set_option maxRecDepth 100000
set_option maxHeartbeats 4000000
namespace K13
open PySem PySem.Spec PyProof.Rows L2 Bb
/-! _law_bent: a text bent; lines of deeds are short texts -/
theorem okC9_name {c : Nat} (h : c ∈ letters.cps.toList) : okC9 c := by
  have e : ∀ c ∈ letters.cps.toList, 97 ≤ c ∧ c ≤ 122 := by decide +kernel
  obtain ⟨h1, h2⟩ := e c h
  exact .inr (.inr ⟨by omega, by omega⟩)
theorem tx_name {z : Str} (h : nameZ z = true) : TX 8 z := by
  unfold nameZ at h
  obtain ⟨h1, h2⟩ := Bool.and_eq_true_iff.mp h
  exact ⟨fun c hc => okC9_name (of_decide_eq_true (List.all_eq_true.mp h2 c hc)), (of_decide_eq_true h1).2⟩
theorem tx_int {i : Int} (h : -1000000 ≤ i ∧ i ≤ 1000000) : TX 8 (strI i) := by
  refine ⟨(okT_int i).t9, ?_⟩
  rw [TL.len_tl, tl_int]
  exact numI_len (k := 7) (by decide) (by
    have e : (10 : Nat) ^ 7 = 10000000 := by decide
    omega)
theorem tx_line {r : PR} (o : r.Ok) : TX 70 (wTxt (lineP r)) := by
  have h2 := o.o2
  have h3 := o.o3
  have h4 := o.o4
  have h5 := o.o5
  have all : ∀ z ∈ lineP r, TX 8 z := by
    intro z hz
    unfold lineP at hz
    simp only [List.mem_cons, List.not_mem_nil, or_false] at hz
    rcases hz with rfl | rfl | rfl | rfl | rfl | rfl | rfl
    · exact tx_name o.o0
    · exact tx_name o.o1
    · exact tx_int ⟨by omega, by omega⟩
    · exact tx_int ⟨by omega, by omega⟩
    · exact tx_int ⟨by omega, by omega⟩
    · exact tx_int ⟨by omega, by omega⟩
    · exact tx_name o.o6
  unfold wTxt
  refine tx_join (tx_lit (by decide +kernel) (by decide +kernel)) (fun t ht => (all t ht).1) ?_
  have s := sum_le (l := (lineP r).map (·.length)) (m := 8) fun x hx => by
    obtain ⟨z, hz, rfl⟩ := List.mem_map.mp hx
    exact (all z hz).2
  rw [List.length_map] at s
  have l7 : (lineP r).length = 7 := rfl
  rw [l7] at s ⊢
  omega
/-- parts of a list of texts -/
theorem cut_sub (zs : List Str) (lo hi : Option Int) : ∃ ys : List Str, cutV (zs.map V.str) lo hi = ys.map V.str ∧ ys.Sublist zs := by
  unfold cutV
  rw [← List.map_drop, ← List.map_take]
  exact ⟨_, rfl, (List.take_sublist _ _).trans (List.drop_sublist _ _)⟩
theorem sub_sum {ys zs : List Nat} (h : ys.Sublist zs) : ys.sum ≤ zs.sum := by
  induction h with
  | slnil => exact Nat.le_refl _
  | cons a _ ih =>
    rw [List.sum_cons]
    omega
  | cons_cons a _ ih =>
    rw [List.sum_cons, List.sum_cons]
    omega
/-- so much room a list of texts takes when joined -/
def roomS (zs : List Str) : Nat := (zs.map (·.length)).sum + zs.length
theorem room_sub {ys zs : List Str} (h : ys.Sublist zs) : roomS ys ≤ roomS zs := by
  have a := sub_sum (h.map (fun x : Str => x.length))
  have b := h.length_le
  unfold roomS
  omega
theorem room_app (ys zs : List Str) : roomS (ys ++ zs) = roomS ys + roomS zs := by
  unfold roomS
  rw [List.map_append, List.sum_append, List.length_append]
  omega
theorem room_len (zs : List Str) : zs.length ≤ roomS zs := by
  unfold roomS
  omega
def spBent : Sp := fun vs H Q _ => ∃ (p : Addr) (t : Str) (n : Nat), vs = [.ref p, .str t] ∧ Pen H p ∧ TX n t ∧ n ≤ 5000 ∧ ∀ t' H', TX (3 * n + 20) t' → Kp p H H' → Q (.str t') H'
abbrev nBe : List Str := ["_law_pen_here", "_law_text", "_law_signs", "_law_sign", "_law_at", "_law_way", "_law_words", "_law_to", "_law_odd"]
abbrev sigA : Str := " !\"#$&'()*+,-./0123456789:;<=>?@ABCDEFGHIJKLMNOPQRSTUVWXYZ"
abbrev sigB : Str := "[\\]^_`abcdefghijklmnopqrstuvwxyz{|}~\t\n"
abbrev sigC : Str := " 0-1\n"
abbrev odd1 : List Str := ["", "00", "01", "-0", "+1", "1000000", "1000001", "9999999", "10000000"]
abbrev odd2 : List Str := ["-40000", "-40001", "x", "1.0", "24", "99", "100", "-99"]
def tDrawn : TS := fun D σ H => ∃ (p : Addr) (t : Str) (n : Nat) (v3 v4 v5 v6 v7 v8 : Option V), σ = [some (.ref p), some (.str t), some (.str (sigA ++ sigB)), v3, v4, v5, v6, v7, v8] ∧ Pen H p ∧ TX n t ∧ n ≤ 5000 ∧
  ∀ (s : Str) (a w : Int) H', TX 1 s → 0 ≤ w → w < 6 → Kp p H H' → D.nx [some (.ref p), some (.str t), some (.str (sigA ++ sigB)), some (.str s), some (.int a), some (.int w), v6, v7, v8] H'
section
variable {P : Program} {w : World} {K : PySem.W.Frag} {mg : Str → Option Value} {base : Heap} {f : Addr} {fd : FuncData}
theorem scBe : FnScope nBe ["_law_pen_here", "_law_text"] (defScope sBent) := ⟨rfl, rfl, rfl, by decide +kernel, rfl, by decide +kernel, by decide +kernel⟩
theorem ok_bent (F : Fn K "_law_bent" "_law_bent" sBent f fd) (h : Hl K mg) : FnOk P w K mg base L2.CX0 3 f fd ["_law_pen_here", "_law_text"] spBent := by
  have T := h.fr
  obtain ⟨aP, dP, GP, gP, kP, bP⟩ := h.pk (P := P) (w := w) (base := base)
  obtain ⟨aS, dS, GS, gS, kS, bS⟩ := h.pkS (P := P) (w := w) (base := base)
  obtain ⟨aD, dD, GD, gD, kD, bD⟩ := h.dr (P := P) (w := w) (base := base)
  refine F.ok scBe (fun vs H Q E h => ?_) (fun cdv A outer s H vs Q E hr hh => ?_)
  · obtain ⟨p, t, n, rfl, _⟩ := h
    rfl
  · obtain ⟨p, t, n, rfl, pn, tx, n5, q⟩ := hh
    let X := (cxOf L2.CX0 P w K mg base nBe "_law_bent" (defScope sBent) f cdv A outer s H E).nox
    have hr1 : Room 1 X.A := hr.mono (by decide)
    have hr2 : Room 2 X.A := hr
    refine' ⟨_, PSs.nox ?d, ?r⟩
    case d =>
      refine' pss_cons (ps_set (i := 2) scBe.nd rfl (.inl rfl) pe_str) (pss_cons (ps_set (i := 2) scBe.nd rfl (.inl rfl) (pe_op op_add_str (pv 2) pe_str)) (pss_cons (psBy (t' := tDrawn) (ps_par3 (i := 3) (j := 4) (l := 5) rfl scBe.nd rfl rfl rfl (by decide) (by decide) (by decide) rfl rfl rfl
          (pa_cons (pe_call GS hr2 rfl gS kS bS .nil pass0 (pa_cons (pv 0) (pa_cons (pe_op op_add_str (pv 2) (pe_op op_mulS pe_str pe_int)) pa_nil))) (pa_cons (pe_call GD hr1 rfl gD kD bD .nil pass0 (pa_cons (pv 0) (pa_cons (pe_op op_add (pe_callB call_len_str rfl T.len_ boot_len (pa_cons (pv 1) pa_nil)) pe_int) pa_nil))) (pa_cons (pe_call GD hr1 rfl gD kD bD .nil pass0 (pa_cons (pv 0) (pa_cons pe_int pa_nil))) pa_nil))) ?sw) ?w1) ?s3))
      case sw => rfl
      case s3 =>
        refine' pss_cons (ps_if (pt_cmpR op_lt (pv 5) pe_int (nomark _)) (pss_one (ps_ret (pe_op op_add_str (pe_op op_add_str (pe_slice sl_str (pv 1) po_none (po_some (pv 4))) (pe_ix ix_list (pe_lst (pa_cons (pv 3) (pa_cons pe_str (pa_cons (pv 3) pa_nil)))) (pv 5) (fun _ _ => rfl)))
            (pe_slice sl_str (pv 1) (po_some (pe_op op_add (pv 4) (pe_callTy call_int1 rfl T.int_ (by decide +kernel) (pa_cons (pe_cmpR op_gt (pv 5) pe_int (nomark _)) pa_nil)))) po_none)))) pss_nil)
          (pss_cons (ps_set (i := 6) scBe.nd rfl (.inl rfl) (pe_bm PySem.F.plainAttrs_str PySem.F.slot_str_split PySem.F.type_str_split mt_split (pv 1) (pa_cons pe_str pa_nil)))
          (pss_cons (ps_set (i := 7) scBe.nd rfl (.inl rfl) (pe_call GD hr1 rfl gD kD bD .nil pass0 (pa_cons (pv 0) (pa_cons (pe_callB call_len_seq rfl T.len_ boot_len (pa_cons (pv 6) pa_nil)) pa_nil))))
          (pss_cons (ps_if (pt_cmpR op_eq (pv 5) pe_int (nomark _)) (pss_one (ps_ret (pe_join pe_str (pe_op op_cat (pe_slice sl_list (pv 6) po_none (po_some (pv 7))) (pe_slice sl_list (pv 6) (po_some (pe_op op_add (pv 7) pe_int)) po_none))))) pss_nil)
          (pss_cons (ps_if (pt_cmpR op_eq (pv 5) pe_int (nomark _)) (pss_cons (ps_set (i := 8) scBe.nd rfl (.inl rfl) (pe_lst (pa_cons pe_str (pa_cons pe_str (pa_cons pe_str (pa_cons pe_str (pa_cons pe_str (pa_cons pe_str (pa_cons pe_str (pa_cons pe_str (pa_cons pe_str pa_nil)))))))))))
              (pss_cons (ps_set (i := 8) scBe.nd rfl (.inl rfl) (pe_op op_cat (pv 8) (pe_lst (pa_cons pe_str (pa_cons pe_str (pa_cons pe_str (pa_cons pe_str (pa_cons pe_str (pa_cons pe_str (pa_cons pe_str (pa_cons pe_str pa_nil)))))))))))
              (pss_one (ps_ret (pe_join pe_str (pe_op op_cat (pe_op op_cat (pe_slice sl_list (pv 6) po_none (po_some (pv 7))) (pe_lst (pa_cons (pe_call GP hr2 rfl gP kP bP .nil pass0 (pa_cons (pv 0) (pa_cons (pv 8) pa_nil))) pa_nil))) (pe_slice sl_list (pv 6) (po_some (pe_op op_add (pv 7) pe_int)) po_none))))))) pss_nil)
          (pss_one (ps_ret (pe_join pe_str (pe_op op_cat (pe_op op_cat (pe_slice sl_list (pv 6) po_none (po_some (pv 7))) (pe_slice sl_list (pv 6) (po_some (pv 7)) (po_some (pe_op op_add (pv 7) pe_int)))) (pe_slice sl_list (pv 6) (po_some (pv 7)) po_none)))))))))
      case w1 =>
        rintro D σ H ⟨p, t, n, v3, v4, v5, v6, v7, v8, rfl, pn, tx, n5, nx⟩
        have sz := sizeLine_eq
        have lt := tx.2
        have lA : (sigA ++ sigB).length ≤ 100 := by decide +kernel
        have lC : sigC.length = 5 := by decide +kernel
        obtain ⟨m4, em4⟩ : ∃ m4 : Str, m4 = ⟨(List.replicate 4 sigC.cps).foldl (· ++ ·) #[]⟩ := ⟨_, rfl⟩
        have l4 : m4.length = 20 := by rw [em4]; decide +kernel
        have ts : TX 200 ((sigA ++ sigB) ++ m4) := by
          rw [em4]
          exact tx_lit (by decide +kernel) (by decide +kernel)
        refine ⟨_, rfl, _, rfl, _, 4, rfl, rfl, by decide, by decide, by rw [lC]; decide, by rw [lC]; decide, ?_⟩
        rw [← em4]
        refine ⟨_, _, rfl, rfl, by omega, ?_⟩
        have lt2 := ts.2
        refine ⟨p, _, rfl, pn, ⟨by rw [strLen_append]; omega, by omega⟩, fun c H1 hc k1 => ?_⟩
        refine ⟨_, rfl, _, rfl, t, rfl, by omega, _, _, rfl, rfl, p, _, rfl, k1.pen, ⟨by omega, by omega⟩, fun a H2 a0 a1 k2 => ?_⟩
        refine ⟨_, rfl, p, 6, rfl, k2.pen, ⟨by decide, by decide⟩, fun w H3 w0 w1 k3 => ?_⟩
        refine ⟨_, _, _, rfl, nx ⟨#[c]⟩ a w H3 ⟨fun d hd => ?_, Nat.le_refl 1⟩ w0 w1 (k1.trans (k2.trans k3))⟩
        have e : d = c := by simpa [TL.tl] using hd
        rw [e]
        exact ts.1 c hc
    case r =>
      have sz := sizeLine_eq
      have lt := tx.2
      have lA : sigA.length + sigB.length ≤ sizeLine := by
        have e : sigA.length + sigB.length ≤ 200 := by decide +kernel
        omega
      refine ⟨_, rfl, _, _, rfl, rfl, lA, ?_⟩
      refine ⟨p, t, n, _, _, _, _, _, _, rfl, pn, tx, n5, fun sg a w H1 tsg w0 w6 k1 => ?_⟩
      refine ⟨_, rfl, _, _, rfl, rfl, _, rfl, ?_⟩
      refine ite2 (fun c => ?_) (fun c => ?_)
      · have w3 : w < 3 := of_decide_eq_true c
        obtain ⟨sv, esv, tsv⟩ : ∃ sv : Str, atI [V.str sg, V.str "", V.str sg] w = some (.str sv) ∧ TX 1 sv := by
          have c3 : w = ((0 : Nat) : Int) ∨ w = ((1 : Nat) : Int) ∨ w = ((2 : Nat) : Int) := by omega
          rcases c3 with rfl | rfl | rfl
          · exact ⟨sg, at_of (j := 0) rfl rfl, tsg⟩
          · exact ⟨"", at_of (j := 1) rfl rfl, ⟨(fun c hc => by cases hc), by decide +kernel⟩⟩
          · exact ⟨sg, at_of (j := 2) rfl rfl, tsg⟩
        have t1 := tx.cut none (some a)
        refine ⟨_, rfl, _, rfl, _, rfl, t, rfl, by omega, ?_⟩
        refine ⟨_, rfl, _, rfl, (by show 3 ≤ sizeLine; decide), fun L hL => ?_⟩
        have u1 := up2 (o := .lst [V.str sg, V.str "", V.str sg]) hL
        have l1 := t1.2
        have l2 := tsv.2
        refine ⟨_, rfl, L, _, _, _, rfl, rfl, SqL.of upd_same, esv, _, _, rfl, rfl, by omega, ?_⟩
        refine ⟨_, rfl, _, rfl, _, rfl, _, _, rfl, rfl, .inr ⟨_, rfl, _, _, rfl, rfl, _, rfl, t, rfl, by omega, ?_⟩⟩
        have t3 : ∀ o : Option Int, TX n (cutS t o none) := fun o => tx.cut o none
        have lx := (t1.app tsv).2
        refine ⟨_, _, rfl, rfl, Nat.le_trans (Nat.add_le_add lx (t3 _).2) (by omega), ?_⟩
        exact q _ _ (((t1.app tsv).app (t3 _)).le (by omega)) (k1.same u1)
      · have w3 : ¬ w < 3 := fun z => c (decide_eq_true z)
        have d1 : (Str.ofString " ").length = 1 := by decide +kernel
        obtain ⟨px, ps⟩ := tx.split sp1 (by decide)
        refine ⟨_, rfl, rfl, _, _, rfl, rfl, by rw [d1]; rfl, by omega, fun L hL => ?_⟩
        obtain ⟨zs, ezs⟩ : ∃ zs, zs = Txt.split t " " := ⟨_, rfl⟩
        rw [← ezs] at px ps ⊢
        have rz : roomS zs ≤ n + 1 := ps
        have lz := room_len zs
        have u1 := up2 (o := .lst (zs.map V.str)) hL
        obtain ⟨H2, eH2⟩ : ∃ G, G = upd H1 L (.lst (zs.map V.str)) := ⟨_, rfl⟩
        have hL2 : H2 L = some (.lst (zs.map V.str)) := by
          rw [eH2]
          exact upd_same
        rw [← eH2] at u1 ⊢
        have k2 := k1.same u1
        have zpos : 0 < zs.length := by
          rw [ezs]
          rcases Nat.eq_zero_or_pos (Txt.split t " ").length with e | e
          · have e2 := List.length_eq_zero_iff.mp e
            have e3 := (split_one (x := t) sp1 (by decide)).1
            rw [e2] at e3
            have e4 : (([] : List Str).map (·.length)).sum + ([] : List Str).length = 0 := rfl
            omega
          · exact e
        have nLp : L ≠ p := by
          rintro rfl
          exact pen_old k1.pen hL
        refine ⟨_, rfl, _, rfl, L, _, rfl, .inl (SqL.of hL2), p, _, rfl, k2.pen, ⟨by rw [List.length_map]; omega, by rw [List.length_map]; omega⟩, fun to H3 to0 to1 k3 => ?_⟩
        have hL3 := k3.keep _ _ hL2 nLp
        have k4 := k2.trans k3
        have sl : ∀ {ys : List Str}, ys.Sublist zs → (∀ y ∈ ys, okT9 y) ∧ roomS ys ≤ n + 1 := fun {ys} h => ⟨fun y hy => (px y (h.subset hy)).1, Nat.le_trans (room_sub h) rz⟩
        have lens : ∀ {ys : List Str}, ys.Sublist zs → ys.length ≤ n + 1 := fun {ys} h => Nat.le_trans (room_len ys) (sl h).2
        have spT : TX 1 (" " : Str) := tx_lit (by decide +kernel) (by decide +kernel)
        have fin : ∀ (ys : List Str) (G : Hp), (∀ y ∈ ys, okT9 y) → roomS ys ≤ 3 * n + 13 → Kp p H G → ((ys.map (·.length)).sum + ys.length * (" " : Str).length ≤ sizeLine) ∧ Q (.str (Txt.join " " ys)) G := fun ys G ok rm kp => by
          refine ⟨?_, q _ _ ((tx_join spT ok (n := 3 * n + 13) rm).le (by omega)) kp⟩
          have e1 : ((" " : String) : Str).length = 1 := by decide +kernel
          rw [e1, Nat.mul_one]
          have rm2 : (ys.map (·.length)).sum + ys.length ≤ 3 * n + 13 := rm
          omega
        refine ⟨_, rfl, rfl, _, rfl, ?_⟩
        refine ite2 (fun c3 => ?_) (fun c3 => ?_)
        · refine ⟨⟨_, rfl⟩, ?_⟩
          refine ⟨_, rfl, _, rfl, _, rfl, L, _, rfl, SqL.of hL3, fun S1 hS1 => ?_⟩
          obtain ⟨y1, e1, b1⟩ := cut_sub zs none (some to)
          rw [e1]
          have v1 := up2 (o := .lst (y1.map V.str)) hS1
          refine ⟨_, rfl, _, rfl, _, _, rfl, rfl, _, rfl, L, _, rfl, SqL.of (v1 _ _ hL3), fun S2 hS2 => ?_⟩
          obtain ⟨y2, e2, b2⟩ := cut_sub zs (some (to + 1)) none
          rw [e2]
          have v2 := up2 (o := .lst (y2.map V.str)) hS2
          have n1 := lens b1
          have n2 := lens b2
          refine ⟨S1, S2, _, _, rfl, rfl, v2 _ _ upd_same, upd_same, by rw [List.length_map, List.length_map]; omega, fun R hR => ?_⟩
          have v3 := up2 (o := .lst (y1.map V.str ++ y2.map V.str)) hR
          have r1 := (sl b1).2
          have r2 := (sl b2).2
          obtain ⟨h2, h3⟩ := fin (y1 ++ y2) _ (fun y hy => by
            rcases List.mem_append.mp hy with z | z
            · exact (sl b1).1 y z
            · exact (sl b2).1 y z) (by rw [room_app]; omega) ((k4.same v1).same (v2.trans v3))
          exact ⟨_, R, y1 ++ y2, rfl, rfl, .inl (SqL.of (by rw [upd_same, List.map_append])), h2, h3⟩
        · refine ⟨_, rfl, rfl, _, rfl, ?_⟩
          refine ite2 (fun c4 => ?_) (fun c4 => ?_)
          · refine ⟨(by show 9 ≤ sizeLine; decide), fun o1 ho1 => ?_⟩
            have w1 := up2 (o := .lst [V.str "", V.str "00", V.str "01", V.str "-0", V.str "+1", V.str "1000000", V.str "1000001", V.str "9999999", V.str "10000000"]) ho1
            refine ⟨_, rfl, (by show 8 ≤ sizeLine; decide), fun o2 ho2 => ?_⟩
            have w2 := up2 (o := .lst [V.str "-40000", V.str "-40001", V.str "x", V.str "1.0", V.str "24", V.str "99", V.str "100", V.str "-99"]) ho2
            refine ⟨o1, o2, _, _, rfl, rfl, w2 _ _ upd_same, upd_same, (by show 9 + 8 ≤ sizeLine; decide), fun o3 ho3 => ?_⟩
            have w3' := up2 (o := .lst ([V.str "", V.str "00", V.str "01", V.str "-0", V.str "+1", V.str "1000000", V.str "1000001", V.str "9999999", V.str "10000000"] ++ [V.str "-40000", V.str "-40001", V.str "x", V.str "1.0", V.str "24", V.str "99", V.str "100", V.str "-99"])) ho3
            have sw := w1.trans (w2.trans w3')
            have np3 : o3 ≠ p := by
              rintro rfl
              exact pen_old (pen_same k4.pen (w1.trans w2)) ho3
            have odds : ∀ v ∈ ([V.str "", V.str "00", V.str "01", V.str "-0", V.str "+1", V.str "1000000", V.str "1000001", V.str "9999999", V.str "10000000"] ++ [V.str "-40000", V.str "-40001", V.str "x", V.str "1.0", V.str "24", V.str "99", V.str "100", V.str "-99"] : List V), ∃ z : Str, v = .str z ∧ TX 8 z := by
              intro v hv
              have hv2 : v ∈ (odd1 ++ odd2).map V.str := hv
              obtain ⟨z, hz, rfl⟩ := List.mem_map.mp hv2
              refine ⟨z, rfl, ?_⟩
              have all : ∀ z ∈ odd1 ++ odd2, ((TL.tl z).all (fun c => decide (c = 9) || decide (okC c)) && decide (z.length ≤ 8)) = true := by decide +kernel
              obtain ⟨g1, g2⟩ := Bool.and_eq_true_iff.mp (all z hz)
              exact tx_lit g1 (of_decide_eq_true g2)
            refine ⟨⟨_, rfl⟩, ?_⟩
            refine ⟨_, rfl, _, rfl, _, rfl, L, _, rfl, SqL.of (sw _ _ hL3), fun S1 hS1 => ?_⟩
            obtain ⟨y1, e1, b1⟩ := cut_sub zs none (some to)
            rw [e1]
            have v1 := up2 (o := .lst (y1.map V.str)) hS1
            have k5 := (k4.same sw).same v1
            refine ⟨_, rfl, _, rfl, p, o3, _, rfl, k5.pen, v1 _ _ upd_same, np3, ⟨(by show 0 < 17; decide), (by show 17 ≤ 1000; decide)⟩, fun v H6 hv k6 => ⟨(by show 1 ≤ sizeLine; decide), fun S2 hS2 => ?_⟩⟩
            obtain ⟨z, rfl, tz⟩ := odds v hv
            have nS1 : S1 ≠ p := by
              rintro rfl
              exact pen_old (k4.same sw).pen hS1
            have hS16 := k6.keep _ _ upd_same nS1
            have hL6 := k6.keep _ _ (v1 _ _ (sw _ _ hL3)) nLp
            have v2 := up2 (o := .lst [V.str z]) hS2
            have n1 := lens b1
            refine ⟨S1, S2, _, _, rfl, rfl, v2 _ _ hS16, upd_same, by rw [List.length_map]; show _ + 1 ≤ sizeLine; omega, fun S3 hS3 => ?_⟩
            have v3 := up2 (o := .lst (y1.map V.str ++ [V.str z])) hS3
            have v23 := v2.trans v3
            refine ⟨_, rfl, _, rfl, _, _, rfl, rfl, _, rfl, L, _, rfl, SqL.of (v23 _ _ hL6), fun S4 hS4 => ?_⟩
            obtain ⟨y2, e2, b2⟩ := cut_sub zs (some (to + 1)) none
            rw [e2]
            have v4 := up2 (o := .lst (y2.map V.str)) hS4
            have n2 := lens b2
            refine ⟨S3, S4, _, _, rfl, rfl, v4 _ _ upd_same, upd_same, by rw [List.length_append, List.length_map, List.length_map]; show _ + 1 + _ ≤ sizeLine; omega, fun R hR => ?_⟩
            have v5 := up2 (o := .lst (y1.map V.str ++ [V.str z] ++ y2.map V.str)) hR
            have r1 := (sl b1).2
            have r2 := (sl b2).2
            have rz1 : roomS [z] ≤ 9 := by
              have := tz.2
              show z.length + 0 + 1 ≤ 9
              omega
            obtain ⟨h2, h3⟩ := fin (y1 ++ [z] ++ y2) _ (fun y hy => by
              rcases List.mem_append.mp hy with q1 | q1
              · rcases List.mem_append.mp q1 with q2 | q2
                · exact (sl b1).1 y q2
                · rw [List.mem_singleton.mp q2]
                  exact tz.1
              · exact (sl b2).1 y q1) (by rw [room_app, room_app]; omega) ((k5.trans k6).same (v23.trans (v4.trans v5)))
            exact ⟨_, R, y1 ++ [z] ++ y2, rfl, rfl, .inl (SqL.of (by rw [upd_same, List.map_append, List.map_append]; rfl)), h2, h3⟩
          · refine ⟨⟨_, rfl⟩, ?_⟩
            refine ⟨_, rfl, _, rfl, _, rfl, L, _, rfl, SqL.of hL3, fun S1 hS1 => ?_⟩
            obtain ⟨y1, e1, b1⟩ := cut_sub zs none (some to)
            rw [e1]
            have v1 := up2 (o := .lst (y1.map V.str)) hS1
            refine ⟨_, rfl, _, rfl, _, rfl, _, rfl, _, _, rfl, rfl, _, rfl, L, _, rfl, SqL.of (v1 _ _ hL3), fun S2 hS2 => ?_⟩
            obtain ⟨y2, e2, b2⟩ := cut_sub zs (some to) (some (to + 1))
            rw [e2]
            have v2 := up2 (o := .lst (y2.map V.str)) hS2
            have n1 := lens b1
            have n2 := lens b2
            refine ⟨S1, S2, _, _, rfl, rfl, v2 _ _ upd_same, upd_same, by rw [List.length_map, List.length_map]; omega, fun S3 hS3 => ?_⟩
            have v3 := up2 (o := .lst (y1.map V.str ++ y2.map V.str)) hS3
            have v13 := v1.trans (v2.trans v3)
            refine ⟨_, rfl, _, rfl, _, rfl, L, _, rfl, SqL.of (v13 _ _ hL3), fun S4 hS4 => ?_⟩
            obtain ⟨y3, e3, b3⟩ := cut_sub zs (some to) none
            rw [e3]
            have v4 := up2 (o := .lst (y3.map V.str)) hS4
            have n3 := lens b3
            refine ⟨S3, S4, _, _, rfl, rfl, v4 _ _ upd_same, upd_same, by rw [List.length_append, List.length_map, List.length_map, List.length_map]; omega, fun R hR => ?_⟩
            have v5 := up2 (o := .lst (y1.map V.str ++ y2.map V.str ++ y3.map V.str)) hR
            have r1 := (sl b1).2
            have r2 := (sl b2).2
            have r3 := (sl b3).2
            obtain ⟨h2, h3⟩ := fin (y1 ++ y2 ++ y3) _ (fun y hy => by
              rcases List.mem_append.mp hy with q1 | q1
              · rcases List.mem_append.mp q1 with q2 | q2
                · exact (sl b1).1 y q2
                · exact (sl b2).1 y q2
              · exact (sl b3).1 y q1) (by rw [room_app, room_app]; omega) ((k4.same v13).same (v4.trans v5))
            exact ⟨_, R, y1 ++ y2 ++ y3, rfl, rfl, .inl (SqL.of (by rw [upd_same, List.map_append, List.map_append])), h2, h3⟩
end
end K13
set_option Elab.async false
set_option linter.all false
set_option maxRecDepth 100000
set_option maxHeartbeats 4000000
namespace K13
open PySem PySem.Spec PyProof.Rows L2 Bb
/-! the law's own def -/
theorem extN_same {H H' : Hp} (s : Same H H') : LamX.ExtN H H' := fun b o e _ => s b o e
theorem extN_kp {H H' : Hp} {p : Addr} {G : Hp} (e : LamX.ExtN G H) (np : G p = none) (k : Kp p H H') : LamX.ExtN G H' := fun b o h n => k.keep b o (e b o h n) (ne_of_none h np)
theorem same_kp {G H H' : Hp} {p : Addr} (s : Same G H) (np : G p = none) (k : Kp p H H') : Same G H' := fun b o e => k.keep b o (s b o e) (ne_of_none e np)
theorem int_at {ns : List Int} {z0 : Int} {lo hi : Option Int} {i : Nat} {y : V} (h : ([V.int z0] ++ cutV (ns.map V.int) lo hi)[i]? = some y) : ∃ z, y = .int z := by
  have m := List.mem_of_getElem? h
  rcases List.mem_append.mp m with q | q
  · exact ⟨z0, by simpa using q⟩
  · unfold cutV at q
    have q2 := List.mem_of_mem_drop (List.mem_of_mem_take q)
    obtain ⟨z, _, e⟩ := List.mem_map.mp q2
    exact ⟨z, e.symm⟩
theorem cut_mem {xs : List V} {lo hi : Option Int} {v : V} (h : v ∈ cutV xs lo hi) : v ∈ xs := by
  unfold cutV at h
  exact List.mem_of_mem_drop (List.mem_of_mem_take h)
theorem pss_chunk3 {X : Cx} {b : List Stmt} {t t' : TS} (h : PSs X b t) (w : ∀ D σ H, t' D σ H → t D σ H) : PSs X b t' := ⟨fun pins s σ H D I q => h.run pins s σ H D I (w D σ H q)⟩
def spShown : Sp := fun vs H Q _ => ∃ (R : Addr) (xs : List V) (zs : List Str), vs = [.ref R] ∧ H R = some (.tup xs) ∧ xs.length = zs.length ∧ (∀ (i : Nat) (v : V) (z : Str), xs[i]? = some v → zs[i]? = some z → StrV v z) ∧ zs.length ≤ 8 ∧ (zs.map (·.length)).sum ≤ 10000 ∧ ∀ H', Same H H' → Q (.str (wTxt zs)) H'
section
variable {P : Program} {w : World} {K : PySem.W.Frag} {mg : Str → Option Value} {base : Heap} {f : Addr} {fd : FuncData}
theorem scShown : FnScope ["_law_row", "_law_one"] ["_law_row"] (defScope sShown) := ⟨rfl, rfl, rfl, by decide +kernel, rfl, by decide +kernel, by decide +kernel⟩
theorem ok_shown (F : Fn K "_law_shown" "_law_shown" sShown f fd) (T : Free mg) : FnOk P w K mg base L2.CX0 1 f fd ["_law_row"] spShown := by
  refine F.ok scShown (fun vs H Q E h => ?_) (fun cdv A outer s H vs Q E hr hh => ?_)
  · obtain ⟨R, xs, zs, rfl, _⟩ := h
    rfl
  · obtain ⟨R, xs, zs, rfl, hR, hl, hz, l8, hs, q⟩ := hh
    refine ⟨_, PSs.nox (pss_one (ps_ret (pe_join pe_str (pe_lc (own := [("_law_one", 1)]) (g := gName 1) (tt := tYes) rfl scShown.nd (pi_tup (pv 0)) (blkOk_by (N := ["_law_row", "_law_one"]) (sc := defScope sShown) (by decide +kernel)) (fun _ _ _ _ _ => pg_name (i := 1) scShown.nd rfl (Or.inl rfl)) (fun _ _ _ _ _ => pts_nil)
        (fun _ _ _ _ _ => pe_callTy call_strX rfl T.str_ (by decide +kernel) (pa_cons (pv 1) pa_nil)))))), ?_⟩
    refine ⟨⟨_, rfl⟩, _, rfl, R, rfl, ⟨_, SqT.of hR⟩, fun D hD => lc_tup (K := K) (a := R) (xs := xs) (fun i H' => Same H H' ∧ H' D = some (.lst ((zs.take i).map V.str))) ⟨up2 hD, by rw [List.take_zero]; exact upd_same⟩ (fun i H' _ p => sqt_same (SqT.of hR) p.1) ?_ ?_⟩
    · rintro i v H' hv ⟨sm, hl2⟩
      have hi : i < zs.length := by
        rw [← hl]
        exact (List.getElem?_eq_some_iff.mp hv).1
      have hzi := List.getElem?_eq_getElem hi
      refine ⟨rfl, ?_⟩
      unfold tYes
      dsimp only
      rw [if_pos rfl]
      have fin : ∃ acc, H' D = some (.lst acc) ∧ acc.length < sizeLine ∧ Same H (upd H' D (.lst (acc ++ [.str zs[i]]))) ∧ (upd H' D (.lst (acc ++ [.str zs[i]]))) D = some (.lst ((zs.take (i + 1)).map V.str)) := by
        refine ⟨_, hl2, small1000 ?_, same_upd sm hD, ?_⟩
        · rw [List.length_map, List.length_take]
          omega
        · rw [upd_same, take_sn hzi, List.map_append]
          rfl
      rcases hz i v _ hv hzi with rfl | ⟨j, rfl, lg, ez⟩
      · exact ⟨_, rfl, .inl ⟨_, rfl, fin⟩⟩
      · rw [ez] at fin
        exact ⟨_, rfl, .inr ⟨j, rfl, lg, fin⟩⟩
    · rintro H1 ⟨sm, hl2⟩
      rw [hl, List.take_length] at hl2
      refine ⟨_, D, zs, rfl, rfl, .inl (SqL.of hl2), ?_, q H1 sm⟩
      have e1 : ((" " : String) : Str).length = 1 := by decide +kernel
      rw [e1]
      omega
end
theorem room_all {ys : List Str} {m : Nat} (h : ∀ y ∈ ys, y.length ≤ m) : roomS ys ≤ ys.length * (m + 1) := by
  have s := sum_le (l := ys.map (·.length)) (m := m) fun x hx => by
    obtain ⟨z, hz, rfl⟩ := List.mem_map.mp hx
    exact h z hz
  rw [List.length_map] at s
  unfold roomS
  rw [Nat.mul_add, Nat.mul_one]
  omega
theorem spL1 : TX 1 ("\n" : Str) := tx_lit (by decide +kernel) (by decide +kernel)
/-- lines joined -/
theorem tx_lines {ys : List Str} {n : Nat} (h : ∀ y ∈ ys, TX 70 y) (l : ys.length * 71 ≤ n) : TX n (Txt.join "\n" ys) ∧ (ys.map (·.length)).sum + ys.length * ("\n" : Str).length ≤ n := by
  have r := room_all (ys := ys) (m := 70) fun y hy => (h y hy).2
  have e1 : (("\n" : String) : Str).length = 1 := by decide +kernel
  refine ⟨tx_join spL1 (fun t ht => (h t ht).1) (show roomS ys ≤ n by omega), ?_⟩
  rw [e1, Nat.mul_one]
  have r2 : (ys.map (·.length)).sum + ys.length ≤ ys.length * 71 := r
  omega
/-- things that the law hands in -/
def Tg (H : Hp) (v : V) (d : PyData) : Prop := Da (fun _ => False) H v d ∧ (∀ t, d = .str t → TX 100000 t) ∧ Shw d
theorem Tg.same {H H' : Hp} {v : V} {d : PyData} (h : Tg H v d) (s : Same H H') : Tg H' v d := ⟨Da.keep (Keeps.of s) _ _ h.1, h.2⟩
theorem tg_str {H : Hp} {t : Str} {n : Nat} (h : TX n t) (l : n ≤ 100000) : Tg H (.str t) (.str t) := by
  refine ⟨.str t, (fun u e => by cases e; exact h.le l), ⟨(fun z => by cases z), rfl, Nat.zero_le _, ?_⟩⟩
  have r := repr9 h.1
  have sz := sizeLine_eq
  have := h.2
  show (reprText t).length ≤ sizeLine
  omega
theorem sm_line {z : Str} (h : TX 70 z) : Sm (.str z) := Sm.str (by
  have r := repr9 h.1
  have := h.2
  omega)
theorem shw_rows : ∀ {rs : List PR}, (∀ r ∈ rs, r.Ok) → PyData.showableAll (rs.map encD) = true ∧ PyData.depthAll (rs.map encD) ≤ 1 ∧ piled (PyData.shownAll (rs.map encD)) ≤ 5010 * rs.length ∧ PyData.hasDictAll (rs.map encD) = false
  | [], _ => ⟨rfl, by decide, Nat.le_refl _, rfl⟩
  | r :: rs, h => by
    obtain ⟨h1, h2, h3, h4⟩ := shw_rows (rs := rs) fun x hx => h x (List.mem_cons_of_mem _ hx)
    have ok := h r List.mem_cons_self
    obtain ⟨g1, g2, g3⟩ := all_shw (sm_R ok)
    have t := tupleText_le (PyData.shownAll r.ds)
    have e7 : r.ds.length = 7 := rfl
    refine ⟨?_, ?_, ?_, ?_⟩
    · show (PyData.showableAll r.ds && PyData.showableAll (rs.map encD)) = true
      rw [g1, h1]
      rfl
    · show max (encD r).depth (PyData.depthAll (rs.map encD)) ≤ 1
      rw [depth_enc]
      omega
    · show piled (tupleText (PyData.shownAll r.ds) :: PyData.shownAll (rs.map encD)) ≤ 5010 * (r :: rs).length
      rw [piled_cons, List.length_cons]
      omega
    · show (PyData.hasDictAll r.ds || PyData.hasDictAll (rs.map encD)) = false
      rw [h4]
      rfl
theorem shw_due {d : PyData} (h : ∀ t, d = .str t → TX 100000 t) : Shw (dueD d) := by
  have small : ∀ i : Int, i.natAbs ≤ 200000 → Shw (.tuple [.str "no", .int i]) := fun i hi => by
    refine shw_tup (fun x hx => ?_) (show 2 ≤ 8 by decide) (fun _ => rfl)
    simp only [List.mem_cons, List.not_mem_nil, or_false] at hx
    rcases hx with rfl | rfl
    · exact Sm.str (by decide +kernel)
    · refine Sm.int ?_
      have e : (10 : Nat) ^ 40 = 10000000000000000000000000000000000000000 := by decide +kernel
      omega
  cases d with
  | str t =>
    have tx := h t rfl
    show Shw (encR (sheetR t))
    cases e : sheetR t with
    | inl n =>
      have hn : n ≤ 200000 := by
        unfold sheetR at e
        split at e
        · cases e
        · have z := readR_le _ _ _ _ e
          have q := (tx.split nl1 (by decide)).2
          omega
      exact small (n : Int) (by omega)
    | inr rs =>
      obtain ⟨ok, l60⟩ := sheetR_ok e
      obtain ⟨h1, h2, h3, h4⟩ := shw_rows ok
      have lt := listText_le (PyData.shownAll (rs.map encD))
      have sz := sizeLine_eq
      have c0 : (reprText "told").length ≤ 100 := by decide +kernel
      have l5 : 5010 * rs.length ≤ 5010 * 60 := Nat.mul_le_mul_left _ l60
      refine ⟨fun z => ?_, ?_, ?_, ?_⟩
      · have z2 : (false || (PyData.hasDictAll (rs.map encD) || false)) = true := z
        rw [h4] at z2
        cases z2
      · show (true && (PyData.showableAll (rs.map encD) && true)) = true
        rw [h1]
        rfl
      · show max 0 (max (PyData.depthAll (rs.map encD) + 1) 0) + 1 ≤ 60
        omega
      · have t2 := tupleText_le [reprText "told", listText (PyData.shownAll (rs.map encD))]
        have e2 : piled [reprText "told", listText (PyData.shownAll (rs.map encD))] = ((reprText "told").length + 2) + (((listText (PyData.shownAll (rs.map encD))).length + 2) + 0) := rfl
        show (tupleText [reprText "told", listText (PyData.shownAll (rs.map encD))]).length ≤ sizeLine
        omega
  | _ => exact small (-1) (by decide)
structure OwnS (K : PySem.W.Frag) (mg : Str → Option Value) (C S DE SE CC : Addr) : Prop where
  r : ClsS K mg S
  ini : ∃ a d, FunD K "__init__" "Sheet.__init__" (defArgs sSIni) (defBody sSIni) (defScope sSIni) [.non] [] a d ∧ Mk K S a
  ared : ∃ a d, Fn K "are_deeds" "are_deeds" sAreD a d ∧ mg "are_deeds" = some (.ref a)
  all : ∃ a d, Fn K "all_deeds" "Sheet.all_deeds" sSAll a d ∧ Meth K S "all_deeds" a
  en : ErrT K mg "NoSheet" SE
  te : PySem.W.exmOne K (.ref DE) (.ref DE) = some true
  nt : ∃ TE fI, Nt K mg TE fI ∧ NtI K mg CC TE DE SE
structure All (K : PySem.W.Frag) (mg : Str → Option Value) : Prop where
  hq : Hq K mg
  lw : Lw K mg
  wri : ∃ a d, Fn K "writes_number" "writes_number" sWrites a d ∧ mg "writes_number" = some (.ref a)
  dof : ∃ a d, Fn K "deed_of" "deed_of" sDeedOf a d ∧ mg "deed_of" = some (.ref a)
  rd : ∃ a d, Fn K "read_sheet" "read_sheet" sRead a d ∧ mg "read_sheet" = some (.ref a)
  cell : ∃ a d, Fn K "_law_cell" "_law_cell" sCell a d ∧ mg "_law_cell" = some (.ref a)
  pen : ∃ a d, Fn K "_law_pen" "_law_pen" sPen a d ∧ mg "_law_pen" = some (.ref a)
  feat : ∃ a d, Fn K "_law_feat" "_law_feat" sFeat a d ∧ mg "_law_feat" = some (.ref a)
  feats : ∃ a d, Fn K "_law_feats" "_law_feats" sFeats a d ∧ mg "_law_feats" = some (.ref a)
  num : ∃ a d, Fn K "_law_number" "_law_number" sNum a d ∧ mg "_law_number" = some (.ref a)
  nam : ∃ a d, Fn K "_law_is_name" "_law_is_name" sLName a d ∧ mg "_law_is_name" = some (.ref a)
  isf : ∃ a d, Fn K "_law_is_feat" "_law_is_feat" sIsFeat a d ∧ mg "_law_is_feat" = some (.ref a)
  shown : ∃ a d, Fn K "_law_shown" "_law_shown" sShown a d ∧ mg "_law_shown" = some (.ref a)
  values : ∃ a d, Fn K "_law_values" "_law_values" sValues a d ∧ mg "_law_values" = some (.ref a)
  figs : ∃ a d, Fn K "_law_figures" "_law_figures" sFigs a d ∧ mg "_law_figures" = some (.ref a)
  rowin : ∃ a d, Fn K "_law_row_in" "_law_row_in" sRowIn a d ∧ mg "_law_row_in" = some (.ref a)
  due : ∃ a d, Fn K "_law_due" "_law_due" sDue a d ∧ mg "_law_due" = some (.ref a)
  lread : ∃ a d, Fn K "_law_read" "_law_read" sLRead a d ∧ mg "_law_read" = some (.ref a)
  bent : ∃ a d, Fn K "_law_bent" "_law_bent" sBent a d ∧ mg "_law_bent" = some (.ref a)
abbrev rJn (K : PySem.W.Frag) : V → List V → Hp → VK → Prop := fun x xs H Q => ∃ a p, ∃ ys : List Str, x = .str a ∧ xs = [.ref p] ∧ (SqL K H p (ys.map V.str) ∨ SqT K H p (ys.map V.str)) ∧ (ys.map (·.length)).sum + ys.length * a.length ≤ 16777216 ∧ Q (.str (Txt.join a ys)) H
abbrev nLaw : List Str := ["_law_script", "_law_cell_here", "_law_pen_here", "_law_lines", "_law_text", "_law_texts", "_law_turn", "_law_bent_here", "_law_thing", "_law_kept", "_law_row", "_law_many"]
theorem scLaw : FnScope nLaw ["_law_script"] (defScope sLaw) := ⟨rfl, rfl, rfl, by decide +kernel, rfl, by decide +kernel, by decide +kernel⟩
/-- the lines, the text, the texts -/
structure Ln (p L : Addr) (zs : List Str) (H : Hp) : Prop where
  pn : Pen H p
  hL : H L = some (.lst (zs.map V.str))
  nL : L ≠ p
  zl : ∀ z ∈ zs, TX 70 z
  z0 : 0 < zs.length
  z7 : zs.length ≤ 7
theorem Ln.kp {p L : Addr} {zs : List Str} {H H' : Hp} (n : Ln p L zs H) (k : Kp p H H') : Ln p L zs H' := ⟨k.pen, k.keep _ _ n.hL n.nL, n.nL, n.zl, n.z0, n.z7⟩
theorem Ln.same {p L : Addr} {zs : List Str} {H H' : Hp} (n : Ln p L zs H) (s : Same H H') : Ln p L zs H' := n.kp ((Kp.refl n.pn).same s)
def Tl (p T : Addr) (m : Nat) (H : Hp) : Prop := T ≠ p ∧ ∃ ts : List Str, H T = some (.lst (ts.map V.str)) ∧ (∀ t ∈ ts, TX 20000 t) ∧ ts.length ≤ m
theorem Tl.kp {p T : Addr} {m : Nat} {H H' : Hp} (n : Tl p T m H) (k : Kp p H H') : Tl p T m H' := by
  obtain ⟨n1, ts, h1, h2, h3⟩ := n
  exact ⟨n1, ts, k.keep _ _ h1 n1, h2, h3⟩
abbrev σA (a p : Addr) (z : Int) (r : List (Option V)) : L2.St := some (.ref a) :: some (.int z) :: some (.ref p) :: r
abbrev σB (a p L : Addr) (z : Int) (r : List (Option V)) : L2.St := some (.ref a) :: some (.int z) :: some (.ref p) :: some (.ref L) :: r
abbrev σC (a p L : Addr) (z : Int) (t : Str) (r : List (Option V)) : L2.St := some (.ref a) :: some (.int z) :: some (.ref p) :: some (.ref L) :: some (.str t) :: r
abbrev σD (a p L T : Addr) (z : Int) (t : Str) (r : List (Option V)) : L2.St := some (.ref a) :: some (.int z) :: some (.ref p) :: some (.ref L) :: some (.str t) :: some (.ref T) :: r
def tIter : TS := fun D σ H => ∃ (a : Addr) (z : Int) (v2 v3 v4 v5 v6 v7 v8 v9 v10 v11 : Option V), σ = [some (.ref a), some (.int z), v2, v3, v4, v5, v6, v7, v8, v9, v10, v11] ∧
  ∀ v2 v3 v4 v5 v6 v7 v8 v9 v10 v11 H', Same H H' → D.nx [some (.ref a), some (.int z), v2, v3, v4, v5, v6, v7, v8, v9, v10, v11] H'
def t1 : TS := fun D σ H => ∃ (a : Addr) (z : Int) (v2 : Option V) (r : List (Option V)), σ = some (.ref a) :: some (.int z) :: v2 :: r ∧ ∀ p H', H p = none → Same H H' → Pen H' p → D.nx (σA a p z r) H'
def t2 : TS := fun D σ H => ∃ (a p : Addr) (z : Int) (v3 v4 v5 v6 v7 v8 v9 v10 v11 : Option V), σ = σA a p z [v3, v4, v5, v6, v7, v8, v9, v10, v11] ∧ Pen H p ∧
  ∀ L zs H', Kp p H H' → Ln p L zs H' → D.nx (σB a p L z [v4, v5, v6, v7, v8, v9, v10, v11]) H'
def t3 : TS := fun D σ H => ∃ (a p L : Addr) (z : Int) (zs : List Str) (v4 : Option V) (r : List (Option V)), σ = σB a p L z (v4 :: r) ∧ Ln p L zs H ∧ ∀ t, TX 500 t → D.nx (σC a p L z t r) H
def t4 : TS := fun D σ H => ∃ (a p L : Addr) (z : Int) (zs : List Str) (t : Str) (v5 : Option V) (r : List (Option V)), σ = σC a p L z t (v5 :: r) ∧ Ln p L zs H ∧ TX 500 t ∧ ∀ T H', Same H H' → Tl p T 8 H' → D.nx (σD a p L T z t r) H'
def t5 : TS := fun D σ H => ∃ (a p L T : Addr) (z : Int) (zs : List Str) (t : Str) (v6 v7 v8 v9 v10 v11 : Option V), σ = σD a p L T z t [v6, v7, v8, v9, v10, v11] ∧ Ln p L zs H ∧ Tl p T 8 H ∧ ∀ T H', H T = none → Same H H' → L ≠ T → Tl p T 11 H' → D.nx (σD a p L T z t [v6, v7, v8, v9, v10, v11]) H'
def t6 : TS := fun D σ H => ∃ (a p L T : Addr) (z : Int) (zs : List Str) (t : Str) (r : List (Option V)), σ = σD a p L T z t r ∧ Ln p L zs H ∧ L ≠ T ∧ Tl p T 11 H ∧ ∀ H', (∀ b o, H b = some o → b ≠ T → H' b = some o) → Tl p T 12 H' → D.nx (σD a p L T z t r) H'
def t7 : TS := fun D σ H => ∃ (a p L T : Addr) (z : Int) (t : Str) (v6 v7 : Option V) (r : List (Option V)), σ = σD a p L T z t (v6 :: v7 :: r) ∧ Pen H p ∧ TX 500 t ∧ Tl p T 12 H ∧ ∀ T v6 v7 H', Kp p H H' → Tl p T 32 H' → D.nx (σD a p L T z t (v6 :: v7 :: r)) H'
def t7b : TS := fun D σ H => ∃ (a p L T : Addr) (z : Int) (t : Str) (m : Nat) (v6 v7 : Option V) (r : List (Option V)), σ = σD a p L T z t (v6 :: v7 :: r) ∧ Pen H p ∧ TX 500 t ∧ m ≤ 30 ∧ Tl p T m H ∧ ∀ T v7 H', Kp p H H' → Tl p T (m + 2) H' → D.nx (σD a p L T z t (v6 :: v7 :: r)) H'
def t8 : TS := fun D σ H => ∃ (a p L T : Addr) (z : Int) (zs : List Str) (t : Str) (v6 v7 v8 v9 : Option V) (r : List (Option V)), σ = σD a p L T z t (v6 :: v7 :: v8 :: v9 :: r) ∧ Ln p L zs H ∧ Tl p T 32 H ∧ ∀ v8 v9 H', Kp p H H' → D.nx (σD a p L T z t (v6 :: v7 :: v8 :: v9 :: r)) H'
def t8b : TS := fun D σ H => ∃ (a p L T : Addr) (z : Int) (t : Str) (v : V) (d : PyData) (v6 v7 v9 : Option V) (r : List (Option V)), σ = σD a p L T z t (v6 :: v7 :: some v :: v9 :: r) ∧ Tg H v d ∧ ∀ v9 H', Same H H' → D.nx (σD a p L T z t (v6 :: v7 :: some v :: v9 :: r)) H'
def spLaw (K : PySem.W.Frag) : Sp := fun vs H Q _ => ∃ (a : Addr) (ns : List Int), vs = [.ref a] ∧ SqL K H a (ns.map V.int) ∧ ns.length ≤ 63 ∧ ∀ H', Q (.bl true) H'
section
variable {P : Program} {w : World} {K : PySem.W.Frag} {mg : Str → Option Value} {base : Heap} {f : Addr} {fd : FuncData}
theorem sini_binds2 (F : FunD K "__init__" "Sheet.__init__" (defArgs sSIni) (defBody sSIni) (defScope sSIni) [.non] [] f fd) : Binds K fd nSIni [] := by
  obtain ⟨ds, rd, b⟩ := F.binds1 (ps := nSIni) 2 1 (by intro e; cases e) rfl (fun T kV doc pm an cdv ct us its h1 h2 => by
    match us, its, h1, h2 with
    | [_, _], [_], _, _ => exact ⟨_, rfl, rfl⟩)
  cases rd
  exact b
theorem sini_binds1 (F : FunD K "__init__" "Sheet.__init__" (defArgs sSIni) (defBody sSIni) (defScope sSIni) [.non] [] f fd) : ∃ ds, Vals [.non] ds ∧ Binds K fd nSIni ds := by
  exact F.binds1 (ps := nSIni) 1 0 (by intro e; cases e) rfl (fun T kV doc pm an cdv ct us its h1 h2 => by
    match us, its, h1, h2 with
    | [_], [_], _, _ => exact ⟨_, rfl, rfl⟩)
theorem ok_law {C DE S SE CC : Addr} (F : Fn K "law" "law" sLaw f fd) (h : All K mg) (o : Own K mg C DE) (oS : OwnS K mg C S DE SE CC) : FnG P w K mg base L2.CX0 9 f fd ["_law_script"] (spLaw K) := by
  have T := h.hq.fr
  have cs := h.hq.cs
  have R := o.r
  have RS := oS.r
  obtain ⟨aCe, dCe, FCe, gCe⟩ := h.cell
  obtain ⟨aPe, dPe, FPe, gPe⟩ := h.pen
  obtain ⟨aFe, dFe, FFe, gFe⟩ := h.feat
  obtain ⟨aFs, dFs, FFs, gFs⟩ := h.feats
  obtain ⟨aSw, dSw, FSw, gSw⟩ := h.shown
  obtain ⟨aVa, dVa, FVa, gVa⟩ := h.values
  obtain ⟨aNu, dNu, FNu, gNu⟩ := h.num
  obtain ⟨aNa, dNa, FNa, gNa⟩ := h.nam
  obtain ⟨aIs, dIs, FIs, gIs⟩ := h.isf
  obtain ⟨aFg, dFg, FFg, gFg⟩ := h.figs
  obtain ⟨aRi, dRi, FRi, gRi⟩ := h.rowin
  obtain ⟨aDu, dDu, FDu, gDu⟩ := h.due
  obtain ⟨aLr, dLr, FLr, gLr⟩ := h.lread
  obtain ⟨aBe, dBe, FBe, gBe⟩ := h.bent
  obtain ⟨aW, dW, FW, gW⟩ := h.wri
  obtain ⟨aDo, dDo, FDo, gDo⟩ := h.dof
  obtain ⟨aRd, dRd, FRd, gRd⟩ := h.rd
  obtain ⟨aAn, dAn, FAn, gAn⟩ := h.lw.mk1.any
  obtain ⟨aI, dI, FI, MK⟩ := oS.ini
  obtain ⟨aAD, dAD, FAD, gAD⟩ := oS.ared
  obtain ⟨aA, dA, FA, mA⟩ := oS.all
  obtain ⟨TE, fN, nt, ni⟩ := oS.nt
  have GCe : FnOk P w K mg base L2.CX0 1 aCe dCe ["_law_script", "_law_k"] (spCell K) := ok_cell FCe T
  have GPe : FnOk P w K mg base L2.CX0 1 aPe dPe ["_law_cell_here"] spPen := ok_pen FPe T
  have GFe : FnOk P w K mg base L2.CX0 4 aFe dFe ["_law_pen_here"] spWho := ok_who FFe h.lw
  have GFs : FnOk P w K mg base L2.CX0 5 aFs dFs ["_law_pen_here", "_law_most"] spFeats := ok_feats FFs h.lw FFe gFe
  have GSw : FnOk P w K mg base L2.CX0 1 aSw dSw ["_law_row"] spShown := ok_shown FSw T
  have GVa : FnOk P w K mg base L2.CX0 1 aVa dVa ["_law_one"] (spValues C) := ok_values FVa R
  have GIs : FnOk P w K mg base L2.CX0 2 aIs dIs ["_law_row"] spIsRow := ok_isrow FIs T FNa gNa FNu gNu
  have GFg : FnOk P w K mg base L2.CX0 1 aFg dFg ["_law_word"] spFigs := ok_figs FFg T
  have GAn : FnOk P w K mg base L2.CX0 3 aAn dAn ["_law_pen_here"] spThingD := ok_any FAn h.lw.mk1.hl
  have GBe : FnOk P w K mg base L2.CX0 3 aBe dBe ["_law_pen_here", "_law_text"] spBent := ok_bent FBe h.lw.mk1.hl
  have GI : FnOk P w K mg base (L2.CX P w) 2 aI dI nSIni (spSIni C S) := ok_sini FI T cs R RS oS.en FAD gAD
  have GI0 : FnOk P w K mg base (L2.CX P w) 2 aI dI nSIni (spSIni0 C S) := ok_sini0 FI T cs R RS oS.en FAD gAD
  have GA : FnOk P w K mg base L2.CX0 1 aA dA ["self"] (spSAll C S) := ok_sall FA T RS
  have bCe : Binds K dCe ["_law_script", "_law_k"] [] := FCe.bindsN fun _ _ _ _ _ _ us hl => match us, hl with | [_, _], _ => rfl
  have bPe : Binds K dPe ["_law_cell_here"] [] := FPe.bindsN fun _ _ _ _ _ _ us hl => match us, hl with | [_], _ => rfl
  have bFe : Binds K dFe ["_law_pen_here"] [] := FFe.bindsN fun _ _ _ _ _ _ us hl => match us, hl with | [_], _ => rfl
  have bFs : Binds K dFs ["_law_pen_here", "_law_most"] [] := FFs.bindsN fun _ _ _ _ _ _ us hl => match us, hl with | [_, _], _ => rfl
  have bSw : Binds K dSw ["_law_row"] [] := FSw.bindsN fun _ _ _ _ _ _ us hl => match us, hl with | [_], _ => rfl
  have bVa : Binds K dVa ["_law_one"] [] := FVa.bindsN fun _ _ _ _ _ _ us hl => match us, hl with | [_], _ => rfl
  have bIs : Binds K dIs ["_law_row"] [] := FIs.bindsN fun _ _ _ _ _ _ us hl => match us, hl with | [_], _ => rfl
  have bFg : Binds K dFg ["_law_word"] [] := FFg.bindsN fun _ _ _ _ _ _ us hl => match us, hl with | [_], _ => rfl
  have bRi : Binds K dRi ["_law_line"] [] := FRi.bindsN fun _ _ _ _ _ _ us hl => match us, hl with | [_], _ => rfl
  have bDu : Binds K dDu ["_law_text"] [] := FDu.bindsN fun _ _ _ _ _ _ us hl => match us, hl with | [_], _ => rfl
  have bLr : Binds K dLr ["_law_text"] [] := FLr.bindsN fun _ _ _ _ _ _ us hl => match us, hl with | [_], _ => rfl
  have bBe : Binds K dBe ["_law_pen_here", "_law_text"] [] := FBe.bindsN fun _ _ _ _ _ _ us hl => match us, hl with | [_, _], _ => rfl
  have bDo : Binds K dDo ["line"] [] := FDo.bindsN fun _ _ _ _ _ _ us hl => match us, hl with | [_], _ => rfl
  have bRd : Binds K dRd ["text"] [] := FRd.bindsN fun _ _ _ _ _ _ us hl => match us, hl with | [_], _ => rfl
  have bAn : Binds K dAn ["_law_pen_here"] [] := FAn.bindsN fun _ _ _ _ _ _ us hl => match us, hl with | [_], _ => rfl
  have bA : Binds K dA ["self"] [] := FA.bindsN fun _ _ _ _ _ _ us hl => match us, hl with | [_], _ => rfl
  have bI : Binds K dI nSIni [] := sini_binds2 FI
  obtain ⟨di, rI, bI0⟩ := sini_binds1 FI
  have GDo : FnOk P w K mg base L2.CX0 6 aDo dDo ["line"] (spDeedOf C) := ok_deedof FDo h.hq o oS.te FW gW
  have GRd : FnOk P w K mg base (L2.CX P w) 7 aRd dRd ["text"] (spRead C S TE) := ok_read FRd T cs RS nt GDo gDo FDo.kp bDo MK GI bI GI0 rI bI0
  have GRi : FnOk P w K mg base L2.CX0 3 aRi dRi ["_law_line"] spRowIn := ok_rowin FRi T GFg gFg FFg.kp bFg GIs gIs FIs.kp bIs
  have GDu : FnOk P w K mg base L2.CX0 4 aDu dDu ["_law_text"] spDue := ok_due FDu T GRi gRi FRi.kp bRi
  have GLr : FnOk P w K mg base L2.CX0 8 aLr dLr ["_law_text"] spDue := ok_lread FLr T RS nt ni GRd gRd FRd.kp bRd GA mA bA GVa gVa FVa.kp bVa
  refine fnG F scLaw (fun vs H Q E h => ?_) (fun cdv A outer s H vs Q E gd hr hcd hh => ?_)
  · obtain ⟨a, ns, rfl, _⟩ := h
    rfl
  · obtain ⟨a, ns, rfl, ha, hn, back⟩ := hh
    let X := (cxOf L2.CX0 P w K mg base nLaw "law" (defScope sLaw) f cdv A outer s H E).nox
    have gdX : X.A.guards = some [] := gd
    have hr1 : Room 1 X.A := hr.mono (by decide)
    have hr3 : Room 3 X.A := hr.mono (by decide)
    have hr4 : Room 4 X.A := hr.mono (by decide)
    have hr5 : Room 5 X.A := hr.mono (by decide)
    have hr8 : Room 8 X.A := hr
    have hu : X.A.units + 64 < cLine := hr1.units
    have rep := call_reprA (X := X) gdX hu
    refine' ⟨_, PSs.nox ?d, ?r⟩
    case d =>
      refine' pss_cons (ps_for PassesOwn.never rfl (pi_list (pe_op op_cat (pe_lst (pa_cons (pe_call GCe hr1 rfl gCe FCe.kp bCe .nil pass0 (pa_cons (pv 0) (pa_cons pe_int pa_nil))) pa_nil)) (pe_slice sl_list (pv 0) (po_some pe_int) (po_some pe_int)))) (pg_name (i := 1) scLaw.nd rfl (Or.inl rfl)) ?l1) (pss_one (ps_ret pe_bl))
      case l1 =>
       refine' pss_chunk3 (t' := tIter) ?l ?w0
       case l =>
        refine' pss_cons (psBy (t' := t1) (ps_set (i := 2) scLaw.nd rfl (.inl rfl) (pe_call GPe hr1 rfl gPe FPe.kp bPe .nil pass0 (pa_cons (pv 1) pa_nil))) ?w1) ?s1
        case s1 =>
         refine' pss_cons (psBy (t' := t2) (ps_set (i := 3) scLaw.nd rfl (.inr rfl) (pe_op op_cat (pe_lc (own := [("_law_row", 10)]) (g := gName 10) (tt := tYes) rfl scLaw.nd (pi_list (pe_call GFs hr5 rfl gFs FFs.kp bFs .nil pass0 (pa_cons (pv 2) (pa_cons pe_int pa_nil)))) (blkOk_by (N := nLaw) (sc := defScope sLaw) (by decide +kernel)) (fun _ _ _ _ _ => pg_name (i := 10) scLaw.nd rfl (Or.inl rfl)) (fun _ _ _ _ _ => pts_nil)
             (fun _ _ _ _ _ => pe_call GSw hr1 rfl gSw FSw.kp bSw .nil pass0 (pa_cons (pv 10) pa_nil))) (pe_lst (pa_cons (pe_call GSw hr1 rfl gSw FSw.kp bSw .nil pass0 (pa_cons (pe_call GFe hr4 rfl gFe FFe.kp bFe .nil pass0 (pa_cons (pv 2) pa_nil)) pa_nil)) pa_nil)))) ?w2) ?s2
         case s2 =>
          refine' pss_cons (psBy (t' := t3) (ps_set (i := 4) scLaw.nd rfl (.inl rfl) (pe_join pe_str (pv 3))) ?w3) ?s3
          case s3 =>
           refine' pss_cons (psBy (t' := t4) (ps_set (i := 5) scLaw.nd rfl (.inl rfl) (pe_lst (pa_cons (pv 4) (pa_cons (pe_join pe_str (pe_revL (pv 3))) (pa_cons (pe_op op_add_str (pv 4) pe_str) (pa_cons (pe_op op_add_str pe_str (pv 4)) (pa_cons (pe_op op_add_str (pv 4) pe_str) (pa_cons pe_str (pa_cons pe_str (pa_cons (pe_op op_add_str pe_str (pv 4)) pa_nil)))))))))) ?w4) ?s4
           case s4 =>
            refine' pss_cons (psBy (t' := t5) (ps_set (i := 5) scLaw.nd rfl (.inl rfl) (pe_op op_cat (pv 5) (pe_lc (own := [("_law_many", 11)]) (g := gName 11) (tt := tYes) (te := tM1 (rJn K) (tC (.str "
")) (tOp rRep (tSl (rSlL K) (tVar 3) tNoPart (tPart (tC (.int 1)))) (tVar 11))) rfl scLaw.nd (pi_tup (pe_tup (pa_cons pe_int (pa_cons pe_int (pa_cons pe_int pa_nil))))) (blkOk_by (N := nLaw) (sc := defScope sLaw) (by decide +kernel)) (fun _ _ _ _ _ => pg_name (i := 11) scLaw.nd rfl (Or.inl rfl)) (fun _ _ _ _ _ => pts_nil)
                (fun _ _ _ _ _ => pe_join pe_str (pe_op op_rep (pe_slice sl_list (pv 3) po_none (po_some pe_int)) (pv 11)))))) ?w5) ?s5
            case s5 =>
             refine' pss_cons (psBy (t' := t6) (ps_expr (pe_bm PySem.F.plainAttrs_list PySem.F.slot_list_append PySem.F.type_list_append mt_append (pv 5) (pa_cons (pe_join pe_str (pe_op op_cat (pe_op op_rep (pe_slice sl_list (pv 3) po_none (po_some pe_int)) pe_int) (pe_lst (pa_cons pe_str pa_nil)))) pa_nil))) ?w6) ?s6
             case s6 =>
              refine' pss_cons (psBy (t' := t7) (ps_for PassesOwn.never rfl (pi_range1 rfl T.rng_ (pa_cons pe_int pa_nil)) (pg_name (i := 6) scLaw.nd rfl (Or.inl rfl)) ?l2) ?w7) ?s7
              case l2 =>
               refine' pss_chunk3 (t' := t7b) (pss_cons (ps_set (i := 7) scLaw.nd rfl (.inl rfl) (pe_call GBe hr3 rfl gBe FBe.kp bBe .nil pass0 (pa_cons (pv 2) (pa_cons (pv 4) pa_nil))))
                 (pss_one (ps_set (i := 5) scLaw.nd rfl (.inl rfl) (pe_op op_cat (pv 5) (pe_lst (pa_cons (pv 7) (pa_cons (pe_call GBe hr3 rfl gBe FBe.kp bBe .nil pass0 (pa_cons (pv 2) (pa_cons (pv 7) pa_nil))) pa_nil))))))) ?w7b
               case w7b =>
                rintro D σ H ⟨a, p, L, T, z, t, m, v6, v7, r, rfl, pn, tx, m30, tl, nx⟩
                refine ⟨_, rfl, _, rfl, p, t, 500, rfl, pn, tx, by decide, fun t1 H1 tx1 k1 => ?_⟩
                have tl1 := tl.kp k1
                obtain ⟨nT, ts, hT, htx, lT⟩ := id tl1
                refine ⟨_, rfl, _, rfl, _, rfl, _, rfl, p, t1, 1520, rfl, k1.pen, tx1, by decide, fun t2 H2 tx2 k2 => ⟨(by show 2 ≤ sizeLine; decide), fun B hB => ?_⟩⟩
                have u1 := up2 (o := .lst [V.str t1, V.str t2]) hB
                have hT2 := u1 _ _ (k2.keep _ _ hT nT)
                refine ⟨T, B, _, _, rfl, rfl, hT2, upd_same, Nat.le_of_lt (small1000 (by rw [List.length_map]; show _ + 2 ≤ 1000; omega)), fun T2 hT2' => ?_⟩
                have u2 := up2 (o := .lst (ts.map V.str ++ [V.str t1, V.str t2])) hT2'
                have k3 := (k1.trans k2).same (u1.trans u2)
                refine nx T2 _ _ k3 ⟨by
                  rintro rfl
                  exact pen_old ((k1.trans k2).same u1).pen hT2', ts ++ [t1, t2], by rw [upd_same, List.map_append]; rfl, fun s hs => ?_, by rw [List.length_append]; show _ + 2 ≤ m + 2; omega⟩
                rcases List.mem_append.mp hs with q | q
                · exact htx s q
                · simp only [List.mem_cons, List.not_mem_nil, or_false] at q
                  rcases q with rfl | rfl
                  · exact tx1.le (by decide)
                  · exact tx2.le (by decide)
              case s7 =>
               refine' pss_one (psBy (t' := t8) (ps_for PassesOwn.never rfl (pi_list (pe_op op_cat (pv 5) (pe_lst (pa_cons pe_non (pa_cons pe_int (pa_cons (pv 3) (pa_cons pe_dnewK (pa_cons (pe_call GAn hr3 rfl gAn FAn.kp bAn .nil pass0 (pa_cons (pv 2) pa_nil)) pa_nil)))))))) (pg_name (i := 8) scLaw.nd rfl (Or.inl rfl)) ?l3) ?w8)
               case l3 =>
                refine' pss_chunk3 (t' := t8b) (pss_cons (ps_set (i := 9) scLaw.nd rfl (.inl rfl) (pe_callB rep rfl T.rep_ boot_repr (pa_cons (pv 8) pa_nil)))
                  (pss_one (ps_if (PW.pt (pw_or (pt_cmpR op_ne (pe_callB rep rfl T.rep_ boot_repr (pa_cons (pe_call GLr hr8 rfl gLr FLr.kp bLr .nil pass0 (pa_cons (pv 8) pa_nil)) pa_nil)) (pe_callB rep rfl T.rep_ boot_repr (pa_cons (pe_call GDu hr4 rfl gDu FDu.kp bDu .nil pass0 (pa_cons (pv 8) pa_nil)) pa_nil)) (nomark _))
                    (pw_or1 (pt_cmpR op_ne (pe_callB rep rfl T.rep_ boot_repr (pa_cons (pv 8) pa_nil)) (pv 9) (nomark _))))) (pss_one (ps_ret pe_bl)) pss_nil))) ?w8b
                case w8b =>
                 rintro D σ H ⟨a, p, L, T, z, t, v, d, v6, v7, v9, r, rfl, tg, nx⟩
                 obtain ⟨da, htx, sw⟩ := tg
                 obtain ⟨n1, n2, n3, n4⟩ := shw_due htx
                 refine ⟨_, rfl, (fun _ => False), v, d, rfl, da, sw.nl, sw.sh, sw.dp, sw.ln, ?_⟩
                 refine ⟨_, rfl, v, d, rfl, da, htx, fun q1 H1 s1 da1 => ?_⟩
                 refine ⟨(fun _ => False), _, dueD d, rfl, da1, n1, n2, n3, n4, ?_⟩
                 refine ⟨_, rfl, v, d, rfl, Da.keep (Keeps.of s1) _ _ da, htx, fun q2 H2 s2 da2 => ?_⟩
                 refine ⟨(fun _ => False), _, dueD d, rfl, da2, n1, n2, n3, n4, ?_⟩
                 refine ⟨rfl, false, by rw [decide_eq_true rfl]; rfl, iteF ?_⟩
                 have s12 := s1.trans s2
                 refine ⟨_, rfl, (fun _ => False), v, d, rfl, Da.keep (Keeps.of s12) _ _ da, sw.nl, sw.sh, sw.dp, sw.ln, ?_⟩
                 exact ⟨_, rfl, rfl, false, by rw [decide_eq_true rfl]; rfl, iteF (nx _ H2 s12)⟩
               case w8 =>
                rintro D σ H ⟨a, p, L, T, z, zs, t, v6, v7, v8, v9, r, rfl, ln, tl, nx⟩
                obtain ⟨nT, ts, hT, htx, lT⟩ := id tl
                refine ⟨_, rfl, _, rfl, fun d1 h1 => ?_⟩
                have u1 := up2 (o := .dK []) h1
                refine ⟨_, rfl, p, rfl, pen_same ln.pn u1, fun va da H5 k5 hva sva sh ly => ⟨(by show 5 ≤ sizeLine; decide), fun B hB => ?_⟩⟩
                have np1 : d1 ≠ p := by
                  rintro rfl
                  exact pen_old ln.pn h1
                have k05 : Kp p H H5 := ((Kp.refl ln.pn).same u1).trans k5
                have ln5 := ln.kp k05
                have hT5 := k05.keep _ _ hT nT
                have hd5 := k5.keep _ _ upd_same np1
                have u2 := up2 (o := .lst [.non, .int 7, .ref L, .ref d1, va]) hB
                refine ⟨T, B, _, _, rfl, rfl, u2 _ _ hT5, upd_same, Nat.le_of_lt (small1000 (by rw [List.length_map]; show _ + 5 ≤ 1000; omega)), fun W hW => ?_⟩
                have u3 := up2 (o := .lst (ts.map V.str ++ [.non, .int 7, .ref L, .ref d1, va])) hW
                obtain ⟨xs, exs⟩ : ∃ xs : List V, xs = ts.map V.str ++ [.non, .int 7, .ref L, .ref d1, va] := ⟨_, rfl⟩
                rw [← exs] at u3 ⊢
                have s6 := u2.trans u3
                obtain ⟨H6, eH6⟩ : ∃ G, G = upd (upd H5 B (.lst [.non, .int 7, .ref L, .ref d1, va])) W (.lst xs) := ⟨_, rfl⟩
                have hW6 : H6 W = some (.lst xs) := by
                  rw [eH6]
                  exact upd_same
                rw [← eH6] at s6 ⊢
                have k06 := k05.same s6
                have all : ∀ y ∈ xs, ∃ d, Tg H6 y d := by
                  rw [exs]
                  intro y hy
                  rcases List.mem_append.mp hy with q | q
                  · obtain ⟨s, hs, rfl⟩ := List.mem_map.mp q
                    exact ⟨_, tg_str (htx s hs) (by decide)⟩
                  · simp only [List.mem_cons, List.not_mem_nil, or_false] at q
                    rcases q with rfl | rfl | rfl | rfl | rfl
                    · exact ⟨.none, .non, (fun t e => by cases e), sm_shw Sm.non⟩
                    · refine ⟨.int 7, .int 7, (fun t e => by cases e), sm_shw (Sm.int (by
                        have e : (10 : Nat) ^ 40 = 10000000000000000000000000000000000000000 := by decide +kernel
                        rw [e]
                        decide))⟩
                    · have dl : ∀ {zs : List Str}, DaAll (fun _ => False) H6 (zs.map V.str) (zs.map PyData.str) := fun {zs} => by
                        induction zs with
                        | nil => exact .nil
                        | cons z zs ih => exact .cons (.str _) ih
                      refine ⟨.list (zs.map PyData.str), .lst (s6 _ _ ln5.hL) (fun z => z) dl, (fun t e => by cases e), shw_lst (fun d hd => ?_) (by rw [List.length_map]; have := ln.z7; omega) ?_⟩
                      · obtain ⟨s, hs, rfl⟩ := List.mem_map.mp hd
                        exact sm_line (ln.zl s hs)
                      · have hd : ∀ zs : List Str, PyData.hasDictAll (zs.map PyData.str) = false := fun zs => by
                          induction zs with
                          | nil => rfl
                          | cons z zs ih =>
                            show (false || PyData.hasDictAll (zs.map PyData.str)) = false
                            rw [ih]
                            rfl
                        exact hd zs
                    · exact ⟨.dict [], .d0 (s6 _ _ hd5) (fun z => z), (fun t e => by cases e), sm_shw sm_d0⟩
                    · refine ⟨da, Da.keep (Keeps.of s6) _ _ (Da.zed (fun _ _ _ _ z => z) _ _ hva), fun t e => ?_, sm_shw sva⟩
                      subst e
                      obtain ⟨_, l2⟩ := Bool.and_eq_true_iff.mp ly
                      obtain ⟨s1, _⟩ := Bool.and_eq_true_iff.mp sh
                      exact tx_lit l2 (of_decide_eq_true s1)
                refine ⟨W, rfl, ⟨_, SqL.of hW6⟩, for_list (K := K) (a := W) (xs := xs) (fun i σ H' => ∃ w8 w9 : Option V, σ = σD a p L T z t (v6 :: v7 :: w8 :: w9 :: r) ∧ Same H6 H')
                  ⟨_, _, rfl, Same.refl _⟩ (fun i σ H' _ ⟨_, _, _, s⟩ => SqL.of (s _ _ hW6)) ?_ ?_⟩
                · rintro i y σ H7 hy ⟨w8, w9, rfl, s7⟩
                  obtain ⟨d, tg⟩ := all y (List.mem_of_getElem? hy)
                  refine ⟨a, p, L, T, z, t, y, d, _, _, _, _, rfl, tg.same s7, fun v9 H8 s8 => ?_⟩
                  exact ⟨_, _, rfl, s7.trans s8⟩
                · rintro σ H7 ⟨w8, w9, rfl, s7⟩
                  exact nx _ _ H7 (k06.same s7)
              case w7 =>
               rintro D σ H ⟨a, p, L, T, z, t, v6, v7, r, rfl, pn, tx, tl, nx⟩
               refine ⟨10, rfl, by decide, by decide, for_range (lo := 0) (n := 10) (fun i σ H' => ∃ (T' : Addr) (w6 w7 : Option V), σ = σD a p L T' z t (w6 :: w7 :: r) ∧ Kp p H H' ∧ Tl p T' (12 + 2 * i) H' ∧ i ≤ 10)
                 ⟨T, _, _, rfl, Kp.refl pn, tl, by decide⟩ ?_ ?_⟩
               · rintro i σ H1 hi ⟨T', w6, w7, rfl, k1, tl1, _⟩
                 refine ⟨a, p, L, T', z, t, 12 + 2 * i, _, _, _, rfl, k1.pen, tx, by omega, tl1, fun T2 v7' H2 k2 tl2 => ?_⟩
                 exact ⟨T2, _, _, rfl, k1.trans k2, tl2, by omega⟩
               · rintro σ H1 ⟨T', w6, w7, rfl, k1, tl1, _⟩
                 exact nx T' _ _ H1 k1 tl1
             case w6 =>
              rintro D σ H ⟨a, p, L, T, z, zs, t, r, rfl, ln, nLT, tl, nx⟩
              obtain ⟨nT, ts, hT, htx, lT⟩ := id tl
              refine ⟨_, rfl, .inl ⟨rfl, _, SqL.of hT⟩, ?_⟩
              refine ⟨⟨_, rfl⟩, _, rfl, _, rfl, L, _, rfl, SqL.of ln.hL, fun S hS => ?_⟩
              rw [show (some (1 : Int)) = some ((1 : Nat) : Int) from rfl, cut_to, ← List.map_take]
              have v1 := up2 (o := .lst ((zs.take 1).map V.str)) hS
              have lt1 : (zs.take 1).length ≤ 1 := by
                rw [List.length_take]
                omega
              refine ⟨S, 60, _, rfl, rfl, upd_same, by decide, by decide, ?_, fun R hR => ?_⟩
              · rw [List.length_map]
                have q : (zs.take 1).length * (60 : Int).toNat ≤ 1 * 60 := Nat.mul_le_mul lt1 (by decide)
                exact Nat.le_of_lt (small1000 (by omega))
              have er : (List.replicate (60 : Int).toNat ((zs.take 1).map V.str)).flatten = ((List.replicate 60 (zs.take 1)).flatten).map V.str := by
                rw [List.map_flatten, List.map_replicate]
                rfl
              rw [er]
              obtain ⟨ys, eys⟩ : ∃ ys, ys = (List.replicate 60 (zs.take 1)).flatten := ⟨_, rfl⟩
              rw [← eys]
              have v2 := up2 (o := .lst (ys.map V.str)) hR
              have ytx : ∀ y ∈ ys, TX 70 y := by
                intro y hy
                rw [eys] at hy
                obtain ⟨l, hl, hyl⟩ := List.mem_flatten.mp hy
                rw [List.eq_of_mem_replicate hl] at hyl
                exact ln.zl y (List.mem_of_mem_take hyl)
              have ly : ys.length ≤ 60 := by
                rw [eys, List.length_flatten, List.map_replicate, List.sum_replicate_nat]
                omega
              refine ⟨(by show 1 ≤ sizeLine; decide), fun X1 hX1 => ?_⟩
              have v3 := up2 (o := .lst [V.str "x"]) hX1
              refine ⟨R, X1, _, _, rfl, rfl, v3 _ _ upd_same, upd_same, Nat.le_of_lt (small1000 (by rw [List.length_map]; show _ + 1 ≤ 1000; omega)), fun R2 hR2 => ?_⟩
              have v4 := up2 (o := .lst (ys.map V.str ++ [V.str "x"])) hR2
              have xtx : ∀ y ∈ ys ++ [("x" : Str)], TX 70 y := by
                intro y hy
                rcases List.mem_append.mp hy with q | q
                · exact ytx y q
                · rw [List.mem_singleton.mp q]
                  exact tx_lit (by decide +kernel) (by decide +kernel)
              have lx : (ys ++ [("x" : Str)]).length ≤ 61 := by
                rw [List.length_append]
                show _ + 1 ≤ 61
                omega
              obtain ⟨h1, h2⟩ := tx_lines (n := 5000) xtx (by omega)
              refine ⟨_, R2, ys ++ [("x" : Str)], rfl, rfl, .inl (SqL.of (by rw [upd_same, List.map_append]; rfl)), by omega, ?_⟩
              have s4 := v1.trans (v2.trans (v3.trans v4))
              have hT4 := s4 _ _ hT
              refine ⟨T, _, _, rfl, rfl, hT4, small1000 (by rw [List.length_map]; omega), ?_⟩
              refine nx _ (fun b o e n => ?_) ⟨nT, ts ++ [Txt.join "\n" (ys ++ [("x" : Str)])], by rw [upd_same, List.map_append]; rfl, fun s hs => ?_, by rw [List.length_append]; show _ + 1 ≤ 12; omega⟩
              · rw [upd_ne n]
                exact s4 _ _ e
              · rcases List.mem_append.mp hs with q | q
                · exact htx s q
                · rw [List.mem_singleton.mp q]
                  exact h1.le (by decide)
            case w5 =>
             rintro D σ H ⟨a, p, L, T, z, zs, t, v6, v7, v8, v9, v10, v11, rfl, ln, tl, nx⟩
             obtain ⟨nT, ts, hT, htx, lT⟩ := id tl
             have l7 := ln.z7
             refine ⟨_, rfl, (by show 3 ≤ sizeLine; decide), fun M hM => ?_⟩
             have u1 := up2 (o := .tup [V.int 59, V.int 60, V.int 61]) hM
             obtain ⟨H1, eH1⟩ : ∃ G, G = upd H M (.tup [V.int 59, V.int 60, V.int 61]) := ⟨_, rfl⟩
             have hM1 : H1 M = some (.tup [.int 59, .int 60, .int 61]) := by
               rw [eH1]
               exact upd_same
             rw [← eH1] at u1 ⊢
             have ln1 := ln.same u1
             refine ⟨M, rfl, ⟨_, SqT.of hM1⟩, fun B hB => lc_tup (K := K) (a := M) (xs := [.int 59, .int 60, .int 61]) (fun i H' => Same H1 H' ∧ ∃ us : List Str, H' B = some (.lst (us.map V.str)) ∧ (∀ s ∈ us, TX 20000 s) ∧ us.length = i) ⟨up2 hB, [], upd_same, (fun s hs => by cases hs), rfl⟩ (fun i H' _ ⟨s', _⟩ => SqT.of (s' _ _ hM1)) ?_ ?_⟩
             · rintro i y H' hy ⟨sm, us, hl, ut, lu⟩
               have ilt := (List.getElem?_eq_some_iff.mp hy).1
               have ilt : i < 3 := ilt
               obtain ⟨m, rfl, m1, m2⟩ : ∃ m : Nat, y = .int (m : Int) ∧ 59 ≤ m ∧ m ≤ 61 := by
                 have q := List.mem_of_getElem? hy
                 simp only [List.mem_cons, List.not_mem_nil, or_false] at q
                 rcases q with rfl | rfl | rfl
                 · exact ⟨59, rfl, by decide, by decide⟩
                 · exact ⟨60, rfl, by decide, by decide⟩
                 · exact ⟨61, rfl, by decide, by decide⟩
               refine ⟨rfl, ?_⟩
               unfold tYes
               dsimp only
               rw [if_pos rfl]
               refine ⟨⟨_, rfl⟩, _, rfl, _, rfl, L, _, rfl, SqL.of (sm _ _ ln1.hL), fun S hS => ?_⟩
               rw [show (some (1 : Int)) = some ((1 : Nat) : Int) from rfl, cut_to, ← List.map_take]
               have v1 := up2 (o := .lst ((zs.take 1).map V.str)) hS
               have lt1 : (zs.take 1).length ≤ 1 := by
                 rw [List.length_take]
                 omega
               refine ⟨_, rfl, S, (m : Int), _, rfl, rfl, upd_same, by omega, by omega, ?_, fun R hR => ?_⟩
               · rw [List.length_map]
                 have q : (zs.take 1).length * (m : Int).toNat ≤ 1 * 61 := Nat.mul_le_mul lt1 (by omega)
                 exact Nat.le_of_lt (small1000 (by omega))
               have er : (List.replicate (m : Int).toNat ((zs.take 1).map V.str)).flatten = ((List.replicate m (zs.take 1)).flatten).map V.str := by
                 rw [List.map_flatten, List.map_replicate]
                 rfl
               rw [er]
               have v2 := up2 (o := .lst (((List.replicate m (zs.take 1)).flatten).map V.str)) hR
               obtain ⟨ys, eys⟩ : ∃ ys, ys = (List.replicate m (zs.take 1)).flatten := ⟨_, rfl⟩
               have ytx : ∀ y ∈ ys, TX 70 y := by
                 intro y hy
                 rw [eys] at hy
                 obtain ⟨l, hl, hyl⟩ := List.mem_flatten.mp hy
                 rw [List.eq_of_mem_replicate hl] at hyl
                 exact ln.zl y (List.mem_of_mem_take hyl)
               have ly : ys.length ≤ 61 := by
                 rw [eys, List.length_flatten, List.map_replicate, List.sum_replicate_nat]
                 have q : m * (zs.take 1).length ≤ 61 * 1 := Nat.mul_le_mul m2 lt1
                 omega
               rw [← eys] at v2 ⊢
               obtain ⟨h1, h2⟩ := tx_lines (n := 5000) ytx (by omega)
               have v12 := v1.trans v2
               refine ⟨_, R, ys, rfl, rfl, .inl (SqL.of upd_same), by omega, ?_⟩
               have hl2 := v12 _ _ hl
               refine ⟨_, hl2, small1000 (by rw [List.length_map, lu]; omega), same_upd (sm.trans v12) hB, us ++ [Txt.join "\n" ys], by rw [upd_same, List.map_append]; rfl, fun s hs => ?_, by rw [List.length_append, lu]; rfl⟩
               rcases List.mem_append.mp hs with q | q
               · exact ut s q
               · rw [List.mem_singleton.mp q]
                 exact h1.le (by decide)
             · rintro H2 ⟨sm, us, hl, ut, lu⟩
               have hT2 := sm _ _ (u1 _ _ hT)
               have lu3 : us.length = 3 := lu
               refine ⟨T, B, _, _, rfl, rfl, hT2, hl, Nat.le_of_lt (small1000 (by rw [List.length_map, List.length_map]; omega)), fun T2 hT2' => ?_⟩
               have u3 := up2 (o := .lst (ts.map V.str ++ us.map V.str)) hT2'
               have s3 := u1.trans (sm.trans u3)
               refine nx T2 _ (Same.free (u1.trans sm) hT2') s3 (ne_of_none (sm _ _ ln1.hL) hT2') ⟨by
                 rintro rfl
                 exact pen_old (pen_same ln.pn (u1.trans sm)) hT2', ts ++ us, by rw [upd_same, List.map_append], fun s hs => ?_, by rw [List.length_append]; omega⟩
               rcases List.mem_append.mp hs with q | q
               · exact htx s q
               · exact ut s q
           case w4 =>
            rintro D σ H ⟨a, p, L, z, zs, t, v5, r, rfl, ln, tx, nx⟩
            have sz := sizeLine_eq
            have l7 := ln.z7
            have lt := tx.2
            have e1 : (("\n" : String) : Str).length = 1 := by decide +kernel
            have e2 : ((" " : String) : Str).length = 1 := by decide +kernel
            have e5 : (("none\n" : String) : Str).length = 5 := by decide +kernel
            refine ⟨_, rfl, ⟨_, rfl⟩, _, rfl, L, _, rfl, SqL.of ln.hL, fun V1 hV1 => ?_⟩
            rw [← List.map_reverse]
            have u1 := up2 (o := .lst (zs.reverse.map V.str)) hV1
            obtain ⟨h1, h2⟩ := tx_lines (ys := zs.reverse) (n := 500) (fun y hy => ln.zl y (List.mem_reverse.mp hy)) (by rw [List.length_reverse]; omega)
            refine ⟨_, V1, zs.reverse, rfl, rfl, .inl (SqL.of upd_same), by omega, ?_⟩
            refine ⟨_, rfl, _, _, rfl, rfl, by omega, _, rfl, _, _, rfl, rfl, by omega, _, rfl, _, _, rfl, rfl, by omega, _, rfl, _, _, rfl, rfl, by omega, (by show 8 ≤ sizeLine; decide), fun T hT => ?_⟩
            obtain ⟨ts, ets⟩ : ∃ ts : List Str, ts = [t, Txt.join "\n" zs.reverse, t ++ "\n", "\n" ++ t, t ++ " ", "", "none", "none\n" ++ t] := ⟨_, rfl⟩
            have u2 := up2 (o := .lst (ts.map V.str)) hT
            have nl : TX 1 ("\n" : Str) := spL1
            have sp : TX 1 (" " : Str) := tx_lit (by decide +kernel) (by decide +kernel)
            have n5 : TX 5 ("none\n" : Str) := tx_lit (by decide +kernel) (by decide +kernel)
            have all : ∀ s ∈ ts, TX 20000 s := by
              rw [ets]
              intro s hs
              simp only [List.mem_cons, List.not_mem_nil, or_false] at hs
              rcases hs with rfl | rfl | rfl | rfl | rfl | rfl | rfl | rfl
              · exact tx.le (by decide)
              · exact h1.le (by decide)
              · exact (tx.app nl).le (by decide)
              · exact (nl.app tx).le (by decide)
              · exact (tx.app sp).le (by decide)
              · exact tx_lit (by decide +kernel) (by decide +kernel)
              · exact tx_lit (by decide +kernel) (by decide +kernel)
              · exact (n5.app tx).le (by decide)
            have e : (.lst [V.str t, V.str (Txt.join "\n" zs.reverse), V.str (t ++ "\n"), V.str ("\n" ++ t), V.str (t ++ " "), V.str "", V.str "none", V.str ("none\n" ++ t)] : HO) = .lst (ts.map V.str) := by
              rw [ets]
              rfl
            refine nx T _ (u1.trans (up2 hT)) ⟨?_, ts, ?_, all, by rw [ets]; show 8 ≤ 8; decide⟩
            · rintro rfl
              exact pen_old (pen_same ln.pn u1) hT
            · rw [upd_same]
              exact congrArg some e
          case w3 =>
           rintro D σ H ⟨a, p, L, z, zs, v4, r, rfl, ln, nx⟩
           have l7 := ln.z7
           obtain ⟨h1, h2⟩ := tx_lines (n := 500) ln.zl (by omega)
           exact ⟨⟨_, rfl⟩, _, rfl, _, L, zs, rfl, rfl, .inl (SqL.of ln.hL), by omega, nx _ h1⟩
         case w2 =>
          rintro D σ H ⟨a, p, z, v3, v4, v5, v6, v7, v8, v9, v10, v11, rfl, pn, nx⟩
          refine ⟨_, rfl, p, 6, rfl, pn, by decide, fun F gs H1 k1 nF hF gg lg => ?_⟩
          obtain ⟨zs, ezs⟩ : ∃ zs, zs = gs.map fun g => wTxt (lineP g.2) := ⟨_, rfl⟩
          have lz : zs.length = gs.length := by rw [ezs, List.length_map]
          have ztx : ∀ z ∈ zs, TX 70 z := by
            intro z hz
            rw [ezs] at hz
            obtain ⟨g, hg, rfl⟩ := List.mem_map.mp hz
            exact tx_line (gg g hg).2
          refine ⟨F, rfl, ⟨_, SqL.of hF⟩, fun B hB => lc_list (K := K) (a := F) (xs := gv gs) (fun i H' => Same H1 H' ∧ H' B = some (.lst ((zs.take i).map V.str))) ⟨up2 hB, by rw [List.take_zero]; exact upd_same⟩ (fun i H' _ ⟨s', _⟩ => SqL.of (s' _ _ hF)) ?_ ?_⟩
          · rintro i y H' hy ⟨sm, hl⟩
            obtain ⟨g, hg, rfl⟩ := gv_get hy
            have ilt := (List.getElem?_eq_some_iff.mp hg).1
            obtain ⟨hg1, okg⟩ := (gg.same sm) g (List.mem_of_getElem? hg)
            have hz : zs[i]? = some (wTxt (lineP g.2)) := by
              rw [ezs, List.getElem?_map, hg]
              rfl
            refine ⟨rfl, ?_⟩
            unfold tYes
            dsimp only
            rw [if_pos rfl]
            refine ⟨_, rfl, g.1, g.2.vs, lineP g.2, rfl, hg1, rfl, vs_str okg, (by show 7 ≤ 8; decide), line_len okg, fun H2 s2 => ?_⟩
            refine ⟨_, s2 _ _ hl, small1000 (by rw [List.length_map, List.length_take]; omega), same_upd (sm.trans s2) hB, ?_⟩
            rw [upd_same, take_sn hz, List.map_append]
            rfl
          · rintro H2 ⟨sm, hl⟩
            rw [gv_len, ← lz, List.take_length] at hl
            have k2 := k1.same sm
            have nBp : B ≠ p := by
              rintro rfl
              exact pen_old k1.pen hB
            refine ⟨_, rfl, p, rfl, k2.pen, fun R r H3 k3 nR hR okr => ?_⟩
            refine ⟨R, r.vs, lineP r, rfl, hR, rfl, vs_str okr, (by show 7 ≤ 8; decide), line_len okr, fun H4 s4 => ⟨(by show 1 ≤ sizeLine; decide), fun C hC => ?_⟩⟩
            have u1 := up2 (o := .lst [V.str (wTxt (lineP r))]) hC
            have hB4 := u1 _ _ (s4 _ _ (k3.keep _ _ hl nBp))
            refine ⟨B, C, _, _, rfl, rfl, hB4, upd_same, Nat.le_of_lt (small1000 (by rw [List.length_map]; show _ + 1 ≤ 1000; omega)), fun L hL => ?_⟩
            have u2 := up2 (o := .lst (zs.map V.str ++ [V.str (wTxt (lineP r))])) hL
            have k5 := ((k2.trans k3).same s4).same (u1.trans u2)
            refine nx L (zs ++ [wTxt (lineP r)]) _ k5 ⟨k5.pen, by rw [upd_same, List.map_append]; rfl, by
              rintro rfl
              exact pen_old (((k2.trans k3).same s4).same u1).pen hL, fun z hz => ?_, by rw [List.length_append]; show 0 < _ + 1; omega, by rw [List.length_append]; show _ + 1 ≤ 7; omega⟩
            rcases List.mem_append.mp hz with q | q
            · exact ztx z q
            · rw [List.mem_singleton.mp q]
              exact tx_line okr
        case w1 =>
         rintro D σ H ⟨a, z, v2, r, rfl, nx⟩
         exact ⟨_, rfl, z, rfl, fun p H1 np s1 pn => nx p H1 np s1 pn⟩
       case w0 =>
        rintro D σ H ⟨a, z, v2, v3, v4, v5, v6, v7, v8, v9, v10, v11, rfl, nx⟩
        refine ⟨a, z, _, _, rfl, fun p H1 np s1 pn1 => ?_⟩
        refine ⟨a, p, z, _, _, _, _, _, _, _, _, _, rfl, pn1, fun L zs H2 k2 ln2 => ?_⟩
        refine ⟨a, p, L, z, zs, _, _, rfl, ln2, fun t tx => ?_⟩
        refine ⟨a, p, L, z, zs, t, _, _, rfl, ln2, tx, fun T H3 s3 tl3 => ?_⟩
        have ln3 := ln2.same s3
        refine ⟨a, p, L, T, z, zs, t, _, _, _, _, _, _, rfl, ln3, tl3, fun T4 H4 f4 s4 nLT tl4 => ?_⟩
        have fT : H T4 = none := Same.free s1 (k2.free pn1 (Same.free s3 f4))
        have ln4 := ln3.same s4
        have sH4 : Same H H4 := (same_kp s1 np k2).trans (s3.trans s4)
        refine ⟨a, p, L, T4, z, zs, t, _, rfl, ln4, nLT, tl4, fun H5 kp5 tl5 => ?_⟩
        have pn5 : Pen H5 p := by
          obtain ⟨x, f, e⟩ := ln4.pn
          exact ⟨x, f, kp5 _ _ e (Ne.symm tl4.1)⟩
        have ln5 : Ln p L zs H5 := ⟨pn5, kp5 _ _ ln4.hL nLT, ln4.nL, ln4.zl, ln4.z0, ln4.z7⟩
        have sH5 : Same H H5 := fun b o e => kp5 b o (sH4 b o e) (ne_of_none e fT)
        refine ⟨a, p, L, T4, z, t, _, _, _, rfl, pn5, tx, tl5, fun T6 v6' v7' H6 k6 tl6 => ?_⟩
        refine ⟨a, p, L, T6, z, zs, t, _, _, _, _, _, rfl, ln5.kp k6, tl6, fun v8' v9' H7 k7 => ?_⟩
        exact nx _ _ _ _ _ _ _ _ _ _ H7 (same_kp (same_kp sH5 np k6) np k7)
    case r =>
      have os : 1 ≤ sizeLine := by decide
      refine ⟨_, rfl, a, ns, rfl, ha, hn, fun z0 => ⟨os, fun l1 h1 => ?_⟩⟩
      have s1 := up2 (o := .lst [.int z0]) h1
      refine ⟨_, rfl, _, rfl, _, rfl, a, _, rfl, sql_same ha s1, fun l2 h2 => ?_⟩
      have s2 := up2 (o := .lst (cutV (ns.map V.int) (some 1) (some 5))) h2
      refine ⟨l1, l2, _, _, rfl, rfl, s2 _ _ upd_same, upd_same, ?_, fun l3 h3 => ?_⟩
      · have q1 := cutV_length (ns.map V.int) (some 1) (some 5)
        rw [List.length_map] at q1
        have q2 : ([V.int z0].length : Nat) = 1 := rfl
        exact Nat.le_of_lt (small1000 (by omega))
      have s3 := up2 (o := .lst ([.int z0] ++ cutV (ns.map V.int) (some 1) (some 5))) h3
      obtain ⟨H0, eH0⟩ : ∃ G, G = upd (upd (upd H l1 (.lst [.int z0])) l2 (.lst (cutV (ns.map V.int) (some 1) (some 5)))) l3 (.lst ([.int z0] ++ cutV (ns.map V.int) (some 1) (some 5))) := ⟨_, rfl⟩
      have hL0 : H0 l3 = some (.lst ([.int z0] ++ cutV (ns.map V.int) (some 1) (some 5))) := by
        rw [eH0]
        exact upd_same
      rw [← eH0]
      refine ⟨l3, rfl, ⟨_, SqL.of hL0⟩, for_list (K := K) (a := l3) (xs := [.int z0] ++ cutV (ns.map V.int) (some 1) (some 5)) (fun i σ H' => ∃ v1 v2 v3 v4 v5 v6 v7 v8 v9 v10 v11 : Option V, σ = [some (.ref a), v1, v2, v3, v4, v5, v6, v7, v8, v9, v10, v11] ∧ Same H0 H')
        ⟨none, none, none, none, none, none, none, none, none, none, none, rfl, Same.refl _⟩ (fun i σ H' _ ⟨_, _, _, _, _, _, _, _, _, _, _, _, s⟩ => SqL.of (s _ _ hL0)) ?_ ?_⟩
      · rintro i y σ Hi hy ⟨v1, v2, v3, v4, v5, v6, v7, v8, v9, v10, v11, rfl, sN⟩
        obtain ⟨z, rfl⟩ := int_at hy
        exact ⟨a, z, _, _, _, _, _, _, _, _, _, _, rfl, fun v2 v3 v4 v5 v6 v7 v8 v9 v10 v11 H2 s2 => ⟨_, _, _, _, _, _, _, _, _, _, _, rfl, sN.trans s2⟩⟩
      · rintro σ H1 ⟨v1, v2, v3, v4, v5, v6, v7, v8, v9, v10, v11, rfl, sN⟩
        exact back H1
end
end K13
set_option Elab.async false
set_option linter.all false
set_option maxRecDepth 100000
set_option maxHeartbeats 0
namespace K13
open PySem PySem.Spec PyProof.Rows L2 Bb
section
variable {K : PySem.W.Frag} {h : Heap} {mg : Str → Option Value}
abbrev SD (K : PySem.W.Frag) : Prop := He.SaysD hfa hfn K
theorem z_free (X : K.In h) (G : h.Ns mainGlobals mg) (c : SD K) : Free mg := ⟨(He.free_ok X G (c.fact 37 (f := .free "isinstance") rfl)), (He.free_ok X G (c.fact 38 (f := .free "int") rfl)), (He.free_ok X G (c.fact 39 (f := .free "bool") rfl)), (He.free_ok X G (c.fact 40 (f := .free "tuple") rfl)), (He.free_ok X G (c.fact 41 (f := .free "list") rfl)), (He.free_ok X G (c.fact 42 (f := .free "str") rfl)), (He.free_ok X G (c.fact 43 (f := .free "len") rfl)), (He.free_ok X G (c.fact 44 (f := .free "all") rfl)), (He.free_ok X G (c.fact 45 (f := .free "range") rfl)), (He.free_ok X G (c.fact 46 (f := .free "enumerate") rfl)), (He.free_ok X G (c.fact 47 (f := .free "repr") rfl)), (He.free_ok X G (c.fact 48 (f := .free "min") rfl)), (He.free_ok X G (c.fact 49 (f := .free "max") rfl)), (He.free_ok X G (c.fact 50 (f := .free "sorted") rfl)), (He.free_ok X G (c.fact 51 (f := .free "zip") rfl)), (He.free_ok X G (c.fact 52 (f := .free "ValueError") rfl)), (He.free_ok X G (c.fact 53 (f := .free "LookupError") rfl))⟩
theorem z_cons (X : K.In h) (G : h.Ns mainGlobals mg) (c : SD K) : Cons mg := ⟨He.int_ok X G (c.fact 54 (f := .int "MOST_DAY" 40000) rfl), He.int_ok X G (c.fact 55 (f := .int "LAST_HOUR" 23) rfl), He.int_ok X G (c.fact 56 (f := .int "MOST_WIND" 99) rfl), He.int_ok X G (c.fact 57 (f := .int "LEAST_MARK" 1) rfl), He.int_ok X G (c.fact 58 (f := .int "MOST_MARK" 1000000) rfl), He.int_ok X G (c.fact 59 (f := .int "LONGEST_NAME" 8) rfl), He.int_ok X G (c.fact 60 (f := .int "MOST_DEEDS" 60) rfl), He.int_ok X G (c.fact 61 (f := .int "WORDS_OF_DEED" 7) rfl), He.int_ok X G (c.fact 62 (f := .int "MOST_FIGURES" 7) rfl), He.str_ok X G (c.fact 63 (f := .str "LETTERS" "abcdefghijklmnopqrstuvwxyz") rfl), He.str_ok X G (c.fact 64 (f := .str "NO_DEEDS" "none") rfl), He.str_ok X G (c.fact 65 (f := .str "FIGURES" "0123456789") rfl)⟩
theorem z_is_number (X : K.In h) (G : h.Ns mainGlobals mg) (c : SD K) : ∃ a d, Fn K "is_number" "is_number" sIsNum a d ∧ mg "is_number" = some (.ref a) := by
  obtain ⟨fd, F⟩ := c.def_ 0 (d := d_is_number) rfl
  exact ⟨_, fd, F, (He.glo_ok X G (c.fact 0 (f := .glo "is_number") rfl))⟩
theorem z_is_number_from (X : K.In h) (G : h.Ns mainGlobals mg) (c : SD K) : ∃ a d, Fn K "is_number_from" "is_number_from" sFrom a d ∧ mg "is_number_from" = some (.ref a) := by
  obtain ⟨fd, F⟩ := c.def_ 1 (d := d_is_number_from) rfl
  exact ⟨_, fd, F, (He.glo_ok X G (c.fact 1 (f := .glo "is_number_from") rfl))⟩
theorem z_is_name (X : K.In h) (G : h.Ns mainGlobals mg) (c : SD K) : ∃ a d, Fn K "is_name" "is_name" sIsName a d ∧ mg "is_name" = some (.ref a) := by
  obtain ⟨fd, F⟩ := c.def_ 2 (d := d_is_name) rfl
  exact ⟨_, fd, F, (He.glo_ok X G (c.fact 2 (f := .glo "is_name") rfl))⟩
theorem z_is_day (X : K.In h) (G : h.Ns mainGlobals mg) (c : SD K) : ∃ a d, Fn K "is_day" "is_day" sIsDay a d ∧ mg "is_day" = some (.ref a) := by
  obtain ⟨fd, F⟩ := c.def_ 3 (d := d_is_day) rfl
  exact ⟨_, fd, F, (He.glo_ok X G (c.fact 3 (f := .glo "is_day") rfl))⟩
theorem z_is_hour (X : K.In h) (G : h.Ns mainGlobals mg) (c : SD K) : ∃ a d, Fn K "is_hour" "is_hour" sIsHour a d ∧ mg "is_hour" = some (.ref a) := by
  obtain ⟨fd, F⟩ := c.def_ 4 (d := d_is_hour) rfl
  exact ⟨_, fd, F, (He.glo_ok X G (c.fact 4 (f := .glo "is_hour") rfl))⟩
theorem z_is_wind (X : K.In h) (G : h.Ns mainGlobals mg) (c : SD K) : ∃ a d, Fn K "is_wind" "is_wind" sIsWind a d ∧ mg "is_wind" = some (.ref a) := by
  obtain ⟨fd, F⟩ := c.def_ 5 (d := d_is_wind) rfl
  exact ⟨_, fd, F, (He.glo_ok X G (c.fact 5 (f := .glo "is_wind") rfl))⟩
theorem z_is_mark (X : K.In h) (G : h.Ns mainGlobals mg) (c : SD K) : ∃ a d, Fn K "is_mark" "is_mark" sIsMark a d ∧ mg "is_mark" = some (.ref a) := by
  obtain ⟨fd, F⟩ := c.def_ 6 (d := d_is_mark) rfl
  exact ⟨_, fd, F, (He.glo_ok X G (c.fact 6 (f := .glo "is_mark") rfl))⟩
theorem z__law_cell (X : K.In h) (G : h.Ns mainGlobals mg) (c : SD K) : ∃ a d, Fn K "_law_cell" "_law_cell" sCell a d ∧ mg "_law_cell" = some (.ref a) := by
  obtain ⟨fd, F⟩ := c.def_ 7 (d := d__law_cell) rfl
  exact ⟨_, fd, F, (He.glo_ok X G (c.fact 7 (f := .glo "_law_cell") rfl))⟩
theorem z__law_pen (X : K.In h) (G : h.Ns mainGlobals mg) (c : SD K) : ∃ a d, Fn K "_law_pen" "_law_pen" sPen a d ∧ mg "_law_pen" = some (.ref a) := by
  obtain ⟨fd, F⟩ := c.def_ 8 (d := d__law_pen) rfl
  exact ⟨_, fd, F, (He.glo_ok X G (c.fact 8 (f := .glo "_law_pen") rfl))⟩
theorem z__law_draw (X : K.In h) (G : h.Ns mainGlobals mg) (c : SD K) : ∃ a d, Fn K "_law_draw" "_law_draw" sDraw a d ∧ mg "_law_draw" = some (.ref a) := by
  obtain ⟨fd, F⟩ := c.def_ 9 (d := d__law_draw) rfl
  exact ⟨_, fd, F, (He.glo_ok X G (c.fact 9 (f := .glo "_law_draw") rfl))⟩
theorem z__law_pick (X : K.In h) (G : h.Ns mainGlobals mg) (c : SD K) : ∃ a d, Fn K "_law_pick" "_law_pick" sPick a d ∧ mg "_law_pick" = some (.ref a) := by
  obtain ⟨fd, F⟩ := c.def_ 10 (d := d__law_pick) rfl
  exact ⟨_, fd, F, (He.glo_ok X G (c.fact 10 (f := .glo "_law_pick") rfl))⟩
theorem z__law_anything (X : K.In h) (G : h.Ns mainGlobals mg) (c : SD K) : ∃ a d, Fn K "_law_anything" "_law_anything" sAny a d ∧ mg "_law_anything" = some (.ref a) := by
  obtain ⟨fd, F⟩ := c.def_ 11 (d := d__law_anything) rfl
  exact ⟨_, fd, F, (He.glo_ok X G (c.fact 11 (f := .glo "_law_anything") rfl))⟩
theorem z__law_name (X : K.In h) (G : h.Ns mainGlobals mg) (c : SD K) : ∃ a d, Fn K "_law_name" "_law_name" sName a d ∧ mg "_law_name" = some (.ref a) := by
  obtain ⟨fd, F⟩ := c.def_ 12 (d := d__law_name) rfl
  exact ⟨_, fd, F, (He.glo_ok X G (c.fact 12 (f := .glo "_law_name") rfl))⟩
theorem z__law_number (X : K.In h) (G : h.Ns mainGlobals mg) (c : SD K) : ∃ a d, Fn K "_law_number" "_law_number" sNum a d ∧ mg "_law_number" = some (.ref a) := by
  obtain ⟨fd, F⟩ := c.def_ 13 (d := d__law_number) rfl
  exact ⟨_, fd, F, (He.glo_ok X G (c.fact 13 (f := .glo "_law_number") rfl))⟩
theorem z__law_is_name (X : K.In h) (G : h.Ns mainGlobals mg) (c : SD K) : ∃ a d, Fn K "_law_is_name" "_law_is_name" sLName a d ∧ mg "_law_is_name" = some (.ref a) := by
  obtain ⟨fd, F⟩ := c.def_ 14 (d := d__law_is_name) rfl
  exact ⟨_, fd, F, (He.glo_ok X G (c.fact 14 (f := .glo "_law_is_name") rfl))⟩
theorem z__law_when (X : K.In h) (G : h.Ns mainGlobals mg) (c : SD K) : ∃ a d, Fn K "_law_when" "_law_when" sWhen a d ∧ mg "_law_when" = some (.ref a) := by
  obtain ⟨fd, F⟩ := c.def_ 15 (d := d__law_when) rfl
  exact ⟨_, fd, F, (He.glo_ok X G (c.fact 15 (f := .glo "_law_when") rfl))⟩
theorem z__law_feat (X : K.In h) (G : h.Ns mainGlobals mg) (c : SD K) : ∃ a d, Fn K "_law_feat" "_law_feat" sFeat a d ∧ mg "_law_feat" = some (.ref a) := by
  obtain ⟨fd, F⟩ := c.def_ 16 (d := d__law_feat) rfl
  exact ⟨_, fd, F, (He.glo_ok X G (c.fact 16 (f := .glo "_law_feat") rfl))⟩
theorem z__law_is_feat (X : K.In h) (G : h.Ns mainGlobals mg) (c : SD K) : ∃ a d, Fn K "_law_is_feat" "_law_is_feat" sIsFeat a d ∧ mg "_law_is_feat" = some (.ref a) := by
  obtain ⟨fd, F⟩ := c.def_ 17 (d := d__law_is_feat) rfl
  exact ⟨_, fd, F, (He.glo_ok X G (c.fact 17 (f := .glo "_law_is_feat") rfl))⟩
theorem z__law_feats (X : K.In h) (G : h.Ns mainGlobals mg) (c : SD K) : ∃ a d, Fn K "_law_feats" "_law_feats" sFeats a d ∧ mg "_law_feats" = some (.ref a) := by
  obtain ⟨fd, F⟩ := c.def_ 18 (d := d__law_feats) rfl
  exact ⟨_, fd, F, (He.glo_ok X G (c.fact 18 (f := .glo "_law_feats") rfl))⟩
theorem z__law_shown (X : K.In h) (G : h.Ns mainGlobals mg) (c : SD K) : ∃ a d, Fn K "_law_shown" "_law_shown" sShown a d ∧ mg "_law_shown" = some (.ref a) := by
  obtain ⟨fd, F⟩ := c.def_ 19 (d := d__law_shown) rfl
  exact ⟨_, fd, F, (He.glo_ok X G (c.fact 19 (f := .glo "_law_shown") rfl))⟩
theorem z__law_values (X : K.In h) (G : h.Ns mainGlobals mg) (c : SD K) : ∃ a d, Fn K "_law_values" "_law_values" sValues a d ∧ mg "_law_values" = some (.ref a) := by
  obtain ⟨fd, F⟩ := c.def_ 20 (d := d__law_values) rfl
  exact ⟨_, fd, F, (He.glo_ok X G (c.fact 20 (f := .glo "_law_values") rfl))⟩
theorem z__law_bent (X : K.In h) (G : h.Ns mainGlobals mg) (c : SD K) : ∃ a d, Fn K "_law_bent" "_law_bent" sBent a d ∧ mg "_law_bent" = some (.ref a) := by
  obtain ⟨fd, F⟩ := c.def_ 21 (d := d__law_bent) rfl
  exact ⟨_, fd, F, (He.glo_ok X G (c.fact 21 (f := .glo "_law_bent") rfl))⟩
theorem z_law (X : K.In h) (G : h.Ns mainGlobals mg) (c : SD K) : ∃ a d, Fn K "law" "law" sLaw a d ∧ mg "law" = some (.ref a) := by
  obtain ⟨fd, F⟩ := c.def_ 22 (d := d_law) rfl
  exact ⟨_, fd, F, (He.glo_ok X G (c.fact 22 (f := .glo "law") rfl))⟩
theorem z_are_deeds (X : K.In h) (G : h.Ns mainGlobals mg) (c : SD K) : ∃ a d, Fn K "are_deeds" "are_deeds" sAreD a d ∧ mg "are_deeds" = some (.ref a) := by
  obtain ⟨fd, F⟩ := c.def_ 23 (d := d_are_deeds) rfl
  exact ⟨_, fd, F, (He.glo_ok X G (c.fact 23 (f := .glo "are_deeds") rfl))⟩
theorem z_writes_number (X : K.In h) (G : h.Ns mainGlobals mg) (c : SD K) : ∃ a d, Fn K "writes_number" "writes_number" sWrites a d ∧ mg "writes_number" = some (.ref a) := by
  obtain ⟨fd, F⟩ := c.def_ 24 (d := d_writes_number) rfl
  exact ⟨_, fd, F, (He.glo_ok X G (c.fact 24 (f := .glo "writes_number") rfl))⟩
theorem z_deed_of (X : K.In h) (G : h.Ns mainGlobals mg) (c : SD K) : ∃ a d, Fn K "deed_of" "deed_of" sDeedOf a d ∧ mg "deed_of" = some (.ref a) := by
  obtain ⟨fd, F⟩ := c.def_ 25 (d := d_deed_of) rfl
  exact ⟨_, fd, F, (He.glo_ok X G (c.fact 25 (f := .glo "deed_of") rfl))⟩
theorem z_read_sheet (X : K.In h) (G : h.Ns mainGlobals mg) (c : SD K) : ∃ a d, Fn K "read_sheet" "read_sheet" sRead a d ∧ mg "read_sheet" = some (.ref a) := by
  obtain ⟨fd, F⟩ := c.def_ 26 (d := d_read_sheet) rfl
  exact ⟨_, fd, F, (He.glo_ok X G (c.fact 26 (f := .glo "read_sheet") rfl))⟩
theorem z__law_figures (X : K.In h) (G : h.Ns mainGlobals mg) (c : SD K) : ∃ a d, Fn K "_law_figures" "_law_figures" sFigs a d ∧ mg "_law_figures" = some (.ref a) := by
  obtain ⟨fd, F⟩ := c.def_ 27 (d := d__law_figures) rfl
  exact ⟨_, fd, F, (He.glo_ok X G (c.fact 27 (f := .glo "_law_figures") rfl))⟩
theorem z__law_row_in (X : K.In h) (G : h.Ns mainGlobals mg) (c : SD K) : ∃ a d, Fn K "_law_row_in" "_law_row_in" sRowIn a d ∧ mg "_law_row_in" = some (.ref a) := by
  obtain ⟨fd, F⟩ := c.def_ 28 (d := d__law_row_in) rfl
  exact ⟨_, fd, F, (He.glo_ok X G (c.fact 28 (f := .glo "_law_row_in") rfl))⟩
theorem z__law_due (X : K.In h) (G : h.Ns mainGlobals mg) (c : SD K) : ∃ a d, Fn K "_law_due" "_law_due" sDue a d ∧ mg "_law_due" = some (.ref a) := by
  obtain ⟨fd, F⟩ := c.def_ 29 (d := d__law_due) rfl
  exact ⟨_, fd, F, (He.glo_ok X G (c.fact 29 (f := .glo "_law_due") rfl))⟩
theorem z__law_read (X : K.In h) (G : h.Ns mainGlobals mg) (c : SD K) : ∃ a d, Fn K "_law_read" "_law_read" sLRead a d ∧ mg "_law_read" = some (.ref a) := by
  obtain ⟨fd, F⟩ := c.def_ 30 (d := d__law_read) rfl
  exact ⟨_, fd, F, (He.glo_ok X G (c.fact 30 (f := .glo "_law_read") rfl))⟩
theorem z_hq (X : K.In h) (G : h.Ns mainGlobals mg) (c : SD K) : Hq K mg := ⟨z_is_number X G c, z_is_number_from X G c, z_is_name X G c, z_is_mark X G c, z_is_day X G c, z_is_hour X G c, z_is_wind X G c, z_free X G c, z_cons X G c⟩
theorem z_hl (X : K.In h) (G : h.Ns mainGlobals mg) (c : SD K) : Hl K mg := ⟨z__law_draw X G c, z__law_pick X G c, z_free X G c⟩
theorem z_mk1 (X : K.In h) (G : h.Ns mainGlobals mg) (c : SD K) : Mk1 K mg := ⟨z_hl X G c, z__law_anything X G c, z__law_name X G c⟩
theorem z_lw (X : K.In h) (G : h.Ns mainGlobals mg) (c : SD K) : Lw K mg := ⟨z_mk1 X G c, z__law_when X G c⟩
theorem z_all (X : K.In h) (G : h.Ns mainGlobals mg) (c : SD K) : All K mg := ⟨z_hq X G c, z_lw X G c, z_writes_number X G c, z_deed_of X G c, z_read_sheet X G c, z__law_cell X G c, z__law_pen X G c, z__law_feat X G c, z__law_feats X G c, z__law_number X G c, z__law_is_name X G c, z__law_is_feat X G c, z__law_shown X G c, z__law_values X G c, z__law_figures X G c, z__law_row_in X G c, z__law_due X G c, z__law_read X G c, z__law_bent X G c⟩
theorem z_own (X : K.In h) (G : h.Ns mainGlobals mg) (c : SD K) (e : insB K (He.ga K "Deed") = true) : Own K mg (He.ga K "Deed") (He.ga K "NoDeed") := by
  obtain ⟨h1, h⟩ := He.ba e
  obtain ⟨h2, h⟩ := He.ba h
  obtain ⟨h3, h⟩ := He.ba h
  obtain ⟨h4, h⟩ := He.ba h
  obtain ⟨h5, h⟩ := He.ba h
  obtain ⟨h6, h⟩ := He.ba h
  obtain ⟨h7, h8⟩ := He.ba h
  obtain ⟨f0, F0⟩ := (c.def_ 31 (d := d_Deed___init__) rfl)
  obtain ⟨f1, F1⟩ := (c.def_ 32 (d := d_Deed_parts) rfl)
  obtain ⟨f2, F2⟩ := (c.def_ 33 (d := d_Deed_time) rfl)
  obtain ⟨f3, F3⟩ := (c.def_ 34 (d := d_Deed___eq__) rfl)
  obtain ⟨m31, m32, m33⟩ := He.meth_ok (c.fact 76 (f := .meth "Deed" "__eq__") rfl)
  obtain ⟨f4, F4⟩ := (c.def_ 35 (d := d_Deed___str__) rfl)
  obtain ⟨m41, m42, m43⟩ := He.meth_ok (c.fact 77 (f := .meth "Deed" "__str__") rfl)
  obtain ⟨x1, x2, x3, x4⟩ := He.exc_ok (c.fact 79 (f := .exc "NoDeed") rfl)
  exact ⟨⟨He.cls_ok (c.fact 66 (f := .cls "Deed") rfl), He.noat_ok (c.fact 67 (f := .noat "Deed" "name") rfl), He.noat_ok (c.fact 68 (f := .noat "Deed" "event") rfl), He.noat_ok (c.fact 69 (f := .noat "Deed" "mark") rfl), He.noat_ok (c.fact 70 (f := .noat "Deed" "day") rfl), He.noat_ok (c.fact 71 (f := .noat "Deed" "hour") rfl), He.noat_ok (c.fact 72 (f := .noat "Deed" "wind") rfl), He.noat_ok (c.fact 73 (f := .noat "Deed" "course") rfl), (He.glo_ok X G (c.fact 35 (f := .glo "Deed") rfl)), He.eqO_ok h1, He.eqO_ok h2, of_decide_eq_true h3, of_decide_eq_true h4, of_decide_eq_true h5⟩, ⟨_, f0, _, F0, rfl, He.mkr_ok (c.fact 78 (f := .mkr "Deed") rfl)⟩, ⟨_, f1, F1, He.meth_ok (c.fact 74 (f := .meth "Deed" "parts") rfl)⟩, ⟨_, f2, F2, He.meth_ok (c.fact 75 (f := .meth "Deed" "time") rfl)⟩, ⟨_, f3, F3, m31, m32⟩, ⟨_, f4, F4, m41, m42⟩, He.eqO_ok h6, of_decide_eq_true h7, fun n hn => of_decide_eq_true (List.all_eq_true.mp h8 n hn), ⟨(He.glo_ok X G (c.fact 31 (f := .glo "NoDeed") rfl)), x1, x2, x3, x4⟩⟩
theorem z_nt (X : K.In h) (G : h.Ns mainGlobals mg) (c : SD K) (e : npB K (He.ga K "NoText") (He.ma K (He.ga K "NoText") "__init__") = true) : Nt K mg (He.ga K "NoText") (He.ma K (He.ga K "NoText") "__init__") := by
  obtain ⟨f0, F0⟩ := (c.def_ 38 (d := d_NoText___init__) rfl)
  obtain ⟨m1, m2, m3⟩ := He.meth_ok (c.fact 86 (f := .meth "NoText" "__init__") rfl)
  exact npB_ok e F0 m1 m2 (He.glo_ok X G (c.fact 33 (f := .glo "NoText") rfl))
theorem z_ni (X : K.In h) (G : h.Ns mainGlobals mg) (c : SD K) (e : ntiB K (He.ga K "NoText") (He.ga K "NoDeed") (He.ga K "NoSheet") (He.ga K "ClubError") = true) : NtI K mg (He.ga K "ClubError") (He.ga K "NoText") (He.ga K "NoDeed") (He.ga K "NoSheet") := by
  obtain ⟨h1, h⟩ := He.ba e
  obtain ⟨h2, h⟩ := He.ba h
  obtain ⟨h3, h⟩ := He.ba h
  obtain ⟨h4, h5⟩ := He.ba h
  exact ⟨excB_ok h1, of_decide_eq_true h2, of_decide_eq_true h3, of_decide_eq_true h4, of_decide_eq_true h5, (He.glo_ok X G (c.fact 34 (f := .glo "ClubError") rfl)), (He.glo_ok X G (c.fact 31 (f := .glo "NoDeed") rfl)), (He.glo_ok X G (c.fact 32 (f := .glo "NoSheet") rfl))⟩
theorem z_owns (X : K.In h) (G : h.Ns mainGlobals mg) (c : SD K) (e : insB K (He.ga K "Sheet") = true) (e1 : npB K (He.ga K "NoText") (He.ma K (He.ga K "NoText") "__init__") = true) (e2 : ntiB K (He.ga K "NoText") (He.ga K "NoDeed") (He.ga K "NoSheet") (He.ga K "ClubError") = true) : OwnS K mg (He.ga K "Deed") (He.ga K "Sheet") (He.ga K "NoDeed") (He.ga K "NoSheet") (He.ga K "ClubError") := by
  obtain ⟨h1, h⟩ := He.ba e
  obtain ⟨h2, h⟩ := He.ba h
  obtain ⟨h3, h⟩ := He.ba h
  obtain ⟨h4, h⟩ := He.ba h
  obtain ⟨h5, h⟩ := He.ba h
  obtain ⟨h6, h⟩ := He.ba h
  obtain ⟨h7, h8⟩ := He.ba h
  obtain ⟨f0, F0⟩ := (c.def_ 36 (d := d_Sheet___init__) rfl)
  obtain ⟨f1, F1⟩ := (c.def_ 37 (d := d_Sheet_all_deeds) rfl)
  obtain ⟨x1, x2, x3, x4⟩ := He.exc_ok (c.fact 84 (f := .exc "NoSheet") rfl)
  exact ⟨⟨He.cls_ok (c.fact 80 (f := .cls "Sheet") rfl), He.noat_ok (c.fact 81 (f := .noat "Sheet" "_deeds") rfl), (He.glo_ok X G (c.fact 36 (f := .glo "Sheet") rfl)), He.eqO_ok h1, He.eqO_ok h2, of_decide_eq_true h3, of_decide_eq_true h4, of_decide_eq_true h5⟩, ⟨_, f0, F0, He.mkr_ok (c.fact 83 (f := .mkr "Sheet") rfl)⟩, z_are_deeds X G c, ⟨_, f1, F1, He.meth_ok (c.fact 82 (f := .meth "Sheet" "all_deeds") rfl)⟩, ⟨(He.glo_ok X G (c.fact 32 (f := .glo "NoSheet") rfl)), x1, x2, x3, x4⟩, He.exm_ok (c.fact 85 (f := .exm "NoDeed" "NoDeed" true) rfl), ⟨_, _, z_nt X G c e1, z_ni X G c e2⟩⟩

theorem z_end {w : World} {fa : Addr} (X : K.In h) (G : h.Ns mainGlobals mg) (hmg : mg ("law" : Str) = some (.ref fa)) (c : He.SaysX hfa hfn [] htf hex w h K) : LawG PySem.Challenge.rw_bestsbook_k13_texts_that_write_none w K L2.CX0 9 63 "_law_script" mg fa h := by
  have d := c.t.d
  obtain ⟨a, fd, F, g⟩ := z_law X G d
  have e0 : a = fa := by
    have := g.symm.trans hmg
    injection this with this
    injection this
  subst e0
  have b := FunD.bindsA (ps := ["_law_script"]) F fun _ _ _ _ _ _ us hl => match us, hl with | [_], _ => rfl
  obtain ⟨q1, q⟩ := He.ba c.more
  obtain ⟨q2, q⟩ := He.ba q
  obtain ⟨q3, q4⟩ := He.ba q
  refine ⟨_, [], spLaw K, fun p hp => (by cases hp), fun p hp => (by cases hp), fun p hp => (by cases hp), fun s u => b s [u] rfl, ?_, ?_⟩
  · intro H a' ns hl _ _ hS
    exact ⟨a', ns, rfl, hS, hl, fun _ => rfl⟩
  · intro base KB NB tb
    exact ok_law F (z_all X G d) (z_own X G d q1) (z_owns X G d q2 q3 q4)

end
end K13
open PySem PySem.W PySem.Calls PyProof.Rows
theorem PySem.Challenge.cw_bestsbook_k13_texts_that_write_none_holds : PySem.Challenge.rw_bestsbook_k13_texts_that_write_none.Holds := by
  w_on; o_law
  refine HandSHeadRun.head_any (r := OpenLaw.row PySem.Challenge.rw_bestsbook_k13_texts_that_write_none) (q := view (OpenLaw.row PySem.Challenge.rw_bestsbook_k13_texts_that_write_none).prog [56]) (H := K13.hk) (ob := K13.ob) (M := 9000) (loose := K13.loose) (d := HandSHeadRun.topDef (OpenLaw.row PySem.Challenge.rw_bestsbook_k13_texts_that_write_none).prog 56) (kwd := []) K13.ob_eq
    (by kernel_rfl) (fun s => by kernel_rfl) K13.run (by kernel_rfl) (by kernel_rfl) (by kernel_rfl) (by rfl) (by first | assumption | decide +kernel) (by decide +kernel) ⟨rfl, rfl, rfl, rfl, rfl, by decide +kernel⟩ ?hw ?hc
  case hw => w_witness2
  case hc =>
    refine Bb.walkG (l := PySem.Challenge.rw_bestsbook_k13_texts_that_write_none) (n := 63) (k := 9) (x := "_law_script") (CX := fun _ => L2.CX0) rfl (by decide) (by kernel_rfl) ⟨rfl, by decide, by decide⟩ ?F (fun _ _ _ _ _ z => z)
    intro w mg fa h Y G hmg0
    obtain ⟨K, KX, c⟩ := Y
    have hmg : mg ("law" : PySem.Str) = some (.ref fa) := by
      have e : (HandSHeadRun.topDef (OpenLaw.row PySem.Challenge.rw_bestsbook_k13_texts_that_write_none).prog 56).name = ("law" : PySem.Str) := by kernel_rfl
      rw [← e]
      exact hmg0
    exact ⟨K, KX, K13.z_end KX G hmg c⟩
