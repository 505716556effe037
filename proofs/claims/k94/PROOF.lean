import PyProof.Rows.All
import Wide.All
import OpenK.AllK
import Wide.FinOn
import HandS.Base
import HandS.Call
import HandS.List
import HandS.Comp
import HandS.Ends
import HandS.Iter
import HandS.Text
import HandS.Words
import HandS.WordsList
import HandS.TupAny
import HandS.TupLe
import HandS.Rev
import HandS.Style
import HandS.Flow
import HandS.IsInst
import HandS.Codes
import HandS.FStrTup
import HandS.Walk
import HandS.More
import PyProof.StrBlock2
import HandS.Wide
import HandS.WideBits
import HandS.TupMul
import HandS.Deep
import HandS.SortInts
import HandS.Gcd
import HandS.Zip
import HandS.Conv
import HandS.NoneIn
import HandS.Strs
import HandS.Replace
import HandS.Defaults
import HandS.ForExc
import HandS.ExcInit
import HandS.ExcIs
import KE.KExcIs
import HandS.ExcField
import HandS.ExcOwn
import HandS.Small
import HandS.Dict
import HandS.DictComp
import KE.KDictZip
import HandS.RevTup
import KE.LtSeq
import KE.GoesMore
import PyProof.EnumMake
import PyProof.Draws
import PySem.Challenge.RW_chartspec_k94_formulas_and_their_tests
set_option Elab.async false
set_option linter.all false
set_option maxRecDepth 100000
set_option maxHeartbeats 4000000
/-! The layer's promises with one thing more: no repr is under way (A.guards = some []). -/
namespace Cs
open PySem PySem.Spec PyProof.Rows L2

/-- a def's promise, given where no repr is under way -/
structure FnG (P : Program) (w : World) (K : PySem.W.Frag) (mg : Str → Option Value) (base : Heap) (k : Nat) (f : Addr) (fd : FuncData) (ps : List Str) (sp : Sp) : Prop where
  len : ∀ vs H Q E, sp vs H Q E → vs.length = ps.length
  go : ∀ (A : Around) (out : List Env) (s : Shared) (H : Hp) (args : Args) (us : List Value) (vs : List V) (Q : VK) (E : XK),
    Room k A → A.guards = some [] → Env0 P w K mg base A out s H → BindsTo s fd args (ps.zip us) → Vals vs us → sp vs H Q E →
    codeAny (model P w) A (.call (.ref f) args) (CR CX0 out P w H s Q E) s

section
variable {P : Program} {w : World} {K : PySem.W.Frag} {mg : Str → Option Value} {base : Heap}

/-- the contexts of bodies: as cxOf, nothing leaves the def -/
abbrev cxG (P : Program) (w : World) (K : PySem.W.Frag) (mg : Str → Option Value) (base : Heap) (N : List Str) (qual : Str) (sc : Scope) (f : Addr) (cd : Value) (A : Around) (out : List Env) (s : Shared) (H : Hp) (E : XK) : Cx :=
  (cxOf CX0 P w K mg base N qual sc f cd A out s H E).nox

/-- a def by its body -/
theorem FnG.of {x qual : Str} {st : Stmt} {f : Addr} {fd : FuncData} {N ps : List Str} {k : Nat} {sp : Sp} (F : Fun K x qual st f fd) (S : FnScope N ps (defScope st)) (len : ∀ vs H Q E, sp vs H Q E → vs.length = ps.length)
    (body : ∀ (cdv : Value) (A : Around) (out : List Env) (s : Shared) (H : Hp) (vs : List V) (Q : VK) (E : XK), Room k (A.deeper (envOfC qual (defScope st) s.heap.objs.size f cdv)) → A.guards = some [] → sp vs H Q E →
      ∃ t, PSs (cxG P w K mg base N qual (defScope st) f cdv A out s H E) (defBody st) t ∧ t { nx := fun _ H' => Q .non H', rt := Q } (start N vs) H) :
    FnG P w K mg base (k + 1) f fd ps sp := by
  obtain ⟨oc, od, kV, doc, pm, an, cdv, ct, osl, rfl, lk, hcd⟩ := F.ex
  refine ⟨len, fun A out s H args us vs Q E hr hg e0 hb r hsp => ?_⟩
  have hl := len _ _ _ _ hsp
  have inK : K.In s.heap := e0.mod.kin.keeps fun b o e => (e0.bs b o e).1
  have noL : s.heap.NoLimit := e0.mod.nolimit.keeps fun b o e => (e0.bs b o e).1
  refine codeAny_call_function hr.depth (inK _ _ lk) rfl S.co S.gen rfl (PySem.W.codeRec_of inK hcd) (hb _ _ _ _ ?_)
  refine wpAny_newFunctionEnv_cells S.kind (fun y hy => ?_) fun env he s1 x => ?_
  · rcases S.par y.1 (List.of_mem_zip (show (y.1, y.2) ∈ ps.zip us from hy)).1 with q | q
    · exact Or.inl q
    · exact Or.inr ⟨q, PySem.W.cellsFrom_some _ _ _ (Or.inl q)⟩
  · subst he
    refine ⟨noL.keeps x.toInCall.keep, codeAny_func ?_⟩
    obtain ⟨t, ht, hq⟩ := body cdv A out s H vs Q E (hr.deeper _) hg hsp
    have I : Inv (cxOf CX0 P w K mg base N qual (defScope st) f cdv A out s H E) [] (start N vs) H s1 := inv_start S hr.hd e0 hl r x
    refine wpAny_mono (ht.nox.run [] s1 (start N vs) H _ I hq) (fun fl s' hs => ?_) fun e s' hs => hs
    have fin : ∀ {σ' : L2.St} {H' : Hp} {v : V} {u : Value}, Inv (cxOf CX0 P w K mg base N qual (defScope st) f cdv A out s H E) [] σ' H' s' → RelV v u → Q v H' → CE out P w H s Q u s' :=
      fun {σ' H' v u} J rv q => ⟨v, H', J.os, J.bare, J.base, J.hok, rv, q⟩
    cases fl with
    | next =>
      obtain ⟨σ', H', J, q⟩ := hs
      exact fin (v := V.non) (u := Value.none) J rfl q
    | ret u =>
      obtain ⟨v, σ', H', J, rv, q⟩ := hs
      exact fin J rv q
    | brk =>
      obtain ⟨_, _, _, q⟩ := hs
      exact q.elim
    | cont =>
      obtain ⟨_, _, _, q⟩ := hs
      exact q.elim
end

section
variable {X : Cx} {k : Nat} {f : Addr} {fd : FuncData} {ps : List Str} {sp : Sp} {x : Str} {p pos : Pos} {e : Expr} {es : List Expr} {t : TA}
theorem goFn {pins : List (Addr × Obj)} {σ : L2.St} {H : Hp} {s : Shared} {Q : VK} {us : List Value} {vs : List V} (F : FnG X.prog X.w X.K X.mg X.base k f fd ps sp) (hr : Room k X.A) (hg : X.A.guards = some []) (hb : Binds X.K fd ps [])
    (I : Inv X pins σ H s) (r : Vals vs us) (h : sp vs H Q E0) : wpAny (model X.prog X.w) X.A (call (.ref f) us) (EP X pins σ Q) X.xe s := by
  have hl : (us ++ []).length = ps.length := by rw [List.append_nil, ← r.length]; exact F.len _ _ _ _ h
  have hb' := hb s us I.kIn hl
  rw [List.append_nil] at hb'
  refine wpAny_call (codeAny_mono (F.go X.A X.stack s H ⟨us, []⟩ us vs Q E0 hr hg I.env0 hb' r h) fun r s' hq => ?_)
  match r, hq with
  | .ok (.ret u), hq => exact I.after hq
  | .error e, hq => exact False.elim hq
  | .ok .next, hq => exact False.elim hq
  | .ok .brk, hq => exact False.elim hq
  | .ok .cont, hq => exact False.elim hq
/-- f(a, ..): the callee's promise -/
def tFn (sp : Sp) (t : TA) : TE := fun σ H Q => t σ H fun vs H1 => sp vs H1 Q E0
theorem pe_fn (F : FnG X.prog X.w X.K X.mg X.base k f fd ps sp) (hr : Room k X.A) (hgd : X.A.guards = some []) (hg : Gl X x) (hm : X.mg x = some (.ref f)) (hk : PySem.W.keepIn X.K (.ref f) = true) (hb : Binds X.K fd ps [])
    (ha : PA X (e :: es) t) (hdb : (x == ("__debug__" : Str)) = false := by decide) (he : starEach (e :: es) X.env = (false, eval e X.env) :: starEach es X.env := by rfl) (hpl : (backTo pos (starEach es X.env)).any (·.1) = false := by rfl) :
    PE X (.Call (.Name x p) (e :: es) [] pos) (tFn sp t) := by
  refine ⟨fun pins s σ H Q I h => wpAny_Call_Name_kw (ld_glob I hg hm ?_ hdb)⟩
  refine PySem.W.callWith_K (h₀ := X.base) I.ok.mod.kin hk (thn (ha.run pos pins s σ H _ I h) fun us s1 ⟨vs, H1, I1, r, q⟩ => ⟨I1.kIn, ?_⟩) he hpl
  exact goFn F hr hgd hb I1 r q
theorem pe_fn0 (F : FnG X.prog X.w X.K X.mg X.base k f fd ps sp) (hr : Room k X.A) (hgd : X.A.guards = some []) (hg : Gl X x) (hm : X.mg x = some (.ref f)) (hk : PySem.W.keepIn X.K (.ref f) = true) (hb : Binds X.K fd ps [])
    (hdb : (x == ("__debug__" : Str)) = false := by decide) : PE X (.Call (.Name x p) [] [] pos) (tFn sp tNil) := by
  refine ⟨fun pins s σ H Q I h => wpAny_Call_Name_kw (ld_glob I hg hm ?_ hdb)⟩
  exact PySem.W.callWith_K0 I.kIn hk (goFn (us := []) F hr hgd hb I .nil h)

/-- repr(x) of data: what stands in the text -/
def rRepr (K : PySem.W.Frag) : List V → Hp → VK → Prop := fun vs H Q => ∃ (x : V) (d : PyData), vs = [x] ∧ Dp K H x d ∧ d.showable = true ∧ d.hasDict = false ∧ d.depth ≤ 40 ∧ d.shown.length ≤ sizeLine ∧ Q (.str d.shown) H
theorem call_repr (hu : X.A.units + 64 < cLine) (hg : X.A.guards = some []) : CallR X (.builtin "repr") (rRepr X.K) := by
  intro pins s σ H vs us Q I r h
  obtain ⟨x, d, rfl, hd, sh, nd, dp, sz, q⟩ := h
  cases r with
  | cons r1 rr =>
    cases rr
    rename_i u
    obtain ⟨as, rd⟩ := Dp.reads I d x u hd r1
    cases hd with
    | non =>
      cases r1
      exact PySem.P.repr_of_none ⟨.str _, H, I.tok _, ⟨_, rfl⟩, q⟩
    | bl b =>
      cases r1
      exact PySem.P.repr_of_bool ⟨.str _, H, I.tok _, ⟨_, rfl⟩, q⟩
    | int i =>
      obtain ⟨t, rfl⟩ := r1
      exact PySem.P.repr_of_int (of_decide_eq_true sh) ⟨.str _, H, I.tok _, ⟨_, rfl⟩, q⟩
    | str z =>
      obtain ⟨t, rfl⟩ := r1
      exact PySem.P.repr_of_str ⟨.str _, H, I.tok _, ⟨_, rfl⟩, q⟩ sz
    | lst h1 h2 =>
      cases r1
      exact repr_of_reads' rd sh (PyData.noDict_hsm nd) hg (by omega) (fun _ _ e => e) (fun h1 u tk hk => ⟨.str _, H, I.kept hk, ⟨u, rfl⟩, q⟩) sz
    | tup h1 h2 =>
      cases r1
      exact repr_of_reads' rd sh (PyData.noDict_hsm nd) hg (by omega) (fun _ _ e => e) (fun h1 u tk hk => ⟨.str _, H, I.kept hk, ⟨u, rfl⟩, q⟩) sz
end
end Cs

set_option maxRecDepth 100000
set_option maxHeartbeats 4000000
namespace Cs
open PySem PySem.Spec PyProof.Rows L2

/-- what is tracked at the law's entry: the script, locked -/
def hpOf (a : Addr) (o : Obj) (xs : List V) : Hp := fun b => if b = a then some (.frz o (.lst xs)) else none
theorem hpOf_some {a b : Addr} {o : Obj} {xs : List V} {u : HO} (h : hpOf a o xs b = some u) : b = a ∧ u = .frz o (.lst xs) := by
  unfold hpOf at h
  by_cases e : b = a
  · rw [if_pos e] at h
    exact ⟨e, (Option.some.inj h).symm⟩
  · rw [if_neg e] at h
    cases h
theorem hpOf_at {a : Addr} {o : Obj} {xs : List V} : hpOf a o xs a = some (.frz o (.lst xs)) := if_pos rfl

section
variable {P : Program} {w : World} {K : PySem.W.Frag} {mg mb : Str → Option Value} {k : Nat} {fa a : Addr} {fd : FuncData} {x : Str} {sp : Sp} {s₁ : Shared} {vs : List Value} {ns : List Int}

/-- one run of the law from an abstract heap H that tracks no more than the script -/
theorem law_from (H : Hp) (inK : K.In s₁.heap) (hns : s₁.heap.Ns mainGlobals mg) (hb : s₁.heap.Ns builtinsNs mb) (hbb : ∀ y : Str, y ≠ "__name__" → mb y = bootBuiltins y) (hlim : s₁.heap.NoLimit) (hg : s₁.gens = #[])
    (ha : s₁.heap.get? a = some { cls := .type "list", data := .seq vs.toArray }) (hr : Room k callerA)
    (F : ∀ base : Heap, K.In base → base.Ns mainGlobals mg → FnG P w K mg base k fa fd [x] sp) (hbind : ∀ (s : Shared) (u : Value), BindsTo s fd ⟨[u], []⟩ [(x, u)])
    (hS : sp [.ref a] H (fun v _ => v = .bl true) E0) (hok : HOk P w H s₁.heap) (one : ∀ b u, H b = some u → b = a ∧ ∃ o xs, u = .frz o (.lst xs)) (off : ∀ u, H a = some u → K.lookup a = none) :
    codeAny (model P w) callerA (.call (.ref fa) ⟨[.ref a], []⟩) (fun r s' => r = .ok (.ret (.bool true)) ∧ OldK s₁.heap s'.heap ∧ s'.os = s₁.os ∧ AllBare s'.gens) s₁ := by
  have none_of : ∀ {b : Addr}, b ≠ a → H b = none := fun {b} n => by
    cases e : H b with
    | none => rfl
    | some u => exact absurd (one b u e).1 n
  have ns_keep : ∀ {b : Addr} {m : Str → Option Value}, s₁.heap.Ns b m → (hidT s₁.heap H).Ns b m := fun {b m} ⟨o, es, ep, e, d, q⟩ => by
    refine ⟨o, es, ep, hidT_get e (none_of fun z => ?_), d, q⟩
    rw [z, ha] at e
    cases e
    cases (show Data.seq vs.toArray _ = Data.dict es ep from d)
  have kb : K.In (hidT s₁.heap H) := fun b o e => by
    refine hidT_get (inK b o e) ?_
    cases q : H b with
    | none => rfl
    | some u =>
      obtain ⟨z, _⟩ := one b u q
      rw [z] at q e
      rw [off u q] at e
      cases e
  obtain ⟨mc, c1, c2⟩ := hlim
  have md : Mod K mg (hidT s₁.heap H) := ⟨kb, ns_keep hns, ⟨mb, ns_keep hb, hbb⟩, ⟨mc, ns_keep c1, c2⟩⟩
  have e0 : Env0 P w K mg (hidT s₁.heap H) callerA [] s₁ H :=
    ⟨rfl, md, fun _ _ e => of_hidT e, Nat.le_of_eq (hidT_size _ _), trivial, (fun b hm => absurd (show b ∈ ([] : List Addr) from hm) List.not_mem_nil), hok, .of_eq hg⟩
  refine codeAny_mono ((F _ kb (ns_keep hns)).go callerA [] s₁ H ⟨[.ref a], []⟩ [.ref a] [.ref a] _ _ hr rfl e0 (hbind s₁ (.ref a)) (.cons rfl .nil) hS) fun r s' h => ?_
  match r, h with
  | .error e, h => exact False.elim h
  | .ok .next, h => exact False.elim h
  | .ok .brk, h => exact False.elim h
  | .ok .cont, h => exact False.elim h
  | .ok (.ret u), ⟨v, H', os, bare, un, hok', rv, q⟩ =>
    cases (show v = V.bl true from q)
    cases (show u = Value.bool true from rv)
    refine ⟨rfl, OldK.of_keep fun b o e => ?_, os, bare⟩
    cases q : H b with
    | none => exact un.keep b o e q (fun z => absurd (show b ∈ ([] : List Addr) from z) List.not_mem_nil) (fun z => absurd (show b ∈ ([] : List Addr) from z) List.not_mem_nil)
    | some u =>
      obtain ⟨_, ob, xs, z⟩ := one b u q
      subst z
      obtain ⟨g1, _⟩ := hok b _ q
      obtain ⟨g2, _⟩ := hok' b _ (un.frzs b ob _ q)
      rw [e] at g1
      cases g1
      exact g2

theorem law_run (inK : K.In s₁.heap) (hns : s₁.heap.Ns mainGlobals mg) (hb : s₁.heap.Ns builtinsNs mb) (hbb : ∀ y : Str, y ≠ "__name__" → mb y = bootBuiltins y) (hlim : s₁.heap.NoLimit) (hg : s₁.gens = #[])
    (ha : s₁.heap.get? a = some { cls := .type "list", data := .seq vs.toArray }) (hi : IntsAre vs ns) (hl : ns.length ≤ sizeLine) (hr : Room k callerA)
    (F : ∀ base : Heap, K.In base → base.Ns mainGlobals mg → FnG P w K mg base k fa fd [x] sp) (hbind : ∀ (s : Shared) (u : Value), BindsTo s fd ⟨[u], []⟩ [(x, u)])
    (hsp : ∀ H : Hp, SqL K H a (ns.map V.int) → sp [.ref a] H (fun v _ => v = .bl true) E0) :
    codeAny (model P w) callerA (.call (.ref fa) ⟨[.ref a], []⟩) (fun r s' => r = .ok (.ret (.bool true)) ∧ OldK s₁.heap s'.heap ∧ s'.os = s₁.os ∧ AllBare s'.gens) s₁ := by
  have rv := vals_ints hi
  have hl2 : (ns.map V.int).length ≤ sizeLine := by rw [List.length_map]; exact hl
  have hl3 : vs.length ≤ sizeLine := by rw [← rv.length]; exact hl2
  cases hk : K.lookup a with
  | none =>
    refine law_from (hpOf a { cls := .type "list", data := .seq vs.toArray } (ns.map V.int)) inK hns hb hbb hlim hg ha hr F hbind (hsp _ (.inl (.inr ⟨_, hpOf_at⟩))) (fun b u e => ?_) (fun b u e => ?_) fun _ _ => hk
    · obtain ⟨rfl, rfl⟩ := hpOf_some e
      exact ⟨ha, hl2, vs, _, rv, ha⟩
    · obtain ⟨z, q⟩ := hpOf_some e
      exact ⟨z, _, _, q⟩
  | some o =>
    have e := inK a o hk
    rw [ha] at e
    cases e
    exact law_from (fun _ => none) inK hns hb hbb hlim hg ha hr F hbind (hsp _ (.inr ⟨_, vs.toArray, _, hk, rfl, rfl, rfl, by rw [List.size_toArray]; exact hl3, by simpa using rv⟩)) (fun _ u e => absurd (show (none : Option HO) = some u from e) (by simp)) (fun _ u e => absurd (show (none : Option HO) = some u from e) (by simp)) fun u e => absurd (show (none : Option HO) = some u from e) (by simp)
end

/-- the law's row from the law's promise -/
theorem walkG {l : PySem.W.OpenLaw} {n k : Nat} {q : Program} {loose : List Str} {XP : (Str → Option Value) → Heap → Prop} {YP : World → Heap → Prop} {d : DefRec} {K : Params → PySem.W.Frag} {sp : PySem.W.Frag → Sp} {x : Str}
    (hn : l.most = some n) (hn2 : n ≤ sizeLine) (hdf : d.params.defaults = []) (hr : Room k callerA)
    (hY : ∀ (w : World) (h : Heap), YP w h → (K w.params).In h)
    (F : ∀ (w : World) (mg : Str → Option Value) (fa : Addr) (h : Heap), (K w.params).In h → h.Ns mainGlobals mg → mg d.name = some (.ref fa) →
      ∃ fd : FuncData, (∀ (s : Shared) (u : Value), BindsTo s fd ⟨[u], []⟩ [(x, u)]) ∧
        ∀ base : Heap, (K w.params).In base → base.Ns mainGlobals mg → FnG l.prog w (K w.params) mg base k fa fd [x] (sp (K w.params)))
    (hsp : ∀ (K : PySem.W.Frag) (H : Hp) (a : Addr) (ns : List Int), ns.length ≤ n → SqL K H a (ns.map V.int) → sp K [.ref a] H (fun v _ => v = .bl true) E0) :
    PySem.W.WalkO q loose XP YP l.row.toRowW d [] (fun f vs => PySem.call f vs) := by
  refine Att.attach_call hn hdf fun w s₀ s₁ mg mb fa o pm cd doc a vs ns G Y ho hd hcd hmg hobj hints hlen hg => ?_
  have inK := hY w _ Y
  obtain ⟨fd, hb, hF⟩ := F w mg fa _ inK G.T.g hmg
  exact law_run inK G.T.g G.T.b G.T.builtins G.T.nolimit hg hobj hints (Nat.le_trans hlen hn2) hr hF hb fun H hS => hsp (K w.params) H a ns hlen hS
end Cs

set_option maxRecDepth 100000
set_option maxHeartbeats 4000000
namespace Cs
open PySem PySem.Spec PyProof.Rows L2

/-! ### a def that stands in the text and keeps a promise -/
def At (K : PySem.W.Frag) (mg : Str → Option Value) (x : Str) (st : Stmt) : Prop := ∃ (f : Addr) (fd : FuncData), mg x = some (.ref f) ∧ Fun K x x st f fd
def Df (P : Program) (w : World) (K : PySem.W.Frag) (mg : Str → Option Value) (base : Heap) (k : Nat) (x : Str) (ps : List Str) (sp : Sp) : Prop :=
  ∃ (f : Addr) (fd : FuncData), mg x = some (.ref f) ∧ PySem.W.keepIn K (.ref f) = true ∧ Binds K fd ps [] ∧ FnG P w K mg base k f fd ps sp
section
variable {P : Program} {w : World} {K : PySem.W.Frag} {mg : Str → Option Value} {base : Heap}
theorem Df.of {x : Str} {st : Stmt} {N ps : List Str} {k : Nat} {sp : Sp} (A : At K mg x st)
    (bd : ∀ (kV doc pm : Value) (an : Option Addr) (cdv ct : Value) (us : List Value), us.length = ps.length → bindArgs (PySem.W.fnOf x x (defArgs st) (defBody st) (defScope st) .none kV doc pm an cdv ct) ⟨us, []⟩ = pure (ps.zip us))
    (S : FnScope N ps (defScope st)) (len : ∀ vs H Q E, sp vs H Q E → vs.length = ps.length)
    (body : ∀ (cdv : Value) (A : Around) (out : List Env) (f : Addr) (s : Shared) (H : Hp) (vs : List V) (Q : VK) (E : XK), Room k (A.deeper (envOfC x (defScope st) s.heap.objs.size f cdv)) → A.guards = some [] → sp vs H Q E →
      ∃ t, PSs (cxG P w K mg base N x (defScope st) f cdv A out s H E) (defBody st) t ∧ t { nx := fun _ H' => Q .non H', rt := Q } (start N vs) H) :
    Df P w K mg base (k + 1) x ps sp := by
  obtain ⟨f, fd, m, F⟩ := A
  exact ⟨f, fd, m, F.kp, F.binds bd, FnG.of F S len fun cdv A out s H vs Q E hr hg h => body cdv A out f s H vs Q E hr hg h⟩
end
section
variable {X : Cx} {k : Nat} {ps : List Str} {sp : Sp} {x : Str} {p pos : Pos} {e : Expr} {es : List Expr} {t : TA}
theorem pe_df (D : Df X.prog X.w X.K X.mg X.base k x ps sp) (hr : Room k X.A) (hgd : X.A.guards = some []) (hg : Gl X x)
    (ha : PA X (e :: es) t) (hdb : (x == ("__debug__" : Str)) = false := by decide) (he : starEach (e :: es) X.env = (false, eval e X.env) :: starEach es X.env := by rfl) (hpl : (backTo pos (starEach es X.env)).any (·.1) = false := by rfl) :
    PE X (.Call (.Name x p) (e :: es) [] pos) (tFn sp t) := by
  obtain ⟨f, fd, m, kp, b, G⟩ := D
  exact pe_fn G hr hgd hg m kp b ha hdb he hpl
theorem pe_df0 (D : Df X.prog X.w X.K X.mg X.base k x ps sp) (hr : Room k X.A) (hgd : X.A.guards = some []) (hg : Gl X x) (hdb : (x == ("__debug__" : Str)) = false := by decide) :
    PE X (.Call (.Name x p) [] [] pos) (tFn sp tNil) := by
  obtain ⟨f, fd, m, kp, b, G⟩ := D
  exact pe_fn0 G hr hgd hg m kp b hdb
end

/-! ### heaps -/
/-- all but t is as it was -/
def Al (t : Addr) (H H' : Hp) : Prop := ∀ b, b ≠ t → H' b = H b
/-- all that was tracked, but t, is as it was -/
def Gr (t : Addr) (H H' : Hp) : Prop := ∀ b o, H b = some o → b ≠ t → H' b = some o
theorem Al.gr {t : Addr} {H H' : Hp} (a : Al t H H') : Gr t H H' := fun b o e n => by rw [a b n]; exact e
theorem Al.upd {t : Addr} {H : Hp} {o : HO} : Al t H (upd H t o) := fun b n => upd_ne n
theorem Al.trans {t : Addr} {H H1 H2 : Hp} (a : Al t H H1) (b : Al t H1 H2) : Al t H H2 := fun c n => (b c n).trans (a c n)
theorem Al.free {t b : Addr} {H H' : Hp} (a : Al t H H') (n : b ≠ t) (h : H' b = none) : H b = none := by rw [← a b n]; exact h
theorem Gr.refl (t : Addr) (H : Hp) : Gr t H H := fun _ _ e _ => e
theorem Gr.trans {t : Addr} {H H1 H2 : Hp} (a : Gr t H H1) (b : Gr t H1 H2) : Gr t H H2 := fun c o e n => b c o (a c o e n) n
theorem Gr.of {t : Addr} {H H' : Hp} (a : Same H H') : Gr t H H' := fun b o e _ => a b o e
theorem Gr.free {t b : Addr} {H H' : Hp} (a : Gr t H H') (n : b ≠ t) (h : H' b = none) : H b = none := by
  cases e : H b with
  | none => rfl
  | some o =>
    rw [a b o e n] at h
    cases h
theorem Same.new {p : Addr} {H : Hp} {o : HO} (h : H p = none) : Same H (upd H p o) := fun b u e => by rw [upd_ne (ne_of_none e h)]; exact e
theorem Gr.new {t p : Addr} {H : Hp} {o : HO} (h : H p = none) : Gr t H (upd H p o) := Gr.of (Same.new h)

/-- things that never change are as they were -/
structure Im (H H' : Hp) : Prop where
  tup : ∀ b xs, H b = some (.tup xs) → H' b = some (.tup xs)
  frz : ∀ b o u, H b = some (.frz o u) → H' b = some (.frz o u)
theorem Im.refl (H : Hp) : Im H H := ⟨fun _ _ e => e, fun _ _ _ e => e⟩
theorem Im.trans {H H1 H2 : Hp} (a : Im H H1) (b : Im H1 H2) : Im H H2 := ⟨fun c xs e => b.tup c xs (a.tup c xs e), fun c o u e => b.frz c o u (a.frz c o u e)⟩
theorem Im.same {H H' : Hp} (a : Same H H') : Im H H' := ⟨fun b _ e => a b _ e, fun b _ _ e => a b _ e⟩
theorem Im.new {p : Addr} {H : Hp} {o : HO} (h : H p = none) : Im H (upd H p o) := Im.same (Same.new h)
theorem Im.gr {t : Addr} {H H' : Hp} {xs : List V} (a : Gr t H H') (h : H t = some (.lst xs)) : Im H H' :=
  ⟨fun b ys e => a b _ e fun z => (by subst z; rw [h] at e; cases e), fun b o u e => a b _ e fun z => (by subst z; rw [h] at e; cases e)⟩
theorem Im.set {t : Addr} {H : Hp} {xs : List V} {o : HO} (h : H t = some (.lst xs)) : Im H (upd H t o) := Im.gr (Al.upd.gr) h
theorem Im.sqT {K : PySem.W.Frag} {H H' : Hp} {a : Addr} {xs : List V} (e : Im H H') (h : SqT K H a xs) : SqT K H' a xs := by
  rcases h with (h | ⟨o, h⟩) | h
  · exact .inl (.inl (e.tup _ _ h))
  · exact .inl (.inr ⟨o, e.frz _ _ _ h⟩)
  · exact .inr h

/-! ### the tape -/
structure TapeAt (H : Hp) (t l : Addr) : Prop where
  ex : ∃ (ns : List Int) (p r s : Int), H t = some (.lst [.ref l, .int p, .int r, .int s]) ∧ H l = some (.lst (ns.map V.int)) ∧ 0 ≤ p ∧ 0 ≤ r ∧ 0 ≤ s
  ne : l ≠ t
theorem TapeAt.list {H : Hp} {t l : Addr} (T : TapeAt H t l) : ∃ xs, H t = some (.lst xs) := let ⟨_, _, _, _, h, _⟩ := T.ex; ⟨_, h⟩
theorem TapeAt.list' {H : Hp} {t l : Addr} (T : TapeAt H t l) : ∃ xs, H l = some (.lst xs) := let ⟨_, _, _, _, _, h, _⟩ := T.ex; ⟨_, h⟩
theorem TapeAt.same {H H' : Hp} {t l : Addr} (T : TapeAt H t l) (e : Same H H') : TapeAt H' t l := let ⟨ns, p, r, s, h1, h2, q⟩ := T.ex; ⟨⟨ns, p, r, s, e _ _ h1, e _ _ h2, q⟩, T.ne⟩
theorem TapeAt.new {H : Hp} {t l b : Addr} {o : HO} (T : TapeAt H t l) (h : H b = none) : TapeAt (upd H b o) t l := T.same (Same.new h)
theorem TapeAt.upd {H : Hp} {t l b : Addr} {o : HO} (T : TapeAt H t l) (n1 : b ≠ t) (n2 : b ≠ l) : TapeAt (upd H b o) t l :=
  let ⟨ns, p, r, s, h1, h2, q⟩ := T.ex; ⟨⟨ns, p, r, s, by rw [upd_ne n1.symm]; exact h1, by rw [upd_ne n2.symm]; exact h2, q⟩, T.ne⟩
theorem TapeAt.ne_t {H : Hp} {t l b : Addr} (T : TapeAt H t l) (h : H b = none) : b ≠ t := let ⟨_, e⟩ := T.list; (ne_of_none e h).symm
theorem TapeAt.ne_l {H : Hp} {t l b : Addr} (T : TapeAt H t l) (h : H b = none) : b ≠ l := let ⟨_, e⟩ := T.list'; (ne_of_none e h).symm
theorem TapeAt.im {H H' : Hp} {t l : Addr} (T : TapeAt H t l) (g : Gr t H H') : Im H H' := let ⟨_, e⟩ := T.list; Im.gr g e

/-- the law's own two: a tape is made; a number is drawn -/
def sp_law_tape (K : PySem.W.Frag) : Sp := fun vs H Q _ => ∃ (a : Addr) (ns : List Int), vs = [.ref a] ∧ SqL K H a (ns.map V.int) ∧ ns.length ≤ 63 ∧ ∀ t l H', Same H H' → TapeAt H' t l → H t = none → H l = none → Q (.ref t) H'
def sp_law_draw (K : PySem.W.Frag) : Sp := fun vs H Q _ => ∃ (t l : Addr) (m : Int), vs = [.ref t, .int m] ∧ TapeAt H t l ∧ m ≤ 1000000000 ∧ ∀ v H', TapeAt H' t l → Al t H H' → 0 ≤ v → v < max m 1 → Q (.int v) H'
end Cs

set_option maxRecDepth 100000
set_option maxHeartbeats 4000000
namespace Cs
open PySem PySem.Spec PyProof.Rows L2
/-! ### tests -/
section
variable {A B c : Prop}
theorem if_dec [Decidable c] (h1 : c → A) (h2 : ¬ c → B) : if decide c = true then A else B := by
  by_cases h : c
  · rw [decide_eq_true h, if_pos rfl]; exact h1 h
  · rw [decide_eq_false h, if_neg Bool.false_ne_true]; exact h2 h
theorem if_ndec [Decidable c] (h1 : ¬ c → A) (h2 : c → B) : if (!decide c) = true then A else B := by
  by_cases h : c
  · rw [decide_eq_true h]; exact h2 h
  · rw [decide_eq_false h]; exact h1 h
theorem if_int {i j : Int} (h1 : i = j → A) (h2 : ¬ i = j → B) : if decide (V.int i = V.int j) = true then A else B :=
  if_dec (fun h => h1 (V.int.inj h)) fun h => h2 fun e => h (by rw [e])
theorem if_nint {i j : Int} (h1 : ¬ i = j → A) (h2 : i = j → B) : if (!decide (V.int i = V.int j)) = true then A else B :=
  if_ndec (fun h => h1 fun e => h (by rw [e])) fun h => h2 (V.int.inj h)
theorem if_str {i j : Str} (h1 : i = j → A) (h2 : ¬ i = j → B) : if decide (V.str i = V.str j) = true then A else B :=
  if_dec (fun h => h1 (V.str.inj h)) fun h => h2 fun e => h (by rw [e])
theorem if_nstr {i j : Str} (h1 : ¬ i = j → A) (h2 : i = j → B) : if (!decide (V.str i = V.str j)) = true then A else B :=
  if_ndec (fun h => h1 fun e => h (by rw [e])) fun h => h2 (V.str.inj h)
theorem if_bool {b : Bool} (h1 : b = true → A) (h2 : b = false → B) : if b = true then A else B := by
  cases b with
  | true => exact h1 rfl
  | false => exact h2 rfl
theorem if_nbool {b : Bool} (h1 : b = false → A) (h2 : b = true → B) : if (!b) = true then A else B := by
  cases b with
  | true => exact h2 rfl
  | false => exact h1 rfl
end
theorem int_at {ns : List Int} {i : Nat} {y : V} (h : (ns.map V.int)[i]? = some y) : ∃ n, y = V.int n := by
  rw [List.getElem?_map] at h
  cases e : ns[i]? with
  | none => rw [e] at h; cases h
  | some z => rw [e] at h; exact ⟨z, (Option.some.inj h).symm⟩
theorem at_int {ns : List Int} {i : Int} (h0 : 0 ≤ i) (h : i < ns.length) : ∃ n, atI (ns.map V.int) i = some (V.int n) := by
  obtain ⟨j, rfl⟩ : ∃ j : Nat, i = (j : Int) := ⟨i.toNat, by omega⟩
  have hj : j < ns.length := by omega
  exact ⟨ns[j], atI_nat (by rw [List.getElem?_map, List.getElem?_eq_getElem hj]; rfl)⟩
theorem max_one (m : Int) : (if (1 : Int) > m then (1 : Int) else m) = max m 1 := by
  by_cases h : (1 : Int) > m
  · rw [if_pos h]; omega
  · rw [if_neg h]; omega
end Cs
namespace Cs
open PySem PySem.Spec PyProof.Rows L2
theorem set3 {α : Type} (σ : List α) (s : Nat) (a b c : α) : (((σ.set s a).set s b).set s c) = σ.set s c := by
  rw [List.set_set, List.set_set]
theorem get_snoc {ys : List V} {v u : V} {j : Nat} (e : (ys ++ [v])[j]? = some u) : (j < ys.length ∧ ys[j]? = some u) ∨ (j = ys.length ∧ u = v) := by
  by_cases h : j < ys.length
  · rw [List.getElem?_append_left h] at e
    exact .inl ⟨h, e⟩
  · rw [List.getElem?_append_right (by omega)] at e
    have q : j - ys.length = 0 := by
      by_cases z : j - ys.length = 0
      · exact z
      · rw [List.getElem?_eq_none (by show 1 ≤ _; omega)] at e
        cases e
    rw [q] at e
    exact .inr ⟨by omega, (Option.some.inj e).symm⟩
section
variable {K : PySem.W.Frag} {a : Addr} {xs : List V} {te : TE} {s : Nat} {σ : L2.St} {H1 : Hp} {D : Addr} {Qd : Hp → Prop}
/-- what holds of a comprehension's list under way: its items so far are as P says -/
def CompSo (P : Nat → V → Hp → Prop) (H1 : Hp) (D : Addr) (i : Nat) (H : Hp) : Prop := Same H1 H ∧ ∃ ys, H D = some (.lst ys) ∧ ys.length = i ∧ ∀ j v, ys[j]? = some v → P j v H
theorem comp_turn {P : Nat → V → Hp → Prop} {i n : Nat} {x : V} {H : Hp} (mono : ∀ i v H H', P i v H → Im H H' → P i v H') (hz : n ≤ sizeLine) (fresh : H1 D = none) (hi : i < n) (so : CompSo P H1 D i H)
    (elt : ∀ H, Same H1 H → ∀ Q' : VK, (∀ v H', Same H H' → P i v H' → Q' v H') → te ((σ.set s none).set s (some x)) H Q') :
    gName s x (wipe σ [s]) H fun σ2 H2 => wipe σ2 [s] = wipe σ [s] ∧ tYes σ2 H2 fun b H3 =>
      if b = true then te σ2 H3 fun y H4 => ∃ acc, H4 D = some (.lst acc) ∧ acc.length < sizeLine ∧ CompSo P H1 D (i + 1) (upd H4 D (.lst (acc ++ [y]))) else CompSo P H1 D (i + 1) H3 := by
  obtain ⟨sm, ys, hD, hlen, hP⟩ := so
  refine ⟨set3 σ s none (some x) none, ?_⟩
  unfold tYes
  dsimp only
  rw [if_pos rfl]
  refine elt H sm _ fun v H' sm' pv => ?_
  have hD' := sm' _ _ hD
  have im2 : Im H' (upd H' D (.lst (ys ++ [v]))) := Im.set hD'
  refine ⟨ys, hD', by omega, fun b o e => by rw [upd_ne (ne_of_none e fresh)]; exact sm' _ _ (sm _ _ e), ys ++ [v], upd_same, by rw [List.length_append, hlen]; rfl, fun j u e => ?_⟩
  rcases get_snoc e with ⟨_, e⟩ | ⟨rfl, rfl⟩
  · exact mono _ _ _ _ (hP j u e) ((Im.same sm').trans im2)
  · rw [hlen]
    exact mono _ _ _ _ pv im2
theorem comp_start {P : Nat → V → Hp → Prop} (fresh : H1 D = none) : CompSo P H1 D 0 (upd H1 D (.lst [])) := ⟨Same.new fresh, [], upd_same, rfl, fun j v e => by simp at e⟩
/-- a comprehension over a list, no test: each element of the new list is what P says; nothing that was tracked changes -/
theorem comp_list (P : Nat → V → Hp → Prop) (mono : ∀ i v H H', P i v H → Im H H' → P i v H') (hl : SqL K H1 a xs) (hz : xs.length ≤ sizeLine) (fresh : H1 D = none)
    (elt : ∀ i x, xs[i]? = some x → ∀ H, Same H1 H → ∀ Q' : VK, (∀ v H', Same H H' → P i v H' → Q' v H') → te ((σ.set s none).set s (some x)) H Q')
    (hd : ∀ H ys, Same H1 H → H D = some (.lst ys) → ys.length = xs.length → (∀ i v, ys[i]? = some v → P i v H) → Qd H) :
    ∃ W : Nat → Nat → Hp → Prop, (∃ m, W 0 m (upd H1 D (.lst []))) ∧ ∀ i m H, W i m H →
      ((Itl K a).stop i H ∧ Qd H) ∨ ((Itl K a).go i H ∧ ∃ Nx : Hp → Prop, (∀ H', Nx H' → ∃ m', m' < m ∧ W (i + 1) m' H') ∧ ∀ x H', (Itl K a).yld i H x H' → gName s x (wipe σ [s]) H' fun σ2 H2 => wipe σ2 [s] = wipe σ [s] ∧ tYes σ2 H2 fun b H3 =>
        if b = true then te σ2 H3 fun y H4 => ∃ acc, H4 D = some (.lst acc) ∧ acc.length < sizeLine ∧ Nx (upd H4 D (.lst (acc ++ [y]))) else Nx H3) :=
  lc_list (K := K) (a := a) (xs := xs) (CompSo P H1 D) (comp_start fresh) (fun i H _ h => h.1.seq hl)
    (fun i x H hx so => comp_turn mono hz fresh (List.getElem?_eq_some_iff.mp hx).1 so (elt i x hx)) fun H ⟨sm, ys, hD, hlen, hP⟩ => hd H ys sm hD hlen hP
theorem comp_tup (P : Nat → V → Hp → Prop) (mono : ∀ i v H H', P i v H → Im H H' → P i v H') (hl : SqT K H1 a xs) (hz : xs.length ≤ sizeLine) (fresh : H1 D = none)
    (elt : ∀ i x, xs[i]? = some x → ∀ H, Same H1 H → ∀ Q' : VK, (∀ v H', Same H H' → P i v H' → Q' v H') → te ((σ.set s none).set s (some x)) H Q')
    (hd : ∀ H ys, Same H1 H → H D = some (.lst ys) → ys.length = xs.length → (∀ i v, ys[i]? = some v → P i v H) → Qd H) :
    ∃ W : Nat → Nat → Hp → Prop, (∃ m, W 0 m (upd H1 D (.lst []))) ∧ ∀ i m H, W i m H →
      ((Itt K a).stop i H ∧ Qd H) ∨ ((Itt K a).go i H ∧ ∃ Nx : Hp → Prop, (∀ H', Nx H' → ∃ m', m' < m ∧ W (i + 1) m' H') ∧ ∀ x H', (Itt K a).yld i H x H' → gName s x (wipe σ [s]) H' fun σ2 H2 => wipe σ2 [s] = wipe σ [s] ∧ tYes σ2 H2 fun b H3 =>
        if b = true then te σ2 H3 fun y H4 => ∃ acc, H4 D = some (.lst acc) ∧ acc.length < sizeLine ∧ Nx (upd H4 D (.lst (acc ++ [y]))) else Nx H3) :=
  lc_tup (K := K) (a := a) (xs := xs) (CompSo P H1 D) (comp_start fresh) (fun i H _ h => (Im.same h.1).sqT hl)
    (fun i x H hx so => comp_turn mono hz fresh (List.getElem?_eq_some_iff.mp hx).1 so (elt i x hx)) fun H ⟨sm, ys, hD, hlen, hP⟩ => hd H ys sm hD hlen hP
end
end Cs

namespace Cs
open PySem PySem.Spec PyProof.Rows L2
theorem eq_map {α : Type} {ys : List V} {rs : List α} {f : α → V} (h1 : ys.length = rs.length) (h2 : ∀ (i : Nat) v, ys[i]? = some v → ∃ r, rs[i]? = some r ∧ v = f r) : ys = rs.map f := by
  refine List.ext_getElem? fun i => ?_
  rw [List.getElem?_map]
  cases e : ys[i]? with
  | none =>
    have : rs[i]? = none := List.getElem?_eq_none_iff.mpr (by have := List.getElem?_eq_none_iff.mp e; omega)
    rw [this]; rfl
  | some v =>
    obtain ⟨r, hr, rfl⟩ := h2 i v e
    rw [hr]; rfl
theorem get_len {α β : Type} {xs : List α} {rs : List β} (h : xs.length = rs.length) {i : Nat} {x : α} (e : xs[i]? = some x) : ∃ r, rs[i]? = some r := by
  have hi := (List.getElem?_eq_some_iff.mp e).1
  exact ⟨rs[i]'(by omega), List.getElem?_eq_getElem (by omega)⟩
section
variable {K : PySem.W.Frag} {a : Addr} {xs : List V} {te : TE} {s : Nat} {σ : L2.St} {H1 : Hp} {D : Addr} {Qd : Hp → Prop} {α : Type}
/-- .. where each element is a value that hangs on the datum alone -/
theorem map_list (rs : List α) (f : α → V) (hl : SqL K H1 a xs) (hz : xs.length ≤ sizeLine) (hlen : xs.length = rs.length) (fresh : H1 D = none)
    (elt : ∀ (i : Nat) x r, xs[i]? = some x → rs[i]? = some r → ∀ H, Same H1 H → ∀ Q' : VK, (∀ H', Same H H' → Q' (f r) H') → te ((σ.set s none).set s (some x)) H Q')
    (hd : ∀ H, Same H1 H → H D = some (.lst (rs.map f)) → Qd H) :
    ∃ W : Nat → Nat → Hp → Prop, (∃ m, W 0 m (upd H1 D (.lst []))) ∧ ∀ i m H, W i m H →
      ((Itl K a).stop i H ∧ Qd H) ∨ ((Itl K a).go i H ∧ ∃ Nx : Hp → Prop, (∀ H', Nx H' → ∃ m', m' < m ∧ W (i + 1) m' H') ∧ ∀ x H', (Itl K a).yld i H x H' → gName s x (wipe σ [s]) H' fun σ2 H2 => wipe σ2 [s] = wipe σ [s] ∧ tYes σ2 H2 fun b H3 =>
        if b = true then te σ2 H3 fun y H4 => ∃ acc, H4 D = some (.lst acc) ∧ acc.length < sizeLine ∧ Nx (upd H4 D (.lst (acc ++ [y]))) else Nx H3) :=
  comp_list (K := K) (a := a) (fun i v _ => ∃ r, rs[i]? = some r ∧ v = f r) (fun _ _ _ _ h _ => h) hl hz fresh
    (fun i x hx H sm Q' hQ => by
      obtain ⟨r, hr⟩ := get_len hlen hx
      exact elt i x r hx hr H sm Q' fun H' sm' => hQ _ H' sm' ⟨r, hr, rfl⟩)
    fun H ys sm hD hl2 hP => hd H sm (by rw [← eq_map (hl2.trans hlen) hP]; exact hD)
theorem map_tup (rs : List α) (f : α → V) (hl : SqT K H1 a xs) (hz : xs.length ≤ sizeLine) (hlen : xs.length = rs.length) (fresh : H1 D = none)
    (elt : ∀ (i : Nat) x r, xs[i]? = some x → rs[i]? = some r → ∀ H, Same H1 H → ∀ Q' : VK, (∀ H', Same H H' → Q' (f r) H') → te ((σ.set s none).set s (some x)) H Q')
    (hd : ∀ H, Same H1 H → H D = some (.lst (rs.map f)) → Qd H) :
    ∃ W : Nat → Nat → Hp → Prop, (∃ m, W 0 m (upd H1 D (.lst []))) ∧ ∀ i m H, W i m H →
      ((Itt K a).stop i H ∧ Qd H) ∨ ((Itt K a).go i H ∧ ∃ Nx : Hp → Prop, (∀ H', Nx H' → ∃ m', m' < m ∧ W (i + 1) m' H') ∧ ∀ x H', (Itt K a).yld i H x H' → gName s x (wipe σ [s]) H' fun σ2 H2 => wipe σ2 [s] = wipe σ [s] ∧ tYes σ2 H2 fun b H3 =>
        if b = true then te σ2 H3 fun y H4 => ∃ acc, H4 D = some (.lst acc) ∧ acc.length < sizeLine ∧ Nx (upd H4 D (.lst (acc ++ [y]))) else Nx H3) :=
  comp_tup (K := K) (a := a) (fun i v _ => ∃ r, rs[i]? = some r ∧ v = f r) (fun _ _ _ _ h _ => h) hl hz fresh
    (fun i x hx H sm Q' hQ => by
      obtain ⟨r, hr⟩ := get_len hlen hx
      exact elt i x r hx hr H sm Q' fun H' sm' => hQ _ H' sm' ⟨r, hr, rfl⟩)
    fun H ys sm hD hl2 hP => hd H sm (by rw [← eq_map (hl2.trans hlen) hP]; exact hD)
end
/-! ### rectangles -/
structure R where
  l : Int
  t : Int
  w : Int
  h : Int
  deriving DecidableEq
def R.vs (r : R) : List V := [.int r.l, .int r.t, .int r.w, .int r.h]
def R.es (r : R) : List V := [.int r.l, .int r.t, .int (r.l + r.w), .int (r.t + r.h)]
/-- v is the rectangle r -/
def Rc (K : PySem.W.Frag) (H : Hp) (v : V) (r : R) : Prop := ∃ a, v = .ref a ∧ SqT K H a r.vs
theorem Rc.im {K : PySem.W.Frag} {H H' : Hp} {v : V} {r : R} (h : Rc K H v r) (e : Im H H') : Rc K H' v r := let ⟨a, h1, h2⟩ := h; ⟨a, h1, e.sqT h2⟩
theorem Rc.same {K : PySem.W.Frag} {H H' : Hp} {v : V} {r : R} (h : Rc K H v r) (e : Same H H') : Rc K H' v r := h.im (Im.same e)
/-- xs are the rectangles rs -/
structure Rcs (K : PySem.W.Frag) (H : Hp) (xs : List V) (rs : List R) : Prop where
  len : xs.length = rs.length
  at_ : ∀ (i : Nat) (x : V) (r : R), xs[i]? = some x → rs[i]? = some r → Rc K H x r
theorem Rcs.im {K : PySem.W.Frag} {H H' : Hp} {xs : List V} {rs : List R} (h : Rcs K H xs rs) (e : Im H H') : Rcs K H' xs rs := ⟨h.len, fun i x r h1 h2 => (h.at_ i x r h1 h2).im e⟩
theorem Rcs.nil {K : PySem.W.Frag} {H : Hp} : Rcs K H [] [] := ⟨rfl, fun i x r h => by simp at h⟩
theorem Rcs.snoc {K : PySem.W.Frag} {H : Hp} {xs : List V} {rs : List R} {x : V} {r : R} (h : Rcs K H xs rs) (q : Rc K H x r) : Rcs K H (xs ++ [x]) (rs ++ [r]) := by
  refine ⟨by rw [List.length_append, List.length_append, h.len]; rfl, fun i y s h1 h2 => ?_⟩
  rcases get_snoc h1 with ⟨hi, h1⟩ | ⟨rfl, rfl⟩
  · rw [List.getElem?_append_left (by rw [← h.len]; exact hi)] at h2
    exact h.at_ i y s h1 h2
  · rw [h.len, List.getElem?_append_right (Nat.le_refl _), Nat.sub_self] at h2
    cases (Option.some.inj h2)
    exact q
theorem Rcs.take {K : PySem.W.Frag} {H : Hp} {xs : List V} {rs : List R} (h : Rcs K H xs rs) (n : Nat) : Rcs K H (xs.take n) (rs.take n) := by
  refine ⟨by rw [List.length_take, List.length_take, h.len], fun i y s h1 h2 => ?_⟩
  rw [List.getElem?_take] at h1 h2
  split at h1
  · rw [if_pos (by assumption)] at h2
    exact h.at_ i y s h1 h2
  · cases h1
theorem Rcs.drop {K : PySem.W.Frag} {H : Hp} {xs : List V} {rs : List R} (h : Rcs K H xs rs) (n : Nat) : Rcs K H (xs.drop n) (rs.drop n) := by
  refine ⟨by rw [List.length_drop, List.length_drop, h.len], fun i y s h1 h2 => ?_⟩
  rw [List.getElem?_drop] at h1 h2
  exact h.at_ _ y s h1 h2
theorem Rcs.reverse {K : PySem.W.Frag} {H : Hp} {xs : List V} {rs : List R} (h : Rcs K H xs rs) : Rcs K H xs.reverse rs.reverse := by
  refine ⟨by rw [List.length_reverse, List.length_reverse, h.len], fun i y s h1 h2 => ?_⟩
  have hi : i < xs.length := by have := (List.getElem?_eq_some_iff.mp h1).1; rw [List.length_reverse] at this; exact this
  rw [List.getElem?_reverse hi] at h1
  rw [List.getElem?_reverse (by rw [← h.len]; exact hi), ← h.len] at h2
  exact h.at_ _ y s h1 h2
end Cs

set_option maxRecDepth 100000
set_option maxHeartbeats 4000000
/-! rules with the written part named, so that they stand within comprehensions too -/
namespace Cs
open PySem PySem.Spec PyProof.Rows L2
section
variable {X : Cx} {a b e : Expr} {ta tb te : TE} {pos : Pos}
theorem ixL (K : PySem.W.Frag) (h : X.K = K := by rfl) : IxR X (rIxL K) := h ▸ ix_list
theorem ixT (K : PySem.W.Frag) (h : X.K = K := by rfl) : IxR X (rIxT K) := h ▸ ix_tup
theorem slL (K : PySem.W.Frag) (h : X.K = K := by rfl) : SlR X (rSlL K) := h ▸ sl_list
theorem slT (K : PySem.W.Frag) (h : X.K = K := by rfl) : SlR X (rSlA K) := h ▸ sl_tupA
theorem eqK (K : PySem.W.Frag) (hu : X.A.units + 64 < cLine) (h : X.K = K := by rfl) : OpR X (compareOp .Eq) (rEqD K) := h ▸ op_eqD hu
theorem neK (K : PySem.W.Frag) (hu : X.A.units + 64 < cLine) (h : X.K = K := by rfl) : OpR X (compareOp .NotEq) (rNeD K) := h ▸ op_neD hu
theorem catT (K : PySem.W.Frag) (h : X.K = K := by rfl) : OpR X (binaryOp .Add) (rCatA K) := h ▸ op_catA
def rLen (K : PySem.W.Frag) : List V → Hp → VK → Prop := fun xs H Q => ∃ x n, xs = [x] ∧ LenV K x H n ∧ Q (.int n) H
theorem lenK (K : PySem.W.Frag) (h : X.K = K := by rfl) : CallR X (.builtin "len") (rLen K) := h ▸ call_len
def rListOf (K : PySem.W.Frag) : List V → Hp → VK → Prop := fun xs H Q => ∃ p ys, xs = [.ref p] ∧ (SqL K H p ys ∨ SqT K H p ys) ∧ ∀ l, H l = none → Q (.ref l) (upd H l (.lst ys))
theorem listK (K : PySem.W.Frag) (h : X.K = K := by rfl) : CallR X (.type "list") (rListOf K) := h ▸ call_list_of
def rTupOf (K : PySem.W.Frag) : List V → Hp → VK → Prop := fun xs H Q => ∃ p ys, xs = [.ref p] ∧ ((SqL K H p ys ∧ ∀ l, H l = none → Q (.ref l) (upd H l (.tup ys))) ∨ (SqT K H p ys ∧ Q (.ref p) H))
theorem tupK (K : PySem.W.Frag) (h : X.K = K := by rfl) : CallR X (.type "tuple") (rTupOf K) := h ▸ call_tuple_of
theorem reprK (K : PySem.W.Frag) (hu : X.A.units + 64 < cLine) (hg : X.A.guards = some []) (h : X.K = K := by rfl) : CallR X (.builtin "repr") (rRepr K) := h ▸ call_repr hu hg
theorem minK (K : PySem.W.Frag) (hc : X.calm = true) (h : X.K = K := by rfl) : CallR X (.builtin "min") (rMin K) := h ▸ cr_min hc
theorem maxK (K : PySem.W.Frag) (hc : X.calm = true) (h : X.K = K := by rfl) : CallR X (.builtin "max") (rMax K) := h ▸ cr_max hc
theorem sumK (K : PySem.W.Frag) (hc : X.calm = true) (h : X.K = K := by rfl) : CallR X (.builtin "sum") (rSum K) := h ▸ cr_sum hc
/-- a test by truth -/
def tTru (K : PySem.W.Frag) (ta : TE) : TT := fun σ H Q => ta σ H fun x H' => ∃ k, TruV K x H' k ∧ Q k H'
theorem truK (K : PySem.W.Frag) (ha : PE X a ta) (he : ∀ whole, isTrue a X.env whole = (do let v ← whole; standAt a.pos; holding [v] (truthy v)) := by intro _; rfl) (h : X.K = K := by rfl) : PT X a (tTru K ta) := h ▸ pt_truth ha he
end
theorem atI_mem {α : Type} {xs : List α} {v : Int} (h0 : 0 ≤ v) (h1 : v < xs.length) : ∃ z, atI xs v = some z ∧ xs[v.toNat]? = some z ∧ z ∈ xs := by
  obtain ⟨j, rfl⟩ : ∃ j : Nat, v = (j : Int) := ⟨v.toNat, by omega⟩
  have hj : j < xs.length := by omega
  have e : xs[j]? = some xs[j] := List.getElem?_eq_getElem hj
  exact ⟨xs[j], atI_nat e, by rw [Int.toNat_natCast]; exact e, List.getElem_mem hj⟩
/-! the slots as a written list -/
theorem gset {i : Nat} {v : V} {σ σ' : L2.St} {H : Hp} {Q : L2.St → Hp → Prop} (e : σ.set i (some v) = σ') (h : Q σ' H) : gName i v σ H Q := by
  subst e
  exact h
theorem set_0 {α : Type} {a b : α} {l : List α} : (a :: l).set 0 b = b :: l := rfl
theorem set_s {α : Type} {a b : α} {l l' : List α} {n : Nat} (h : l.set n b = l') : (a :: l).set (n + 1) b = a :: l' := by
  subst h
  rfl
def tPar2 (i j : Nat) (ta : TA) : TS := fun D σ H => ta σ H fun vs H1 => ∃ v w, vs = [v, w] ∧ gName i v σ H1 fun σ' H' => gName j w σ' H' D.nx
theorem par2 {X : Cx} {i j : Nat} {st : Stmt} {ta : TA} (h : PS X st (tPar i j ta)) : PS X st (tPar2 i j ta) := h
theorem at_start {N : List Str} {vs : List V} {σ : L2.St} {t : TS} {D : Ends} {H : Hp} (e : L2.start N vs = σ) (h : t D σ H) : t D (L2.start N vs) H := by
  subst e
  exact h
theorem rep_0 {α : Type} {a : α} : List.replicate 0 a = [] := rfl
theorem rep_s {α : Type} {a : α} {k : Nat} {l : List α} (h : List.replicate k a = l) : List.replicate (k + 1) a = a :: l := by
  subst h
  rfl
theorem app_nil {α : Type} {r l : List (Option α)} (h : r = l) : ([] : List α).map some ++ r = l := h
theorem app_cons {α : Type} {v : α} {vs : List α} {r l : List (Option α)} (h : vs.map some ++ r = l) : (v :: vs).map some ++ r = some v :: l := by
  subst h
  rfl
theorem st_of {N : List Str} {vs : List V} {k : Nat} {σ : L2.St} (h : N.length - vs.length = k) (e : vs.map some ++ List.replicate k none = σ) : L2.start N vs = σ := by
  subst h
  exact e
theorem cut_to {xs : List V} {k : Int} (h : 0 ≤ k) : cutV xs none (some k) = xs.take k.toNat := by
  obtain ⟨j, rfl⟩ : ∃ j : Nat, k = (j : Int) := ⟨k.toNat, by omega⟩
  unfold cutV
  rw [HT.sIx_none, HT.sIx_nat, List.drop_zero, Nat.sub_zero, Int.toNat_natCast]
  by_cases h : j ≤ xs.length
  · rw [Nat.min_eq_left h]
  · rw [Nat.min_eq_right (by omega), List.take_length, List.take_of_length_le (by omega)]
theorem cut_from {xs : List V} {k : Int} (h : 0 ≤ k) : cutV xs (some k) none = xs.drop k.toNat := by
  obtain ⟨j, rfl⟩ : ∃ j : Nat, k = (j : Int) := ⟨k.toNat, by omega⟩
  unfold cutV
  rw [HT.sIx_none, HT.sIx_nat, Int.toNat_natCast]
  by_cases h : j ≤ xs.length
  · rw [Nat.min_eq_left h, List.take_of_length_le (by rw [List.length_drop]; omega)]
  · rw [Nat.min_eq_right (by omega), List.drop_of_length_le (Nat.le_refl _), List.drop_of_length_le (by omega), List.take_nil]
theorem Al.at_ {t b : Addr} {H H' : Hp} {o : HO} (a : Al t H H') (n : b ≠ t) (h : H b = some o) : H' b = some o := by rw [a b n]; exact h
theorem Al.none_ {t b : Addr} {H H' : Hp} (a : Al t H H') (n : b ≠ t) (h : H b = none) : H' b = none := by rw [a b n]; exact h
end Cs

set_option maxRecDepth 100000
set_option maxHeartbeats 4000000
/-! how long the text of data may get -/
namespace Cs
open PySem PySem.Spec PyProof.Rows L2
def smallStr (x : Str) : Bool := x.cps.toList.all fun c => decide (c < 16 ^ 8)
theorem smallStr_all {x : Str} (h : smallStr x = true) : ∀ c ∈ x.cps.toList, c < 16 ^ 8 := fun c hc => of_decide_eq_true (List.all_eq_true.mp h c hc)
mutual
/-- no dicts, ints below 2 ^ 1920, texts of codes that can be shown -/
def plainD : PyData → Bool
  | .none => true
  | .bool _ => true
  | .int i => decide (i.natAbs.log2 < 1920)
  | .str x => smallStr x
  | .list xs => plainAll xs
  | .tuple xs => plainAll xs
  | .dict _ => false
def plainAll : List PyData → Bool
  | [] => true
  | x :: xs => plainD x && plainAll xs
end
mutual
def cost : PyData → Nat
  | .none => 4
  | .bool _ => 5
  | .int _ => 1921
  | .str x => 10 * x.length + 2
  | .list xs => costAll xs + 2
  | .tuple xs => costAll xs + 2
  | .dict _ => 0
def costAll : List PyData → Nat
  | [] => 0
  | x :: xs => cost x + 2 + costAll xs
end
theorem list_text (ts : List Str) : (listText ts).length ≤ piled ts + 2 := by
  cases ts with
  | nil => decide +kernel
  | cons t r =>
    have e1 : (listText (t :: r)).length = (textFrom 0 "[" (t :: r)).length + 1 := by
      show (textFrom 0 "[" (t :: r) ++ "]").length = _
      rw [strLen_append]; rfl
    have e2 : (textFrom 0 "[" (t :: r)).length = (textFrom 1 (("[" : Str) ++ (if (0 : Nat) > 0 then ", " else "" : String) ++ t) r).length := rfl
    have e3 : ((("[" : Str) ++ (if (0 : Nat) > 0 then ", " else "" : String) ++ t)).length = 1 + t.length := by
      rw [strLen_append, strLen_append]; rfl
    have h := textFrom_length_pos r 1 (("[" : Str) ++ (if (0 : Nat) > 0 then ", " else "" : String) ++ t) (Nat.succ_pos 0)
    rw [piled_cons]
    omega
mutual
theorem plain_shows : ∀ d : PyData, plainD d = true → d.showable = true ∧ d.hasDict = false ∧ d.shown.length ≤ cost d
  | .none, _ => ⟨by simp only [PyData.showable], by simp only [PyData.hasDict], by simp only [PyData.shown, cost]; decide +kernel⟩
  | .bool b, _ => ⟨by simp only [PyData.showable], by simp only [PyData.hasDict], by simp only [PyData.shown, cost]; cases b <;> decide +kernel⟩
  | .int i, h => by
    simp only [plainD] at h
    exact ⟨by simp only [PyData.showable]; exact h, by simp only [PyData.hasDict], by simp only [PyData.shown, cost]; exact int_text_len_1921 (of_decide_eq_true h)⟩
  | .str x, h => by
    simp only [plainD] at h
    exact ⟨by simp only [PyData.showable], by simp only [PyData.hasDict], by simp only [PyData.shown, cost]; exact StrLaws.reprText_len x (smallStr_all h)⟩
  | .list xs, h => by
    simp only [plainD] at h
    obtain ⟨h1, h2, h3⟩ := plain_showsAll xs h
    refine ⟨by simp only [PyData.showable]; exact h1, by simp only [PyData.hasDict]; exact h2, ?_⟩
    simp only [PyData.shown, cost]
    have := list_text (PyData.shownAll xs)
    omega
  | .tuple xs, h => by
    simp only [plainD] at h
    obtain ⟨h1, h2, h3⟩ := plain_showsAll xs h
    refine ⟨by simp only [PyData.showable]; exact h1, by simp only [PyData.hasDict]; exact h2, ?_⟩
    simp only [PyData.shown, cost]
    have := fmt_text (PyData.shownAll xs)
    omega
  | .dict _, h => by simp [plainD] at h
theorem plain_showsAll : ∀ xs : List PyData, plainAll xs = true → PyData.showableAll xs = true ∧ PyData.hasDictAll xs = false ∧ piled (PyData.shownAll xs) ≤ costAll xs
  | [], _ => ⟨by simp only [PyData.showableAll], by simp only [PyData.hasDictAll], by simp only [PyData.shownAll, costAll]; exact Nat.le_refl _⟩
  | x :: xs, h => by
    simp only [plainAll, Bool.and_eq_true] at h
    obtain ⟨a1, a2, a3⟩ := plain_shows x h.1
    obtain ⟨b1, b2, b3⟩ := plain_showsAll xs h.2
    refine ⟨by simp only [PyData.showableAll, a1, b1, Bool.and_self], by simp only [PyData.hasDictAll, a2, b2, Bool.or_self], ?_⟩
    simp only [PyData.shownAll, costAll, piled_cons]
    omega
end
/-- what repr asks of data -/
def RepOk (d : PyData) : Prop := plainD d = true ∧ d.depth ≤ 40 ∧ cost d ≤ sizeLine
theorem repr_go {K : PySem.W.Frag} {x : V} {d : PyData} {H : Hp} {Q : VK} (hd : Dp K H x d) (ok : RepOk d) (q : Q (.str d.shown) H) : rRepr K [x] H Q := by
  obtain ⟨h1, h2, h3⟩ := plain_shows d ok.1
  exact ⟨x, d, rfl, hd, h1, h2, ok.2.1, Nat.le_trans h3 ok.2.2, q⟩
theorem RepOk.sh {d : PyData} (ok : RepOk d) : d.showable = true := (plain_shows d ok.1).1
theorem RepOk.nd {d : PyData} (ok : RepOk d) : d.hasDict = false := (plain_shows d ok.1).2.1
theorem RepOk.dp {d : PyData} (ok : RepOk d) : d.depth ≤ 40 := ok.2.1
theorem RepOk.sz {d : PyData} (ok : RepOk d) : d.shown.length ≤ sizeLine := Nat.le_trans (plain_shows d ok.1).2.2 ok.2.2
theorem small_int {i : Int} (h1 : -1000000000000000000000000000000 ≤ i) (h2 : i ≤ 1000000000000000000000000000000) : plainD (.int i) = true := by
  simp only [plainD]
  refine decide_eq_true ?_
  by_cases h : i.natAbs = 0
  · rw [h]; decide
  · refine (Nat.log2_lt h).mpr ?_
    have : i.natAbs ≤ 1000000000000000000000000000000 := by omega
    exact Nat.lt_of_le_of_lt this (by decide)
/-- the rectangle as data -/
def R.d (r : R) : PyData := .tuple [.int r.l, .int r.t, .int r.w, .int r.h]
theorem Rc.dp {K : PySem.W.Frag} {H : Hp} {v : V} {r : R} (h : Rc K H v r) : Dp K H v r.d := by
  obtain ⟨a, rfl, h⟩ := h
  exact .tup h (.cons (.int _) (.cons (.int _) (.cons (.int _) (.cons (.int _) .nil))))
theorem R.rep {r : R} (h : ∀ z ∈ [r.l, r.t, r.w, r.h], -1000000000000000000000000000000 ≤ z ∧ z ≤ 1000000000000000000000000000000) : RepOk r.d := by
  refine ⟨?_, by simp [R.d, PyData.depth, PyData.depthAll], ?_⟩
  · have p : ∀ z ∈ [r.l, r.t, r.w, r.h], plainD (.int z) = true := fun z hz => small_int (h z hz).1 (h z hz).2
    simp only [R.d, plainD, plainAll, Bool.and_true, Bool.and_eq_true] at *
    exact ⟨p _ (by simp), p _ (by simp), p _ (by simp), p _ (by simp)⟩
  · simp only [R.d, cost, costAll]
    decide
end Cs

set_option maxRecDepth 100000
set_option maxHeartbeats 4000000
/-! rectangles: the plain functions, and what the program's functions promise of them -/
namespace Cs
open PySem PySem.Spec PyProof.Rows L2
def has (r : R) (x y : Int) : Bool := (decide (r.l ≤ x) && decide (x < r.l + r.w)) && (decide (r.t ≤ y) && decide (y < r.t + r.h))
def In (a b : R) : Bool := decide (b.l ≤ a.l) && (decide (b.t ≤ a.t) && (decide (a.l + a.w ≤ b.l + b.w) && decide (a.t + a.h ≤ b.t + b.h)))
def com (a b : R) : Option R :=
  if max a.l b.l < min (a.l + a.w) (b.l + b.w) ∧ max a.t b.t < min (a.t + a.h) (b.t + b.h) then
    some ⟨max a.l b.l, max a.t b.t, min (a.l + a.w) (b.l + b.w) - max a.l b.l, min (a.t + a.h) (b.t + b.h) - max a.t b.t⟩
  else none
theorem com_comm (a b : R) : com a b = com b a := by
  unfold com
  rw [Int.max_comm a.l b.l, Int.max_comm a.t b.t, Int.min_comm (a.l + a.w), Int.min_comm (a.t + a.h)]
theorem max_if (i j : Int) : (if j > i then j else i) = max i j := by split <;> omega
theorem min_if (i j : Int) : (if j < i then j else i) = min i j := by split <;> omega
/-- v is None or the rectangle o -/
def OptR (K : PySem.W.Frag) (H : Hp) (v : V) : Option R → Prop
  | none => v = .non
  | some r => Rc K H v r
theorem OptR.im {K : PySem.W.Frag} {H H' : Hp} {v : V} {o : Option R} (h : OptR K H v o) (e : Im H H') : OptR K H' v o := by
  cases o with
  | none => exact h
  | some r => exact Rc.im h e
theorem OptR.same {K : PySem.W.Frag} {H H' : Hp} {v : V} {o : Option R} (h : OptR K H v o) (e : Same H H') : OptR K H' v o := h.im (Im.same e)
theorem OptR.isN {K : PySem.W.Frag} {H : Hp} {v : V} {o : Option R} (h : OptR K H v o) : decide (v = .non) = o.isNone := by
  cases o with
  | none => cases h; rfl
  | some r => obtain ⟨a, rfl, _⟩ := h; rfl
def odata : Option R → PyData
  | none => .none
  | some r => r.d
theorem OptR.dp {K : PySem.W.Frag} {H : Hp} {v : V} {o : Option R} (h : OptR K H v o) : Dp K H v (odata o) := by
  cases o with
  | none => cases h; exact .non
  | some r => exact Rc.dp h
theorem none_rep : RepOk .none := ⟨rfl, by simp [PyData.depth], by simp only [cost]; decide⟩
def sp_edges (K : PySem.W.Frag) : Sp := fun vs H Q _ => ∃ (v : V) (r : R), vs = [v] ∧ Rc K H v r ∧ ∀ p, H p = none → Q (.ref p) (upd H p (.tup r.es))
def sp_inside (K : PySem.W.Frag) : Sp := fun vs H Q _ => ∃ (u v : V) (a b : R), vs = [u, v] ∧ Rc K H u a ∧ Rc K H v b ∧ ∀ H', Same H H' → Q (.bl (In a b)) H'
def sp_contains (K : PySem.W.Frag) : Sp := fun vs H Q _ => ∃ (v : V) (r : R) (x y : Int), vs = [v, .int x, .int y] ∧ Rc K H v r ∧ Q (.bl (has r x y)) H
def sp_common (K : PySem.W.Frag) : Sp := fun vs H Q _ => ∃ (u v : V) (a b : R), vs = [u, v] ∧ Rc K H u a ∧ Rc K H v b ∧ ∀ x H', Same H H' → OptR K H' x (com a b) → Q x H'
def sp_overlap (K : PySem.W.Frag) : Sp := fun vs H Q _ => ∃ (u v : V) (a b : R), vs = [u, v] ∧ Rc K H u a ∧ Rc K H v b ∧ ∀ H', Same H H' → Q (.bl (com a b).isSome) H'
def spLaw (K : PySem.W.Frag) : Sp := fun vs H Q _ => ∃ (a : Addr) (ns : List Int), vs = [.ref a] ∧ SqL K H a (ns.map V.int) ∧ ns.length ≤ 63 ∧ ∀ H', Q (.bl true) H'
theorem law_start (K : PySem.W.Frag) (H : Hp) (a : Addr) (ns : List Int) (h1 : ns.length ≤ 63) (h2 : SqL K H a (ns.map V.int)) : spLaw K [.ref a] H (fun v _ => v = .bl true) E0 := ⟨a, ns, rfl, h2, h1, fun _ => rfl⟩
end Cs

set_option maxRecDepth 100000
set_option maxHeartbeats 4000000
/-! texts as lists of codes; a written dict asked by get; comprehensions and loops over a text -/
namespace Cs
open PySem PySem.Spec PyProof.Rows L2
/-- the text of the codes l -/
def S (l : List Nat) : Str := ⟨l.toArray⟩
theorem S_len (l : List Nat) : (S l).length = l.length := by simp [S, Str.length]
theorem S_codes (l : List Nat) : (S l).cps.toList = l := by simp [S]
theorem S_app (l m : List Nat) : S l ++ S m = S (l ++ m) := by
  show Str.mk (l.toArray ++ m.toArray) = Str.mk (l ++ m).toArray
  rw [List.append_toArray]
theorem S_inj {l m : List Nat} (h : S l = S m) : l = m := by
  have := congrArg (fun x : Str => x.cps.toList) h
  simpa [S] using this
theorem S_of (x : Str) : ∃ l, x = S l := ⟨x.cps.toList, by cases x; simp [S]⟩
theorem S_eq {l : List Nat} {x : Str} (h : x.cps.toList = l) : x = S l := by
  subst h
  cases x
  simp [S]
theorem S_at {l : List Nat} {i : Nat} {c : Nat} (h : (S l).cps[i]? = some c) : l[i]? = some c := by
  have : (S l).cps.toList[i]? = some c := by rw [Array.getElem?_toList]; exact h
  rwa [S_codes] at this
/-- text * int -/
def rMulS : R2 := fun x y H Q => ∃ (l : List Nat) (k : Int), x = .str (S l) ∧ y = .int k ∧ 1 ≤ k ∧ l.length * k.toNat ≤ 100000 ∧ k ≤ 100000 ∧ Q (.str (S (List.replicate k.toNat l).flatten)) H
theorem fold_cat : ∀ (n : Nat) (acc l : List Nat), (List.replicate n l.toArray).foldl (· ++ ·) acc.toArray = (acc ++ (List.replicate n l).flatten).toArray
  | 0, acc, l => by simp
  | n + 1, acc, l => by
    rw [List.replicate_succ, List.foldl_cons, List.append_toArray, fold_cat n (acc ++ l) l, List.replicate_succ, List.flatten_cons, List.append_assoc]
theorem op_mul_str {X : Cx} : OpR X (binaryOp .Mult) rMulS := by
  intro pins s σ H x y v u Q I rx ry h
  obtain ⟨l, k, rfl, rfl, k1, k2, k3, q⟩ := h
  obtain ⟨t, rfl⟩ := rx
  obtain ⟨t', rfl⟩ := ry
  have hz : sizeLine = 16777216 := by decide
  refine SB.mul (x := S l) ⟨by simp; omega, fun _ _ h => ?_, fun _ _ => ?_⟩ fun t' n => ⟨.str (Txt.mul (S l) k), H, I.tok _, ⟨_, rfl⟩, ?_⟩
  · rw [S_len] at h
    have hl : (l.length : Int) ≤ 100000 := by
      have : l.length * 1 ≤ l.length * k.toNat := Nat.mul_le_mul_left _ (by omega)
      omega
    have : (2 ^ 63 - 1 : Int) / 100000 ≤ (2 ^ 63 - 1) / k := by
      refine Int.le_ediv_of_mul_le (by omega) ?_
      have : (2 ^ 63 - 1 : Int) / 100000 * k ≤ (2 ^ 63 - 1 : Int) / 100000 * 100000 := Int.mul_le_mul_of_nonneg_left k3 (by decide)
      exact Int.le_trans this (by decide)
    have : (100000 : Int) ≤ (2 ^ 63 - 1 : Int) / 100000 := by decide
    omega
  · rw [S_len]
    show decide (l.length * k.toNat > sizeLine) = false
    exact decide_eq_false (by omega)
  · have e : Txt.mul (S l) k = S (List.replicate k.toNat l).flatten := by
      unfold Txt.mul
      rw [if_neg (by omega)]
      by_cases h1 : (k == 1 || (S l).length == 0) = true
      · rw [if_pos h1]
        rcases Bool.or_eq_true _ _ ▸ h1 with h | h
        · have : k = 1 := by simpa using h
          subst this
          show S l = S (List.replicate 1 l).flatten
          simp
        · rw [S_len] at h
          have : l = [] := by simpa using h
          subst this
          simp
      · rw [if_neg h1]
        have := fold_cat k.toNat [] l
        show Str.mk _ = Str.mk _
        rw [show (S l).cps = l.toArray from rfl]
        simpa using this
    rw [e]
    exact q
section
variable {X : Cx} {o e f : Expr} {apos cpos : Pos} {td ty tx : TE}
/-- d.get(x, z) of a written dict: r says what it holds at the text -/
def tWGet (K : PySem.W.Frag) (w : World) (ty tx : TE) (d : Addr) : TE := fun σ H Q => ty σ H fun y H2 => tx σ H2 fun z H3 => ∃ (x : Str) (es : Array DictEntry) (n : Nat), y = .str x ∧ KDict K w d es n ∧
  ((∃ u v, findBy Value.isStrOf es x = some u ∧ RelV v u ∧ Q v H3) ∨ (findBy Value.isStrOf es x = none ∧ Q z H3))
theorem pe_wget {d : Addr} {x : Str} {pos : Pos} (hg : Gl X x) (hm : X.mg x = some (.ref d)) (D : ∃ es n, KDict X.K X.w d es n) (he : PE X e ty) (hf : PE X f tx) (m : M2 X (.Name x pos) "get" apos e f cpos) (hd : (x == ("__debug__" : Str)) = false := by decide) :
    PE X (.Call (.Attribute (.Name x pos) "get" apos) [e, f] [] cpos) (tWGet X.K X.w ty tx d) := by
  refine ⟨fun pins s σ H Q I h => ?_⟩
  obtain ⟨es, n, D⟩ := D
  refine wpAny_Call_method m.base m.few m.line PySem.F.plainAttrs_dict PySem.F.slot_dict_get PySem.F.type_dict_get (thn ((pe_glob (X := X) (v := .ref d) hg hm rfl hd).run pins s σ H (fun v H' => v = .ref d ∧ H' = H) I ⟨rfl, rfl⟩) fun u s1 ⟨v, H1, I1, rx, e1, e2⟩ => ?_)
  subst e1
  subst e2
  obtain rfl : u = Value.ref d := rx
  have hm0 := PySem.W.mapOf_K (prog := X.prog) (w := X.w) I1.kIn D.at_ D.lit
  refine ⟨hm0.typeIs, fun b eb => ?_, ?_⟩
  · cases eb
    exact ⟨_, I1.kIn _ _ D.at_, rfl⟩
  rw [m.trees]
  refine Calls.callWith_builtin rfl (Calls.evalArgs_plain (Calls.spliced_cons (thn (he.run pins s1 σ H1 _ I1 h) fun iv s2 ⟨y, H2, I2, ry, q2⟩ => Calls.spliced_cons (thn (hf.run pins s2 σ H2 _ I2 q2) fun fv s3 ⟨z, H3, I3, rz, q3⟩ => Calls.spliced_nil ?_))))
  obtain ⟨x0, es', n', ey, D', q⟩ := q3
  subst ey
  obtain ⟨t, rfl⟩ := (show ∃ t, iv = Value.str x0 t from ry)
  have hm3 := PySem.W.mapOf_K (prog := X.prog) (w := X.w) I3.kIn D'.at_ D'.lit
  refine call_meetsIn PySem.F.slot_dict_get hm3.typeIs PySem.F.entry_dict_get (PySem.F.args_dict_get_3 _ _ _) (meets_dict_get_default (strKind X.prog X.w) d (strKind_is X.prog X.w x0 t) D'.low fv) ⟨_, hm3, ?_⟩
  rcases q with ⟨u0, v0, hq, rv, q⟩ | ⟨hq, q⟩
  · rw [hq]
    exact ⟨v0, H3, I3.tok _, rv, q⟩
  · rw [hq]
    exact ⟨z, H3, I3.tok _, rz, q⟩
/-- a module's number, whatever token it bears -/
theorem pe_globI {x : Str} {i : Int} {pos : Pos} (hg : Gl X x) (hm : ∃ t, X.mg x = some (.int i t)) (hd : (x == ("__debug__" : Str)) = false := by decide) : PE X (.Name x pos) (tC (.int i)) := by
  obtain ⟨t, hm⟩ := hm
  exact pe_glob hg hm ⟨t, rfl⟩ hd
end
section
variable {K : PySem.W.Frag} {l : List Nat} {te : TE} {g : TG} {tb : TS} {s : Nat} {σ : L2.St} {H H1 : Hp} {D : Addr} {Qd : Hp → Prop} {En : Ends}
theorem for_text (Pv : Nat → L2.St → Hp → Prop) (h0 : Pv 0 σ H)
    (hs : ∀ (i : Nat) c σ H, l[i]? = some c → Pv i σ H → g (.str (S [c])) σ H fun σ2 H2 => tb { En with nx := Pv (i + 1), ct := Pv (i + 1), bk := En.nx } σ2 H2) (hd : ∀ σ H, Pv l.length σ H → En.nx σ H) :
    ∃ W : Nat → Nat → L2.St → Hp → Prop, (∃ m, W 0 m σ H) ∧ ∀ i m σ H, W i m σ H →
      ((Its (S l)).stop i H ∧ En.nx σ H) ∨ ((Its (S l)).go i H ∧ ∃ N : L2.St → Hp → Prop, (∀ σ' H', N σ' H' → ∃ m', m' < m ∧ W (i + 1) m' σ' H') ∧ ∀ x H', (Its (S l)).yld i H x H' → g x σ H' fun σ2 H2 => tb { En with nx := N, ct := N, bk := En.nx } σ2 H2) := by
  have sz : (S l).cps.size = l.length := by simp [S]
  refine ⟨fun i m σ H => m = l.length - i ∧ i ≤ l.length ∧ Pv i σ H, ⟨l.length, by simp, Nat.zero_le _, h0⟩, ?_⟩
  rintro i m σ H ⟨rfl, hi, p⟩
  by_cases hlt : i < l.length
  · refine .inr ⟨by show i < (S l).cps.size; omega, Pv (i + 1), fun σ' H' p' => ⟨l.length - (i + 1), by omega, rfl, hlt, p'⟩, fun x H' y => ?_⟩
    obtain ⟨e, c, hc, ex⟩ := y
    subst e
    subst ex
    exact hs i c σ _ (S_at hc) p
  · have e : i = l.length := by omega
    subst e
    exact .inl ⟨by show (S l).cps.size ≤ _; omega, hd σ H p⟩
theorem lc_text (Pv : Nat → Hp → Prop) (h0 : Pv 0 (upd H1 D (.lst [])))
    (hs : ∀ (i : Nat) c H, l[i]? = some c → Pv i H → gName s (.str (S [c])) (wipe σ [s]) H fun σ2 H2 => wipe σ2 [s] = wipe σ [s] ∧ tYes σ2 H2 fun b H3 =>
      if b = true then te σ2 H3 fun y H4 => ∃ acc, H4 D = some (.lst acc) ∧ acc.length < sizeLine ∧ Pv (i + 1) (upd H4 D (.lst (acc ++ [y]))) else Pv (i + 1) H3) (hd : ∀ H, Pv l.length H → Qd H) :
    ∃ W : Nat → Nat → Hp → Prop, (∃ m, W 0 m (upd H1 D (.lst []))) ∧ ∀ i m H, W i m H →
      ((Its (S l)).stop i H ∧ Qd H) ∨ ((Its (S l)).go i H ∧ ∃ Nx : Hp → Prop, (∀ H', Nx H' → ∃ m', m' < m ∧ W (i + 1) m' H') ∧ ∀ x H', (Its (S l)).yld i H x H' → gName s x (wipe σ [s]) H' fun σ2 H2 => wipe σ2 [s] = wipe σ [s] ∧ tYes σ2 H2 fun b H3 =>
        if b = true then te σ2 H3 fun y H4 => ∃ acc, H4 D = some (.lst acc) ∧ acc.length < sizeLine ∧ Nx (upd H4 D (.lst (acc ++ [y]))) else Nx H3) := by
  have sz : (S l).cps.size = l.length := by simp [S]
  refine ⟨fun i m H => m = l.length - i ∧ i ≤ l.length ∧ Pv i H, ⟨l.length, by simp, Nat.zero_le _, h0⟩, ?_⟩
  rintro i m H ⟨rfl, hi, p⟩
  by_cases hlt : i < l.length
  · refine .inr ⟨by show i < (S l).cps.size; omega, Pv (i + 1), fun H' p' => ⟨l.length - (i + 1), by omega, rfl, hlt, p'⟩, fun x H' y => ?_⟩
    obtain ⟨e, c, hc, ex⟩ := y
    subst e
    subst ex
    exact hs i c _ (S_at hc) p
  · have e : i = l.length := by omega
    subst e
    exact .inl ⟨by show (S l).cps.size ≤ _; omega, hd H p⟩
/-- [f(c) for c in text], f a value that hangs on the sign alone -/
theorem map_text (f : Nat → V) (hz : l.length ≤ sizeLine) (fresh : H1 D = none)
    (elt : ∀ (i : Nat) c, l[i]? = some c → ∀ H, Same H1 H → ∀ Q' : VK, (∀ H', Same H H' → Q' (f c) H') → te ((σ.set s none).set s (some (.str (S [c])))) H Q')
    (hd : ∀ H, Same H1 H → H D = some (.lst (l.map f)) → Qd H) :
    ∃ W : Nat → Nat → Hp → Prop, (∃ m, W 0 m (upd H1 D (.lst []))) ∧ ∀ i m H, W i m H →
      ((Its (S l)).stop i H ∧ Qd H) ∨ ((Its (S l)).go i H ∧ ∃ Nx : Hp → Prop, (∀ H', Nx H' → ∃ m', m' < m ∧ W (i + 1) m' H') ∧ ∀ x H', (Its (S l)).yld i H x H' → gName s x (wipe σ [s]) H' fun σ2 H2 => wipe σ2 [s] = wipe σ [s] ∧ tYes σ2 H2 fun b H3 =>
        if b = true then te σ2 H3 fun y H4 => ∃ acc, H4 D = some (.lst acc) ∧ acc.length < sizeLine ∧ Nx (upd H4 D (.lst (acc ++ [y]))) else Nx H3) :=
  lc_text (CompSo (fun i v _ => ∃ c, l[i]? = some c ∧ v = f c) H1 D) (comp_start fresh)
    (fun i c H hc so => comp_turn (fun _ _ _ _ h _ => h) hz fresh (List.getElem?_eq_some_iff.mp hc).1 so fun H sm Q' hQ => elt i c hc H sm Q' fun H' sm' => hQ _ H' sm' ⟨c, hc, rfl⟩)
    fun H ⟨sm, ys, hD, hlen, hP⟩ => hd H sm (by rw [← eq_map hlen hP]; exact hD)
end
end Cs

set_option maxRecDepth 100000
set_option maxHeartbeats 4000000
/-! widths of texts -/
namespace Cs
open PySem PySem.Spec PyProof.Rows L2
def alpha : List Nat := (Str.ofString " !\"#$&'()*+,-./0123456789:;<=>?@ABCDEFGHIJKLMNOPQRSTUVWXYZ[\\]^_`" ++ Str.ofString "abcdefghijklmnopqrstuvwxyz{|}~").cps.toList
theorem alpha_len : alpha.length = 94 := by decide +kernel
theorem alpha_small : ∀ c ∈ alpha, c < 128 := by decide +kernel
/-- the width of the sign with the code c -/
def gw (c : Nat) : Int :=
  if c ∈ (Str.ofString "!'.:i|").cps.toList then 1
  else if c ∈ (Str.ofString "(),;[]jl`").cps.toList then 2
  else if c ∈ (Str.ofString " \"*-/1<>I\\^frt{}").cps.toList then 3
  else if c ∈ (Str.ofString "$023456789=?J_abcdeghknopqsuvxyz").cps.toList then 4
  else 5
theorem gw_pos (c : Nat) : 1 ≤ gw c := by unfold gw; split <;> (try decide); split <;> (try decide); split <;> (try decide); split <;> decide
theorem gw_le (c : Nat) : gw c ≤ 5 := by unfold gw; split <;> (try decide); split <;> (try decide); split <;> (try decide); split <;> decide
/-- a text of such signs -/
def Word (l : List Nat) : Prop := ∀ c ∈ l, c ∈ alpha
theorem Word.nil : Word [] := fun _ h => absurd h List.not_mem_nil
theorem Word.app {l m : List Nat} (a : Word l) (b : Word m) : Word (l ++ m) := fun c h => (List.mem_append.mp h).elim (a c) (b c)
theorem Word.one {c : Nat} (h : c ∈ alpha) : Word [c] := fun d hd => by rw [List.mem_singleton.mp hd]; exact h
def tw (l : List Nat) : Int := if l = [] then 0 else (l.map gw).sum + l.length - 1
theorem sum_gw : ∀ l : List Nat, (l.length : Int) ≤ (l.map gw).sum ∧ (l.map gw).sum ≤ 5 * l.length
  | [] => by simp
  | c :: r => by
    have := sum_gw r
    have := gw_pos c
    have := gw_le c
    rw [List.map_cons, List.sum_cons, List.length_cons]
    omega
theorem tw_nn (l : List Nat) : 0 ≤ tw l := by
  unfold tw
  split
  · exact Int.le_refl _
  · have := (sum_gw l).1
    have : 0 < l.length := List.length_pos_iff.mpr (by assumption)
    omega
theorem tw_le (l : List Nat) : tw l ≤ 6 * l.length := by
  unfold tw
  split
  · omega
  · have := (sum_gw l).2
    omega
theorem sum_gw1 : ∀ l : List Nat, (l.map fun c => 1 + gw c).sum = (l.map gw).sum + l.length
  | [] => by simp
  | c :: r => by
    have := sum_gw1 r
    rw [List.map_cons, List.sum_cons, List.map_cons, List.sum_cons, List.length_cons]
    omega
theorem tw_law (l : List Nat) : max ((l.map fun c => 1 + gw c).sum - 1) 0 = tw l := by
  rw [sum_gw1]
  unfold tw
  split
  · rename_i h
    subst h
    show max ((0 : Int) + 0 - 1) 0 = 0
    decide
  · have := (sum_gw l).1
    have : 0 < l.length := List.length_pos_iff.mpr (by assumption)
    omega
theorem tw_app (l m : List Nat) (h1 : l ≠ []) (h2 : m ≠ []) : tw (l ++ m) = tw l + 1 + tw m := by
  unfold tw
  rw [if_neg h1, if_neg h2, if_neg (by simp [h1]), List.map_append, List.sum_append, List.length_append]
  omega
theorem sum_take_map {f : Nat → Int} {l : List Nat} {i : Nat} {c : Nat} (h : l[i]? = some c) : ((l.take (i + 1)).map f).sum = ((l.take i).map f).sum + f c := by
  rw [List.take_add_one, h, List.map_append, List.sum_append]
  simp
/-- the column x is one of a sign's, the first sign at left -/
def ink : List Nat → Int → Int → Bool
  | [], _, _ => false
  | c :: r, left, x => if x < left + gw c then decide (left ≤ x) && !decide (c = 32) else ink r (left + gw c + 1) x
theorem ink_cons (c : Nat) (r : List Nat) (left x : Int) : ink (c :: r) left x = if x < left + gw c then decide (left ≤ x) && !decide (c = 32) else ink r (left + gw c + 1) x := rfl
theorem ink_off : ∀ (l : List Nat) (left x : Int), x < left → ink l left x = false
  | [], _, _, _ => rfl
  | c :: r, left, x, h => by
    have := gw_pos c
    unfold ink
    rw [if_pos (by omega), decide_eq_false (by omega)]
    rfl
/-- .. as the law asks it -/
def ink2 : List Nat → Int → Int → Bool
  | [], _, _ => false
  | c :: r, left, x => if left ≤ x ∧ x < left + gw c then !decide (c = 32) else ink2 r (left + gw c + 1) x
theorem ink2_cons (c : Nat) (r : List Nat) (left x : Int) : ink2 (c :: r) left x = if left ≤ x ∧ x < left + gw c then !decide (c = 32) else ink2 r (left + gw c + 1) x := rfl
theorem ink2_off : ∀ (l : List Nat) (left x : Int), x < left → ink2 l left x = false
  | [], _, _, _ => rfl
  | c :: r, left, x, h => by
    have := gw_pos c
    unfold ink2
    rw [if_neg (by omega)]
    exact ink2_off r _ _ (by omega)
theorem ink_eq : ∀ (l : List Nat) (left x : Int), ink2 l left x = ink l left x
  | [], _, _ => rfl
  | c :: r, left, x => by
    have := gw_pos c
    unfold ink2 ink
    by_cases h : x < left + gw c
    · rw [if_pos h]
      by_cases h2 : left ≤ x
      · rw [if_pos ⟨h2, h⟩, decide_eq_true h2]; rfl
      · rw [if_neg (by omega), decide_eq_false h2, ink2_off r _ _ (by omega)]; rfl
    · rw [if_neg h, if_neg (by omega)]
      exact ink_eq r _ _
def inkT (l : List Nat) (x y : Int) : Bool := (decide (0 ≤ y) && decide (y < 7)) && ink l 0 x
theorem drop_cons {l : List Nat} {i : Nat} {c : Nat} (h : l[i]? = some c) : l.drop i = c :: l.drop (i + 1) := by
  obtain ⟨hi, e⟩ := List.getElem?_eq_some_iff.mp h
  rw [List.drop_eq_getElem_cons hi, e]
/-- the written table of widths -/
structure Glyphs (K : PySem.W.Frag) (w : World) (mg : Str → Option Value) : Prop where
  tab : ∃ (d : Addr) (es : Array DictEntry) (n : Nat), mg "GLYPH_WIDTHS" = some (.ref d) ∧ KDict K w d es n ∧ ∀ c ∈ alpha, (∃ t, findBy Value.isStrOf es (S [c]) = some (.int (gw c) t)) ∨ (findBy Value.isStrOf es (S [c]) = none ∧ gw c = 5)
  other : ∃ t, mg "OTHER_WIDTH" = some (.int 5 t)
  height : ∃ t, mg "TEXT_HEIGHT" = some (.int 7 t)
/-- the check of the table, to be run -/
def tabB (es : Array DictEntry) : Bool := alpha.all fun c => match findBy Value.isStrOf es (S [c]) with
  | some (.int i _) => decide (i = gw c)
  | none => decide (gw c = 5)
  | _ => false
theorem tab_of {es : Array DictEntry} (h : tabB es = true) : ∀ c ∈ alpha, (∃ t, findBy Value.isStrOf es (S [c]) = some (.int (gw c) t)) ∨ (findBy Value.isStrOf es (S [c]) = none ∧ gw c = 5) := fun c hc => by
  have q := List.all_eq_true.mp h c hc
  split at q
  · rename_i i t e
    exact .inl ⟨t, by rw [e, of_decide_eq_true q]⟩
  · rename_i e
    exact .inr ⟨e, of_decide_eq_true q⟩
  · cases q
def sp_glyph_width (K : PySem.W.Frag) : Sp := fun vs H Q _ => ∃ c, vs = [.str (S [c])] ∧ c ∈ alpha ∧ Q (.int (gw c)) H
def sp_text_width (K : PySem.W.Frag) : Sp := fun vs H Q _ => ∃ l, vs = [.str (S l)] ∧ Word l ∧ l.length ≤ 100000 ∧ ∀ H', Same H H' → Q (.int (tw l)) H'
def sp_inked (K : PySem.W.Frag) : Sp := fun vs H Q _ => ∃ l x y, vs = [.str (S l), .int x, .int y] ∧ Word l ∧ Q (.bl (inkT l x y)) H
def sp_law_sign_width (K : PySem.W.Frag) : Sp := fun vs H Q _ => ∃ c, vs = [.str (S [c])] ∧ Q (.int (gw c)) H
def sp_law_width (K : PySem.W.Frag) : Sp := fun vs H Q _ => ∃ l, vs = [.str (S l)] ∧ Q (.int (tw l)) H
def sp_law_inked (K : PySem.W.Frag) : Sp := fun vs H Q _ => ∃ l x y, vs = [.str (S l), .int x, .int y] ∧ Q (.bl (inkT l x y)) H
def sp_law_word (K : PySem.W.Frag) : Sp := fun vs H Q _ => ∃ (t l : Addr), vs = [.ref t] ∧ TapeAt H t l ∧ ∀ m H', TapeAt H' t l → Gr t H H' → Word m → m.length ≤ 5 → Q (.str (S m)) H'
theorem S_lit : S [] = Str.ofString "" := by decide +kernel
theorem S_sp : S [32] = Str.ofString " " := by decide +kernel
theorem S_sp_iff {c : Nat} : (S [c] = Str.ofString " ") ↔ c = 32 := by
  rw [← S_sp]
  constructor
  · intro h
    have := S_inj h
    simpa using this
  · intro h; rw [h]
end Cs

set_option maxRecDepth 100000
set_option maxHeartbeats 4000000
/-! t[a::2] of a tuple -/
namespace Cs
open PySem PySem.Spec PyProof.Rows L2
/-- every other item, from the first on -/
def ev {α : Type} : List α → List α
  | [] => []
  | [a] => [a]
  | a :: _ :: r => a :: ev r
theorem ev_vals : ∀ {xs : List V} {us : List Value}, Vals xs us → Vals (ev xs) (ev us)
  | _, _, .nil => .nil
  | _, _, .cons h .nil => .cons h .nil
  | _, _, .cons h (.cons _ t) => .cons h (ev_vals t)
theorem ev_len {α : Type} : ∀ l : List α, (ev l).length ≤ l.length
  | [] => Nat.le_refl _
  | [_] => Nat.le_refl _
  | _ :: _ :: r => by have := ev_len r; show (ev r).length + 1 ≤ r.length + 1 + 1; omega
theorem ev_pick {α : Type} : ∀ l : List α, ((List.range ((l.length + 1) / 2)).filterMap fun m => l[2 * m]?) = ev l
  | [] => by simp [ev]
  | [a] => by simp [ev]
  | a :: b :: r => by
    have e : ((a :: b :: r).length + 1) / 2 = (r.length + 1) / 2 + 1 := by
      show (r.length + 1 + 1 + 1) / 2 = _
      omega
    rw [e, List.range_succ_eq_map, List.filterMap_cons, List.filterMap_map]
    have e2 : ((fun m => (a :: b :: r)[2 * m]?) ∘ Nat.succ) = fun m => r[2 * m]? := by
      funext m
      show (a :: b :: r)[2 * (m + 1)]? = _
      rw [show 2 * (m + 1) = 2 * m + 1 + 1 from by omega, List.getElem?_cons_succ, List.getElem?_cons_succ]
    rw [e2, ev_pick r]
    rfl
section
variable {prog : Program} {w : World} {A : Around} {E : Value → Shared → Prop} {s : Shared}
theorem slice_two {sl : Addr} {vl : Value} {u : Tok} {lo : Option Int} {n : Nat} {Q : Int × Int × Nat → Shared → Prop} (hs : s.heap.IsSliceOf sl vl .none (.int 2 u)) (pl : IsPart vl lo)
    (h : Q (((HT.sIx n 0 lo : Nat) : Int), 2, (n - HT.sIx n 0 lo + 1) / 2) s) : wpAny (model prog w) A (Builtin.Slice.sliceApplied (.ref sl) (pure (n : Int))) Q E s := by
  obtain ⟨os, hos, hcs, hds⟩ := id hs
  unfold Builtin.Slice.sliceApplied Builtin.Slice.sliceFields
  refine wpAny_bind (wpAny_bind (wpAny_field hos hds (x := vl) rfl (wpAny_bind (wpAny_field hos hds (x := .none) rfl (wpAny_bind (wpAny_field hos hds (x := .int 2 u) rfl (wpAny_pure ?_)))))))
  refine wpAny_bind (HT.slicePart_ (.int 2 u) ?_)
  show wpAny _ _ (if ((2 : Int) == 0) = true then _ else _) _ _ s
  rw [if_neg (by decide)]
  refine wpAny_bind (HT.slicePart_ pl (wpAny_bind (HT.slicePart_ .none (wpAny_bind (wpAny_pure ?_)))))
  have e1 : Builtin.Slice.sliceAdjust lo none 2 (n : Int) = (((HT.sIx n 0 lo : Nat) : Int), (n : Int)) := by
    unfold Builtin.Slice.sliceAdjust
    simp only [show ¬ ((2 : Int) < 0) from by omega, if_false]
    refine Prod.ext ?_ rfl
    cases lo with
    | none => rfl
    | some v => exact HT.clip_eq v n 0
  have hle : HT.sIx n 0 lo ≤ n := HT.sIx_le n 0 (Nat.zero_le _) lo
  have e2 : Builtin.Slice.slicePlaces ((HT.sIx n 0 lo : Nat) : Int) (n : Int) 2 = (n - HT.sIx n 0 lo + 1) / 2 := by
    unfold Builtin.Slice.slicePlaces
    simp only [show (2 : Int) > 0 from by omega, if_true]
    split <;> omega
  show wpAny _ _ (match Builtin.Slice.sliceAdjust lo none 2 (n : Int) with | (lo, hi) => pure (lo, (2 : Int), Builtin.Slice.slicePlaces lo hi 2)) _ _ s
  rw [e1]
  show wpAny _ _ (pure (((HT.sIx n 0 lo : Nat) : Int), (2 : Int), Builtin.Slice.slicePlaces ((HT.sIx n 0 lo : Nat) : Int) (n : Int) 2)) _ _ s
  rw [e2]
  exact wpAny_pure h
theorem pick_two (xs : Array Value) (i : Nat) : ((List.range ((xs.size - i + 1) / 2)).filterMap fun (m : Nat) => xs[((i : Int) + (m : Int) * 2).toNat]?).toArray = (ev (xs.toList.drop i)).toArray := by
  have e : (fun (m : Nat) => xs[((i : Int) + (m : Int) * 2).toNat]?) = fun m => (xs.toList.drop i)[2 * m]? := by
    funext m
    rw [List.getElem?_drop, Array.getElem?_toList]
    congr 1
    omega
  rw [e, ← ev_pick (xs.toList.drop i), List.length_drop, Array.length_toList]
theorem item_two {t sl : Addr} {items : Array Value} {vl : Value} {u : Tok} {lo : Option Int} {Q : Value → Shared → Prop} (ht : IsTup s.heap t items) (hs : s.heap.IsSliceOf sl vl .none (.int 2 u)) (pl : IsPart vl lo)
    (h : Q (.ref s.heap.objs.size) { s with heap := s.heap.push { cls := .type "tuple", data := .seq (ev (items.toList.drop (HT.sIx items.size 0 lo))).toArray } })
    (hsz : items.size ≤ sizeLine) : wpAny (model prog w) A (getItem (.ref t) (.ref sl)) Q E s := by
  have ok : sizeOk (.seq (ev (items.toList.drop (HT.sIx items.size 0 lo))).toArray) := by
    show (ev (items.toList.drop (HT.sIx items.size 0 lo))).toArray.size ≤ sizeLine
    have := ev_len (items.toList.drop (HT.sIx items.size 0 lo))
    rw [List.length_drop] at this
    have e : items.toList.length = items.size := Array.length_toList
    rw [List.size_toArray]
    omega
  obtain ⟨os, hos, hcs, hds⟩ := id hs
  have hTs : s.TypeIs (.ref sl) "slice" := ⟨os, hos, hcs⟩
  unfold getItem
  try with_reducible refine wpAny_holding ?_
  first | refine wpAny_bind (wpAny_pure ?_) | skip
  refine wpAny_bind (wpAny_sequenceKey ht.typeIs (by decide) ?_)
  refine wpAny_bind (wpAny_callSpecial?_slot (name := Str.ofString "__getitem__") ht.typeIs PyProof.Rows.slot_tuple_getitem (wpAny_call_entry PyProof.Rows.slot_tuple_getitem ht.typeIs entry_tuple_getitem ?_ (args_tuple_getitem _ _)))
  show wpAny _ _ (Builtin.Tuple.tupleItemsOf (.ref t) >>= _) _ _ s
  refine wpAny_bind (tupleItemsOf_ ht (wpAny_bind (wpAny_typeOf hTs ?_)))
  rw [if_pos (by decide)]
  refine wpAny_bind (slice_two hs pl ?_)
  have hno : ¬ ((((HT.sIx items.size 0 lo : Nat) : Int) == 0 && (2 : Int) == 1 && ((items.size - HT.sIx items.size 0 lo + 1) / 2) == items.size) = true) := by
    intro q
    rw [Bool.and_eq_true, Bool.and_eq_true] at q
    exact absurd q.1.2 (by decide)
  show wpAny _ _ (if (((HT.sIx items.size 0 lo : Nat) : Int) == 0 && (2 : Int) == 1 && ((items.size - HT.sIx items.size 0 lo + 1) / 2) == items.size) = true then _ else _) _ _ s
  rw [if_neg hno, pick_two]
  first
    | exact wpAny_bind (m := Builtin.Tuple.tupleExact _) (wpAny_newObj_type (wpAny_pure ⟨_, rfl, wpAny_pure h⟩) ok)
    | exact wpAny_bind (m := Builtin.Tuple.tupleExact _) (wpAny_newObj_type (wpAny_bind (wpAny_pure (wpAny_pure ⟨_, rfl, wpAny_pure h⟩))) ok)
    | exact wpAny_bind (wpAny_bind (m := Builtin.Tuple.tupleExact _) (wpAny_newObj_type (wpAny_pure (wpAny_pure ⟨_, rfl, wpAny_pure h⟩)) ok))
    | exact wpAny_bind (wpAny_bind (m := Builtin.Tuple.tupleExact _) (wpAny_newObj_type (wpAny_pure ⟨_, rfl, wpAny_pure h⟩) ok))
end
section
variable {X : Cx} {e : Expr} {te : TE} {lo : Option Expr} {tl : TO} {pos p2 p3 : Pos} {j : Nat}
def tSl2 (K : PySem.W.Frag) (te : TE) (tl : TO) : TE := fun σ H Q => te σ H fun x H1 => tl σ H1 fun l H2 => ∃ a xs, x = .ref a ∧ SqT K H2 a xs ∧ ∀ p, H2 p = none → Q (.ref p) (upd H2 p (.tup (ev (xs.drop (HT.sIx xs.length 0 l)))))
theorem pe_sl2 (K : PySem.W.Frag) (he : PE X e te) (hl : PO X lo tl) (hK : X.K = K := by rfl) : PE X (.Subscript e (.Slice lo none (some (.Constant (.int 2) j p3)) p2) pos) (tSl2 K te tl) := by
  subst hK
  refine ⟨fun pins s σ H Q I h => ?_⟩
  refine Subscript_ (thn (he.run pins s σ H _ I h) fun v s1 ⟨x, H1, I1, r1, q1⟩ => ?_)
  refine wpAny_Slice (thn (hl.run pins s1 σ H1 _ I1 q1) fun vl s2 ⟨l, H2, I2, pl, q2⟩ => ?_)
  rw [evalPart_none]
  refine wpAny_pure (thn ((pe_int (X := X) (i := 2) (j := j) (pos := p3)).run pins s2 σ H2 (fun v H' => v = .int 2 ∧ H' = H2) I2 ⟨rfl, rfl⟩) fun vs s3 ⟨y, H3, I3, ry, e1, e2⟩ => ?_)
  subst e1
  subst e2
  obtain ⟨u, rfl⟩ := (show ∃ t, vs = Value.int 2 t from ry)
  obtain ⟨a, xs, ex, hx, q⟩ := q2
  subst ex
  obtain rfl : v = Value.ref a := r1
  have I4 : Inv X pins σ H3 { s3 with heap := s3.heap.push { cls := .type "slice", data := .fields #[vl, .none, .int 2 u] } } := I3.kept (t' := s3.toks) fun b ob q => Heap.get?_push_of_some _ q
  obtain ⟨its, r, ht, hz⟩ := I4.tuple hx
  have hlen : its.toArray.size = xs.length := by rw [List.size_toArray]; exact r.length.symm
  show wpAny (model X.prog X.w) X.A (subscriptTail e (.Slice lo none (some (.Constant (.int 2) j p3)) p2) (.ref a) (.ref s3.heap.objs.size)) (EP X pins σ Q) X.xe { s3 with heap := s3.heap.push { cls := .type "slice", data := .fields #[vl, .none, .int 2 u] } }
  refine tail_any (ops := [.ref a, .ref s3.heap.objs.size]) ht.typeIs PyProof.Rows.slot_tuple_getitem.lookup ?_ (by with_unfolding_all rfl)
  refine item_two ht (Heap.IsSliceOf.new ..) pl ?_ (by rw [hlen]; exact hz)
  rw [hlen]
  refine ⟨.ref _, _, I4.laid (t' := s3.toks) (o := .tup (ev (xs.drop (HT.sIx xs.length 0 l)))) (fun b ob q => Heap.get?_push_of_some _ q) (Nat.le_refl _) ?_, rfl, q _ (I4.hok.fresh (Nat.le_refl _))⟩
  exact ⟨Nat.le_trans (ev_len _) (by rw [List.length_drop]; omega), _, ev_vals (r.drop (HT.sIx xs.length 0 l)), IsTup.new _ _⟩
end
end Cs

set_option maxRecDepth 100000
set_option maxHeartbeats 4000000
/-! shapes -/
namespace Cs
open PySem PySem.Spec PyProof.Rows L2
/-- v is a tuple of vs -/
def Tup (K : PySem.W.Frag) (H : Hp) (v : V) (vs : List V) : Prop := ∃ a, v = .ref a ∧ SqT K H a vs
theorem Tup.im {K : PySem.W.Frag} {H H' : Hp} {v : V} {vs : List V} (h : Tup K H v vs) (e : Im H H') : Tup K H' v vs := let ⟨a, h1, h2⟩ := h; ⟨a, h1, e.sqT h2⟩
theorem Tup.same {K : PySem.W.Frag} {H H' : Hp} {v : V} {vs : List V} (h : Tup K H v vs) (e : Same H H') : Tup K H' v vs := h.im (Im.same e)
inductive Sh where
  | rect (x y w h : Int)
  | line (x y u v : Int)
  | poly (p : Int × Int) (ps : List (Int × Int))
  | circ (x y r : Int)
  | tS (x y : Int) (l : List Nat)
  | tM (x y : Int) (l : List Nat)
  | tE (x y : Int) (l : List Nat)
def flat : List (Int × Int) → List Int
  | [] => []
  | p :: r => p.1 :: p.2 :: flat r
def Sh.name : Sh → Str
  | .rect .. => Str.ofString "rectangle"
  | .line .. => Str.ofString "line"
  | .poly .. => Str.ofString "polyline"
  | .circ .. => Str.ofString "circle"
  | .tS .. => Str.ofString "text start"
  | .tM .. => Str.ofString "text middle"
  | .tE .. => Str.ofString "text end"
def Sh.pts : Sh → List Int
  | .rect x y w h => [x, y, w, h]
  | .line x y u v => [x, y, u, v]
  | .poly p ps => flat (p :: ps)
  | .circ x y r => [x, y, r]
  | .tS x y _ => [x, y]
  | .tM x y _ => [x, y]
  | .tE x y _ => [x, y]
def Sh.txt : Sh → List Nat
  | .tS _ _ l => l
  | .tM _ _ l => l
  | .tE _ _ l => l
  | _ => []
/-- its corners (of a line, a polyline) -/
def Sh.cor : Sh → List (Int × Int)
  | .line x y u v => [(x, y), (u, v)]
  | .poly p ps => p :: ps
  | _ => []
/-- r is the least rectangle that holds the pixels ps -/
structure IsBB (ps : List (Int × Int)) (r : R) : Prop where
  l1 : r.l ∈ ps.map (·.1)
  l2 : ∀ p ∈ ps, r.l ≤ p.1
  t1 : r.t ∈ ps.map (·.2)
  t2 : ∀ p ∈ ps, r.t ≤ p.2
  r1 : r.l + r.w - 1 ∈ ps.map (·.1)
  r2 : ∀ p ∈ ps, p.1 ≤ r.l + r.w - 1
  b1 : r.t + r.h - 1 ∈ ps.map (·.2)
  b2 : ∀ p ∈ ps, p.2 ≤ r.t + r.h - 1
theorem IsBB.one {ps : List (Int × Int)} {a b : R} (h : IsBB ps a) (k : IsBB ps b) : a = b := by
  have el : a.l = b.l := by
    obtain ⟨p, p1, p2⟩ := List.mem_map.mp h.l1
    obtain ⟨q, q1, q2⟩ := List.mem_map.mp k.l1
    have := h.l2 q q1; have := k.l2 p p1; omega
  have et : a.t = b.t := by
    obtain ⟨p, p1, p2⟩ := List.mem_map.mp h.t1
    obtain ⟨q, q1, q2⟩ := List.mem_map.mp k.t1
    have := h.t2 q q1; have := k.t2 p p1; omega
  have er : a.l + a.w - 1 = b.l + b.w - 1 := by
    obtain ⟨p, p1, p2⟩ := List.mem_map.mp h.r1
    obtain ⟨q, q1, q2⟩ := List.mem_map.mp k.r1
    have := h.r2 q q1; have := k.r2 p p1; omega
  have eb : a.t + a.h - 1 = b.t + b.h - 1 := by
    obtain ⟨p, p1, p2⟩ := List.mem_map.mp h.b1
    obtain ⟨q, q1, q2⟩ := List.mem_map.mp k.b1
    have := h.b2 q q1; have := k.b2 p p1; omega
  obtain ⟨l, t, w, h'⟩ := a
  obtain ⟨l2, t2, w2, h2⟩ := b
  simp only at el et er eb
  subst el et
  have : w = w2 := by omega
  have : h' = h2 := by omega
  simp [*]
/-- r is the rectangle around s -/
def IsBox : Sh → R → Prop
  | .rect x y w h, r => r = ⟨x, y, w, h⟩
  | .line x y u v, r => IsBB [(x, y), (u, v)] r
  | .poly p ps, r => IsBB (p :: ps) r
  | .circ x y q, r => r = ⟨x - q, y - q, 2 * q + 1, 2 * q + 1⟩
  | .tS x y l, r => r = ⟨x, y, tw l, 7⟩
  | .tM x y l, r => r = ⟨x - tw l / 2, y, tw l, 7⟩
  | .tE x y l, r => r = ⟨x - tw l, y, tw l, 7⟩
theorem IsBox.one {s : Sh} {a b : R} (h : IsBox s a) (k : IsBox s b) : a = b := by
  cases s with
  | line x y u v => exact IsBB.one h k
  | poly p ps => exact IsBB.one h k
  | rect x y w h' => exact Eq.trans h (Eq.symm k)
  | circ x y q => exact Eq.trans h (Eq.symm k)
  | tS x y l => exact Eq.trans h (Eq.symm k)
  | tM x y l => exact Eq.trans h (Eq.symm k)
  | tE x y l => exact Eq.trans h (Eq.symm k)
theorem flat_ev : ∀ ps : List (Int × Int), ev (flat ps) = ps.map (·.1)
  | [] => rfl
  | p :: r => by show p.1 :: ev (flat r) = _; rw [flat_ev r]; rfl
theorem flat_od : ∀ ps : List (Int × Int), ev ((flat ps).drop 1) = ps.map (·.2)
  | [] => rfl
  | [p] => rfl
  | p :: q :: r => by
    have := flat_od (q :: r)
    show p.2 :: ev (q.2 :: flat r) = _
    have e : ev (q.2 :: flat r) = ev ((flat (q :: r)).drop 1) := rfl
    rw [e, this]
    rfl
theorem flat_len : ∀ ps : List (Int × Int), (flat ps).length = 2 * ps.length
  | [] => rfl
  | p :: r => by show (flat r).length + 1 + 1 = _; rw [flat_len r, List.length_cons]; omega
theorem flat_app : ∀ a b : List (Int × Int), flat (a ++ b) = flat a ++ flat b
  | [], b => rfl
  | p :: r, b => by show p.1 :: p.2 :: flat (r ++ b) = _; rw [flat_app r b]; rfl
theorem flat_at : ∀ (ps : List (Int × Int)) (i : Nat) (p : Int × Int), ps[i]? = some p → (flat ps)[2 * i]? = some p.1 ∧ (flat ps)[2 * i + 1]? = some p.2
  | [], i, p, h => by simp at h
  | q :: r, 0, p, h => by
    have e : q = p := Option.some.inj h
    subst e
    exact ⟨rfl, rfl⟩
  | q :: r, i + 1, p, h => by
    have := flat_at r i p h
    show (q.1 :: q.2 :: flat r)[2 * (i + 1)]? = _ ∧ (q.1 :: q.2 :: flat r)[2 * (i + 1) + 1]? = _
    rw [show 2 * (i + 1) = 2 * i + 1 + 1 from by omega, List.getElem?_cons_succ, List.getElem?_cons_succ, List.getElem?_cons_succ, List.getElem?_cons_succ]
    exact this
theorem ev_map {α β : Type} (f : α → β) : ∀ l : List α, ev (l.map f) = (ev l).map f
  | [] => rfl
  | [_] => rfl
  | a :: b :: r => by show f a :: ev (r.map f) = _; rw [ev_map f r]; rfl
theorem Sh.pts_cor {s : Sh} (h : s.cor ≠ []) : s.pts = flat s.cor := by
  cases s <;> first | rfl | exact absurd rfl h
theorem bb_of {ps : List (Int × Int)} {L T Rt B : Int} (h1 : L ∈ ps.map (·.1)) (h1' : ∀ z, z ∈ ps.map (·.1) → L ≤ z) (h2 : T ∈ ps.map (·.2)) (h2' : ∀ z, z ∈ ps.map (·.2) → T ≤ z)
    (h3 : Rt ∈ ps.map (·.1)) (h3' : ∀ z, z ∈ ps.map (·.1) → z ≤ Rt) (h4 : B ∈ ps.map (·.2)) (h4' : ∀ z, z ∈ ps.map (·.2) → z ≤ B) : IsBB ps ⟨L, T, Rt - L + 1, B - T + 1⟩ := by
  have e1 : L + (Rt - L + 1) - 1 = Rt := by omega
  have e2 : T + (B - T + 1) - 1 = B := by omega
  refine ⟨h1, fun p hp => h1' _ (List.mem_map.mpr ⟨p, hp, rfl⟩), h2, fun p hp => h2' _ (List.mem_map.mpr ⟨p, hp, rfl⟩), ?_, fun p hp => ?_, ?_, fun p hp => ?_⟩
  · show L + (Rt - L + 1) - 1 ∈ _
    rw [e1]; exact h3
  · show _ ≤ L + (Rt - L + 1) - 1
    rw [e1]; exact h3' _ (List.mem_map.mpr ⟨p, hp, rfl⟩)
  · show T + (B - T + 1) - 1 ∈ _
    rw [e2]; exact h4
  · show _ ≤ T + (B - T + 1) - 1
    rw [e2]; exact h4' _ (List.mem_map.mpr ⟨p, hp, rfl⟩)
def iv (l : List Int) : List V := l.map V.int
structure ShOk (s : Sh) : Prop where
  word : Word s.txt
  tlen : s.txt.length ≤ 1000
  plen : s.pts.length ≤ 1000
def sp_around_points (K : PySem.W.Frag) : Sp := fun vs H Q _ => ∃ (v : V) (ps : List (Int × Int)), vs = [v] ∧ Tup K H v (iv (flat ps)) ∧ ps ≠ [] ∧ ps.length ≤ 1000 ∧ ∀ x r H', Same H H' → IsBB ps r → Rc K H' x r → Q x H'
def sp_around_text (K : PySem.W.Frag) : Sp := fun vs H Q _ => ∃ (s : Sh) (v : V), vs = [.str s.name, v, .str (S s.txt)] ∧ Tup K H v (iv s.pts) ∧ ShOk s ∧ (∃ x y l, s = .tS x y l ∨ s = .tM x y l ∨ s = .tE x y l) ∧ ∀ x r H', Same H H' → IsBox s r → Rc K H' x r → Q x H'
def sp_around (K : PySem.W.Frag) : Sp := fun vs H Q _ => ∃ (s : Sh) (v : V), vs = [.str s.name, v, .str (S s.txt)] ∧ Tup K H v (iv s.pts) ∧ ShOk s ∧ ∀ x r H', Same H H' → IsBox s r → Rc K H' x r → Q x H'
def sp_law_around (K : PySem.W.Frag) : Sp := sp_around K
end Cs

set_option maxRecDepth 100000
set_option maxHeartbeats 4000000
/-! min and max of a tuple of ints -/
namespace Cs
open PySem PySem.Spec PyProof.Rows L2
section
variable {prog : Program} {w : World} {A : Around} {E : Value → Shared → Prop} {s : Shared} {l : Addr} {xs : Array (Int × Tok)} {Q : Value → Shared → Prop}
theorem walk_tup (hl : s.heap.IsTuple l (intItems xs))
    (h : ∀ s₂ : Shared, s₂ = { s with heap := s.heap.push { cls := .type "tuple_iterator", data := .fields #[.ref l, .int 0 0] } } →
      (s₂.heap.IsTupleIter s.heap.objs.size l 0 ∧ s₂.heap.IsTuple l (intItems xs)) → (∀ b ∈ [s.heap.objs.size, l], b < s₂.heap.objs.size) → l ≠ s.heap.objs.size → Q (.ref s.heap.objs.size) s₂) :
    wpAny (model prog w) A (pyIter (.ref l)) Q E s := by
  have hlt : l < s.heap.objs.size := by
    obtain ⟨_, e, _⟩ := hl
    exact Heap.lt_size e
  refine wpAny_pyIter_tuple hl (h _ rfl ⟨⟨_, Heap.get?_push_size _ rfl, rfl, rfl⟩, hl.push _⟩ (fun b hb => ?_) (Nat.ne_of_lt hlt))
  show b < (s.heap.push _).objs.size
  rw [Heap.size_push]
  rcases List.mem_cons.mp hb with rfl | hb
  · exact Nat.lt_succ_self _
  · rw [List.mem_singleton.mp hb]
    exact Nat.lt_succ_of_lt hlt
theorem tup_old {h' : Heap} (hk : ∀ b o, b ∉ [s.heap.objs.size] → (s.heap.push { cls := .type "tuple_iterator", data := .fields #[.ref l, .int 0 0] }).get? b = some o → h'.get? b = some o) :
    ∀ b o, s.heap.get? b = some o → h'.get? b = some o := fun b o e => by
  refine hk b o (fun hm => ?_) (Heap.get?_push_of_some _ e)
  have := Heap.lt_size e
  rw [List.mem_singleton.mp hm] at this
  exact absurd this (Nat.lt_irrefl _)
theorem max_tup (hh : A.handled = none) (hl : s.heap.IsTuple l (intItems xs)) (hne : 0 < xs.size)
    (h : ∀ v h' tk, (intItems xs)[argBest (fun i j => decide (numAt xs i > numAt xs j)) (xs.size - 1)]? = some v → (∀ b o, s.heap.get? b = some o → h'.get? b = some o) → Q v { s with heap := h', toks := tk }) :
    wpAny (model prog w) A (call (.builtin "max") [.ref l]) Q E s := by
  refine call_max_walk (walk_tup hl fun s₂ e st hfp hlI => ?_)
  subst e
  refine ⟨_, _, _, _, _, _, _, rfl, Walks.tuple (A := A.in1) hh _ l hlI (intItems xs), st, hfp, by simpa [intItems] using hne, CmpOf.ints_gt (numAt xs) (fun _ _ => intItems_at), fun v h' tk hP hk => ?_⟩
  exact h v h' tk (by simpa [intItems] using hP) (tup_old hk)
theorem min_tup (hh : A.handled = none) (hl : s.heap.IsTuple l (intItems xs)) (hne : 0 < xs.size)
    (h : ∀ v h' tk, (intItems xs)[argBest (fun i j => decide (numAt xs i < numAt xs j)) (xs.size - 1)]? = some v → (∀ b o, s.heap.get? b = some o → h'.get? b = some o) → Q v { s with heap := h', toks := tk }) :
    wpAny (model prog w) A (call (.builtin "min") [.ref l]) Q E s := by
  refine call_min_walk (walk_tup hl fun s₂ e st hfp hlI => ?_)
  subst e
  refine ⟨_, _, _, _, _, _, _, rfl, Walks.tuple (A := A.in1) hh _ l hlI (intItems xs), st, hfp, by simpa [intItems] using hne, CmpOf.ints_lt (numAt xs) (fun _ _ => intItems_at), fun v h' tk hP hk => ?_⟩
  exact h v h' tk (by simpa [intItems] using hP) (tup_old hk)
end
section
variable {X : Cx}
def rMaxT (K : PySem.W.Frag) : List V → Hp → VK → Prop := fun vs H Q => ∃ (a : Addr) (ns : List Int), vs = [V.ref a] ∧ SqT K H a (ns.map V.int) ∧ 0 < ns.length ∧ ∀ m, m ∈ ns → (∀ y, y ∈ ns → y ≤ m) → Q (.int m) H
def rMinT (K : PySem.W.Frag) : List V → Hp → VK → Prop := fun vs H Q => ∃ (a : Addr) (ns : List Int), vs = [V.ref a] ∧ SqT K H a (ns.map V.int) ∧ 0 < ns.length ∧ ∀ m, m ∈ ns → (∀ y, y ∈ ns → m ≤ y) → Q (.int m) H
theorem cr_maxT (hc : X.calm = true) : CallR X (.builtin "max") (rMaxT X.K) := by
  intro pins s σ H vs us Q I r h
  obtain ⟨a, ns, rfl, hs, hne, q⟩ := h
  obtain ⟨its, rv, hl, _⟩ := I.tuple hs
  rw [Vals.ref1 r]
  have hi := rv.ints
  obtain ⟨xs, e⟩ := hi.allInts.items
  have hn : numsOf (intItems xs).toList = ns := by rw [← e]; exact hi.numsOf
  rw [nums_intItems] at hn
  subst hn
  rw [e] at hl
  have hsz : 0 < xs.size := by simpa using hne
  refine max_tup (I.ok.hd hc) hl hsz fun v h' tk hv hk => ?_
  obtain ⟨t, rfl⟩ := intItems_at hv
  obtain ⟨h1, h2⟩ := argBest_gt (numAt xs) (xs.size - 1)
  refine ⟨.int _, H, I.kept hk, ⟨_, rfl⟩, q _ ?_ fun a ha => ?_⟩
  · rw [numAt_eq]; exact PySem.getD_mem (by rw [List.length_map, Array.length_toList]; omega)
  · obtain ⟨j, hj, rfl⟩ := mem_getD ha
    rw [List.length_map, Array.length_toList] at hj
    rw [← numAt_eq]; exact h2 j (by omega)
theorem cr_minT (hc : X.calm = true) : CallR X (.builtin "min") (rMinT X.K) := by
  intro pins s σ H vs us Q I r h
  obtain ⟨a, ns, rfl, hs, hne, q⟩ := h
  obtain ⟨its, rv, hl, _⟩ := I.tuple hs
  rw [Vals.ref1 r]
  have hi := rv.ints
  obtain ⟨xs, e⟩ := hi.allInts.items
  have hn : numsOf (intItems xs).toList = ns := by rw [← e]; exact hi.numsOf
  rw [nums_intItems] at hn
  subst hn
  rw [e] at hl
  have hsz : 0 < xs.size := by simpa using hne
  refine min_tup (I.ok.hd hc) hl hsz fun v h' tk hv hk => ?_
  obtain ⟨t, rfl⟩ := intItems_at hv
  obtain ⟨h1, h2⟩ := argBest_lt (numAt xs) (xs.size - 1)
  refine ⟨.int _, H, I.kept hk, ⟨_, rfl⟩, q _ ?_ fun a ha => ?_⟩
  · rw [numAt_eq]; exact PySem.getD_mem (by rw [List.length_map, Array.length_toList]; omega)
  · obtain ⟨j, hj, rfl⟩ := mem_getD ha
    rw [List.length_map, Array.length_toList] at hj
    rw [← numAt_eq]; exact h2 j (by omega)
theorem minT (K : PySem.W.Frag) (hc : X.calm = true) (h : X.K = K := by rfl) : CallR X (.builtin "min") (rMinT K) := h ▸ cr_minT hc
theorem maxT (K : PySem.W.Frag) (hc : X.calm = true) (h : X.K = K := by rfl) : CallR X (.builtin "max") (rMaxT K) := h ▸ cr_maxT hc
end
end Cs

set_option maxRecDepth 100000
set_option maxHeartbeats 4000000
/-! The plain layer: a def's text read as a plain program over data. -/
namespace Cs
open PySem PySem.Spec PyProof.Rows L2
/-! ### data that stays: lists in it are frozen -/
mutual
def lst0 : PyData → Bool
  | .none => true
  | .bool _ => true
  | .int _ => true
  | .str _ => true
  | .list _ => false
  | .tuple xs => lst0All xs
  | .dict _ => false
def lst0All : List PyData → Bool
  | [] => true
  | x :: xs => lst0 x && lst0All xs
end
def lf (_ : PyData) : Bool := true
def lfAll (_ : List PyData) : Bool := true
theorem lfAll_get : ∀ {ds : List PyData} {i : Nat} {d : PyData}, lfAll ds = true → ds[i]? = some d → lf d = true := fun _ _ => rfl
theorem lfAll_app {xs ys : List PyData} (_ : lfAll xs = true) (_ : lfAll ys = true) : lfAll (xs ++ ys) = true := rfl
theorem lfAll_iff {ds : List PyData} : lfAll ds = true ↔ ∀ d ∈ ds, lf d = true := ⟨fun _ _ _ => rfl, fun _ => rfl⟩
end Cs
namespace L2
open PySem PySem.Spec PyProof.Rows Cs
section
variable {K : PySem.W.Frag} {H H' : Hp}
/-- a list that nothing changes any more -/
def SqF (_ : PySem.W.Frag) (H : Hp) (a : Addr) (xs : List V) : Prop := ∃ o, H a = some (.frz o (.lst xs))
theorem SqF.sq {a : Addr} {xs : List V} (h : SqF K H a xs) : SqL K H a xs := .inl (.inr h)
theorem SqF.im {a : Addr} {xs : List V} (h : SqF K H a xs) (e : Im H H') : SqF K H' a xs := let ⟨o, h⟩ := h; ⟨o, e.frz _ _ _ h⟩
mutual
inductive Vl (K : PySem.W.Frag) (H : Hp) : V → PyData → Prop
  | non : Vl K H .non .none
  | bl (b : Bool) : Vl K H (.bl b) (.bool b)
  | int (i : Int) : Vl K H (.int i) (.int i)
  | str (x : Str) : Vl K H (.str x) (.str x)
  | lst {a : Addr} {xs : List V} {ds : List PyData} : SqF K H a xs → VlAll K H xs ds → Vl K H (.ref a) (.list ds)
  | tup {a : Addr} {xs : List V} {ds : List PyData} : H a = some (.tup xs) → VlAll K H xs ds → Vl K H (.ref a) (.tuple ds)
inductive VlAll (K : PySem.W.Frag) (H : Hp) : List V → List PyData → Prop
  | nil : VlAll K H [] []
  | cons {v : V} {vs : List V} {d : PyData} {ds : List PyData} : Vl K H v d → VlAll K H vs ds → VlAll K H (v :: vs) (d :: ds)
end
mutual
theorem Vl.dp : ∀ (d : PyData) (v : V), Vl K H v d → Dp K H v d
  | .none, _, h => by cases h; exact .non
  | .bool _, _, h => by cases h; exact .bl _
  | .int _, _, h => by cases h; exact .int _
  | .str _, _, h => by cases h; exact .str _
  | .list ds, _, h => by
    cases h with
    | lst hs ha => exact .lst hs.sq (VlAll.dp ds _ ha)
  | .dict _, _, h => by cases h
  | .tuple ds, _, h => by
    cases h with
    | tup hs ha => exact .tup (SqT.of hs) (VlAll.dp ds _ ha)
theorem VlAll.dp : ∀ (ds : List PyData) (vs : List V), VlAll K H vs ds → DpAll K H vs ds
  | [], _, h => by cases h; exact .nil
  | d :: ds, _, h => by
    cases h with
    | cons h1 h2 => exact .cons (Vl.dp d _ h1) (VlAll.dp ds _ h2)
end
mutual
theorem Vl.imlf (e : Im H H') : ∀ (d : PyData) (v : V), Vl K H v d → lf d = true → Vl K H' v d
  | .none, _, h, _ => by cases h; exact .non
  | .bool _, _, h, _ => by cases h; exact .bl _
  | .int _, _, h, _ => by cases h; exact .int _
  | .str _, _, h, _ => by cases h; exact .str _
  | .list ds, _, h, _ => by
    cases h with
    | lst hs ha => exact .lst (hs.im e) (VlAll.imlf e ds _ ha rfl)
  | .dict _, _, h, _ => by cases h
  | .tuple ds, _, h, f => by
    cases h with
    | tup hs ha => exact .tup (e.tup _ _ hs) (VlAll.imlf e ds _ ha rfl)
theorem VlAll.imlf (e : Im H H') : ∀ (ds : List PyData) (vs : List V), VlAll K H vs ds → lfAll ds = true → VlAll K H' vs ds
  | [], _, h, _ => by cases h; exact .nil
  | d :: ds, _, h, f => by
    cases h with
    | cons h1 h2 => exact .cons (Vl.imlf e d _ h1 rfl) (VlAll.imlf e ds _ h2 rfl)
end
theorem DpAll.len : ∀ {ds : List PyData} {vs : List V}, DpAll K H vs ds → vs.length = ds.length
  | [], _, h => by cases h; rfl
  | d :: ds, _, h => by
    cases h with
    | cons h1 h2 => simp only [List.length_cons, DpAll.len h2]
theorem VlAll.len : ∀ {ds : List PyData} {vs : List V}, VlAll K H vs ds → vs.length = ds.length
  | [], _, h => by cases h; rfl
  | d :: ds, _, h => by
    cases h with
    | cons h1 h2 => simp only [List.length_cons, VlAll.len h2]
theorem VlAll.get : ∀ {ds : List PyData} {vs : List V} {i : Nat} {d : PyData}, VlAll K H vs ds → ds[i]? = some d → ∃ v, vs[i]? = some v ∧ Vl K H v d
  | [], _, _, _, _, e => by simp at e
  | d :: ds, _, 0, _, h, e => by
    cases h with
    | cons h1 h2 => simp at e; subst e; exact ⟨_, rfl, h1⟩
  | d :: ds, _, i + 1, _, h, e => by
    cases h with
    | cons h1 h2 =>
      obtain ⟨v, h3, h4⟩ := VlAll.get (i := i) h2 (by simpa using e)
      exact ⟨v, by simpa using h3, h4⟩
theorem VlAll.getV : ∀ {ds : List PyData} {vs : List V} {i : Nat} {v : V}, VlAll K H vs ds → vs[i]? = some v → ∃ d, ds[i]? = some d ∧ Vl K H v d
  | [], _, _, _, h, e => by cases h; simp at e
  | d :: ds, _, 0, _, h, e => by
    cases h with
    | cons h1 h2 => simp at e; subst e; exact ⟨_, rfl, h1⟩
  | d :: ds, _, i + 1, _, h, e => by
    cases h with
    | cons h1 h2 =>
      obtain ⟨v, h3, h4⟩ := VlAll.getV (i := i) h2 (by simpa using e)
      exact ⟨v, by simpa using h3, h4⟩
theorem VlAll.app : ∀ {ds es : List PyData} {vs us : List V}, VlAll K H vs ds → VlAll K H us es → VlAll K H (vs ++ us) (ds ++ es)
  | [], _, _, _, h, q => by cases h; exact q
  | d :: ds, _, _, _, h, q => by
    cases h with
    | cons h1 h2 => exact .cons h1 (VlAll.app h2 q)
theorem VlAll.take : ∀ {ds : List PyData} {vs : List V} (n : Nat), VlAll K H vs ds → VlAll K H (vs.take n) (ds.take n)
  | _, _, 0, _ => .nil
  | [], _, n + 1, h => by cases h; exact .nil
  | d :: ds, _, n + 1, h => by
    cases h with
    | cons h1 h2 => exact .cons h1 (VlAll.take n h2)
theorem VlAll.drop : ∀ {ds : List PyData} {vs : List V} (n : Nat), VlAll K H vs ds → VlAll K H (vs.drop n) (ds.drop n)
  | _, _, 0, h => h
  | [], _, n + 1, h => by cases h; exact .nil
  | d :: ds, _, n + 1, h => by
    cases h with
    | cons h1 h2 => exact VlAll.drop n h2
theorem VlAll.set : ∀ {ds : List PyData} {vs : List V} (n : Nat) {v : V} {d : PyData}, VlAll K H vs ds → Vl K H v d → VlAll K H (vs.set n v) (ds.set n d)
  | [], _, _, _, _, h, _ => by cases h; exact .nil
  | d :: ds, _, 0, _, _, h, q => by
    cases h with
    | cons h1 h2 => exact .cons q h2
  | d :: ds, _, n + 1, _, _, h, q => by
    cases h with
    | cons h1 h2 => exact .cons h1 (VlAll.set n h2 q)
theorem lfAll_take {ds : List PyData} (n : Nat) (h : lfAll ds = true) : lfAll (ds.take n) = true := lfAll_iff.mpr fun d m => lfAll_iff.mp h d (List.mem_of_mem_take m)
theorem lfAll_drop {ds : List PyData} (n : Nat) (h : lfAll ds = true) : lfAll (ds.drop n) = true := lfAll_iff.mpr fun d m => lfAll_iff.mp h d (List.mem_of_mem_drop m)
theorem lfAll_set {ds : List PyData} (n : Nat) {d : PyData} (h : lfAll ds = true) (f : lf d = true) : lfAll (ds.set n d) = true := lfAll_iff.mpr fun e m => by
  rcases List.mem_or_eq_of_mem_set m with m | m
  · exact lfAll_iff.mp h e m
  · rw [m]; exact f
theorem VlAll.ofInts : ∀ (ns : List Int), VlAll K H (ns.map V.int) (ns.map PyData.int)
  | [] => .nil
  | n :: ns => .cons (.int n) (VlAll.ofInts ns)
/-- what a dict holds, key by key -/
def KvR {κ : Type} (K : PySem.W.Frag) (H : Hp) (vs : List (κ × V)) (ds : List (κ × PyData)) : Prop := vs.map Prod.fst = ds.map Prod.fst ∧ VlAll K H (vs.map Prod.snd) (ds.map Prod.snd)
theorem KvR.imlf {κ : Type} (e : Im H H') (ds : List (κ × PyData)) (vs : List (κ × V)) (h : KvR K H vs ds) (_ : True) : KvR K H' vs ds := ⟨h.1, h.2.imlf e _ _ rfl⟩
end
end L2
namespace Cs
open PySem PySem.Spec PyProof.Rows L2
/-! ### plain programs -/
inductive M (α : Type) where
  | ret (a : α)
  | fail
  | draw (m : Int) (k : Int → M α)
  | any (p : PyData → Prop) (k : PyData → M α)
def M.bind {α β : Type} : M α → (α → M β) → M β
  | .ret a, f => f a
  | .fail, _ => .fail
  | .draw m k, f => .draw m fun v => (k v).bind f
  | .any p k, f => .any p fun v => (k v).bind f
def wp0 {α : Type} : M α → (α → Prop) → Prop
  | .ret a, Q => Q a
  | .fail, _ => False
  | .draw m k, Q => ∀ v, 0 ≤ v → v < max m 1 → wp0 (k v) Q
  | .any p k, Q => ∀ d, p d → wp0 (k d) Q
@[simp] theorem M.ret_bind {α β : Type} (a : α) (f : α → M β) : (M.ret a).bind f = f a := rfl
@[simp] theorem M.fail_bind {α β : Type} (f : α → M β) : (M.fail : M α).bind f = .fail := rfl
@[simp] theorem M.draw_bind {α β : Type} (m : Int) (k : Int → M α) (f : α → M β) : (M.draw m k).bind f = .draw m fun v => (k v).bind f := rfl
@[simp] theorem M.any_bind {α β : Type} (p : PyData → Prop) (k : PyData → M α) (f : α → M β) : (M.any p k).bind f = .any p fun v => (k v).bind f := rfl
@[simp] theorem wp0_ret {α : Type} (a : α) (Q : α → Prop) : wp0 (.ret a) Q = Q a := rfl
theorem wp0_mono {α : Type} {Q Q' : α → Prop} (h : ∀ a, Q a → Q' a) : ∀ {m : M α}, wp0 m Q → wp0 m Q'
  | .ret a, q => h a q
  | .fail, q => q
  | .draw m k, q => fun v h0 h1 => wp0_mono h (q v h0 h1)
  | .any p k, q => fun d h0 => wp0_mono h (q d h0)
theorem wp0_bind {α β : Type} {f : α → M β} {Q : β → Prop} : ∀ {m : M α}, wp0 (m.bind f) Q ↔ wp0 m fun a => wp0 (f a) Q
  | .ret a => Iff.rfl
  | .fail => Iff.rfl
  | .draw m k => ⟨fun q v h0 h1 => wp0_bind.mp (q v h0 h1), fun q v h0 h1 => wp0_bind.mpr (q v h0 h1)⟩
  | .any p k => ⟨fun q d h0 => wp0_bind.mp (q d h0), fun q d h0 => wp0_bind.mpr (q d h0)⟩
theorem M.bind_assoc {α β γ : Type} (f : α → M β) (g : β → M γ) : ∀ m : M α, (m.bind f).bind g = m.bind fun a => (f a).bind g
  | .ret a => rfl
  | .fail => rfl
  | .draw m k => by simp only [draw_bind, M.bind_assoc f g]
  | .any p k => by simp only [any_bind, M.bind_assoc f g]
/-- an object that may change -/
inductive PO where
  | lst (ds : List PyData)
  | dT (kvs : List (List Key × PyData))
  | dK (kvs : List (Key × PyData))
  | lT (kvs : List (List Key × PyData))
/-- what a slot holds: data, an object of this def's own, one that is lent, the tape -/
inductive C where
  | val (d : PyData)
  | own (o : PO)
  | bor (o : PO)
  | tape
abbrev Ro := List (Option C)
section
variable (tp : Option (Addr × Addr)) (K : PySem.W.Frag)
def GrT (H H' : Hp) : Prop := ∀ b o, H b = some o → tp.map (·.1) ≠ some b → H' b = some o
/-- not the tape's -/
def TNe (a : Addr) : Prop := ∀ t l, tp = some (t, l) → a ≠ t ∧ a ≠ l
def TOk (H : Hp) : Prop := ∀ t l, tp = some (t, l) → TapeAt H t l
def BorL (H : Hp) (b : Addr) (u : HO) : Prop := Rd H b u ∧ tp.map (·.1) ≠ some b
def BorF (H : Hp) (b : Addr) (u : HO) : Prop := (∃ o, H b = some (.frz o u)) ∧ tp.map (·.1) ≠ some b
def OwnO (H : Hp) (a : Addr) : PO → Prop
  | .lst ds => ∃ vs, H a = some (.lst vs) ∧ VlAll K H vs ds ∧ lfAll ds = true
  | .dT ds => ∃ vs, H a = some (.dT vs) ∧ KvR K H vs ds ∧ True
  | .dK ds => ∃ vs, H a = some (.dK vs) ∧ KvR K H vs ds ∧ True
  | .lT _ => False
def BorO (H : Hp) (a : Addr) : PO → Prop
  | .lst ds => ∃ vs, BorL tp H a (.lst vs) ∧ VlAll K H vs ds ∧ lfAll ds = true
  | .dT ds => ∃ vs, BorL tp H a (.dT vs) ∧ KvR K H vs ds ∧ True
  | .dK ds => ∃ vs, BorL tp H a (.dK vs) ∧ KvR K H vs ds ∧ True
  | .lT ds => ∃ vs, BorF tp H a (.dT vs) ∧ KvR K H vs ds ∧ True
def RC (H0 H : Hp) (v : V) : C → Prop
  | .val d => Vl K H v d ∧ lf d = true
  | .own o => ∃ a, v = .ref a ∧ H0 a = none ∧ TNe tp a ∧ OwnO K H a o
  | .bor o => ∃ a, v = .ref a ∧ BorO tp K H a o
  | .tape => ∃ t l, tp = some (t, l) ∧ v = .ref t
/-- what a slot bears: Hq is what the def leaves as it is -/
def SR (Hq H : Hp) (v : V) : C → Prop
  | .val d => Vl K H v d ∧ lf d = true
  | .own o => ∃ a, v = .ref a ∧ Hq a = none ∧ TNe tp a ∧ OwnO K H a o
  | .bor o => ∃ a, v = .ref a ∧ BorO tp K Hq a o
  | .tape => ∃ t l, tp = some (t, l) ∧ v = .ref t
structure Rel (He Hq H : Hp) (σ : L2.St) (ρ : Ro) : Prop where
  len : σ.length = ρ.length
  at_ : ∀ (i : Nat) (c : C), ρ[i]? = some (some c) → ∃ v, σ[i]? = some (some v) ∧ SR tp K Hq H v c
  dist : ∀ (i j : Nat) (a : Addr) (o o' : PO), ρ[i]? = some (some (.own o)) → ρ[j]? = some (some (.own o')) → σ[i]? = some (some (.ref a)) → σ[j]? = some (some (.ref a)) → i = j
  sub : GrT tp He Hq
  gr : GrT tp Hq H
  tok : TOk tp H
  he : ∀ (t l : Addr), tp = some (t, l) → Hq t = none ∨ ∃ xs, Hq t = some (.lst xs)
end
section
variable {tp : Option (Addr × Addr)} {K : PySem.W.Frag} {H H' H'' H0 H1 He : Hp} {Hq : Hp} {σ : L2.St} {ρ : Ro}
theorem GrT.refl : GrT tp H H := fun _ _ e _ => e
theorem GrT.trans (a : GrT tp H H') (b : GrT tp H' H'') : GrT tp H H'' := fun c o e n => b c o (a c o e n) n
theorem GrT.of (a : Same H H') : GrT tp H H' := fun b o e _ => a b o e
theorem GrT.im (g : GrT tp H H') (t : TOk tp H) : Im H H' := by
  cases tp with
  | none => exact Im.same fun b o e => g b o e (by simp)
  | some q =>
    obtain ⟨a, l⟩ := q
    exact (t a l rfl).im fun b o e n => g b o e (by simpa using fun z => n z.symm)
theorem GrT.free (g : GrT tp H H') (t : TOk tp H') {b : Addr} (h : H' b = none) : H b = none := by
  cases e : H b with
  | none => rfl
  | some o =>
    by_cases q : tp.map (·.1) = some b
    · cases tp with
      | none => simp at q
      | some r =>
        obtain ⟨a, l⟩ := r
        obtain ⟨xs, e2⟩ := (t a l rfl).list
        have : a = b := by simpa using q
        subst this
        rw [h] at e2
        cases e2
    · rw [g b o e q] at h
      cases h
theorem TOk.same (t : TOk tp H) (e : Same H H') : TOk tp H' := fun a l h => (t a l h).same e
theorem TNe.ne {a : Addr} (h : TNe tp a) : tp.map (·.1) ≠ some a := by
  cases tp with
  | none => simp
  | some r =>
    obtain ⟨t, l⟩ := r
    simpa using fun z => (h t l rfl).1 z.symm
theorem TOk.tne (t : TOk tp H) {p : Addr} (h : H p = none) : TNe tp p := fun a l e => ⟨(t a l e).ne_t h, (t a l e).ne_l h⟩
theorem TOk.ne (t : TOk tp H) {p : Addr} (h : H p = none) : tp.map (·.1) ≠ some p := by
  cases tp with
  | none => simp
  | some r =>
    obtain ⟨a, l⟩ := r
    have := (t a l rfl).ne_t h
    simpa using fun z => this z.symm
theorem BorL.gr {b : Addr} {u : HO} (h : BorL tp H b u) (g : GrT tp H H') : BorL tp H' b u := by
  rcases h with ⟨h | ⟨o, h⟩, n⟩
  · exact ⟨.inl (g _ _ h n), n⟩
  · exact ⟨.inr ⟨o, g _ _ h n⟩, n⟩
theorem BorF.gr {b : Addr} {u : HO} (h : BorF tp H b u) (g : GrT tp H H') : BorF tp H' b u := let ⟨⟨o, h⟩, n⟩ := h; ⟨⟨o, g _ _ h n⟩, n⟩
theorem BorL.sq {b : Addr} {vs : List V} (h : BorL tp H b (.lst vs)) : SqL K H b vs := by
  exact .inl h.1
theorem OwnO.gr {a : Addr} {o : PO} (h : OwnO K H a o) (g : GrT tp H H') (t : TOk tp H) (n : TNe tp a) : OwnO K H' a o := by
  cases o with
  | lst ds =>
    obtain ⟨vs, h1, h2, h3⟩ := h
    exact ⟨vs, g _ _ h1 n.ne, h2.imlf (g.im t) ds _ h3, h3⟩
  | dT ds =>
    obtain ⟨vs, h1, h2, h3⟩ := h
    exact ⟨vs, g _ _ h1 n.ne, h2.imlf (g.im t) ds _ h3, h3⟩
  | dK ds =>
    obtain ⟨vs, h1, h2, h3⟩ := h
    exact ⟨vs, g _ _ h1 n.ne, h2.imlf (g.im t) ds _ h3, h3⟩
  | lT ds =>
    exact h.elim
theorem BorO.gr {a : Addr} {o : PO} (h : BorO tp K H a o) (g : GrT tp H H') (t : TOk tp H) : BorO tp K H' a o := by
  cases o with
  | lst ds =>
    obtain ⟨vs, h1, h2, h3⟩ := h
    exact ⟨vs, h1.gr g, h2.imlf (g.im t) ds _ h3, h3⟩
  | dT ds =>
    obtain ⟨vs, h1, h2, h3⟩ := h
    exact ⟨vs, h1.gr g, h2.imlf (g.im t) ds _ h3, h3⟩
  | dK ds =>
    obtain ⟨vs, h1, h2, h3⟩ := h
    exact ⟨vs, h1.gr g, h2.imlf (g.im t) ds _ h3, h3⟩
  | lT ds =>
    obtain ⟨vs, h1, h2, h3⟩ := h
    exact ⟨vs, h1.gr g, h2.imlf (g.im t) ds _ h3, h3⟩
theorem OwnO.bor {a : Addr} {o : PO} (h : OwnO K H a o) (n : TNe tp a) : BorO tp K H a o := by
  cases o with
  | lst ds =>
    obtain ⟨vs, h1, h2, h3⟩ := h
    exact ⟨vs, ⟨.inl h1, n.ne⟩, h2, h3⟩
  | dT ds =>
    obtain ⟨vs, h1, h2, h3⟩ := h
    exact ⟨vs, ⟨.inl h1, n.ne⟩, h2, h3⟩
  | dK ds =>
    obtain ⟨vs, h1, h2, h3⟩ := h
    exact ⟨vs, ⟨.inl h1, n.ne⟩, h2, h3⟩
  | lT ds =>
    exact h.elim
theorem RC.gr {v : V} {c : C} (h : RC tp K H0 H v c) (g : GrT tp H H') (t : TOk tp H) : RC tp K H0 H' v c := by
  cases c with
  | val d => exact ⟨h.1.imlf (g.im t) d _ h.2, h.2⟩
  | own o =>
    obtain ⟨a, e, f, n, h⟩ := h
    exact ⟨a, e, f, n, h.gr g t n⟩
  | bor o =>
    obtain ⟨a, e, h⟩ := h
    exact ⟨a, e, h.gr g t⟩
  | tape => exact h
theorem RC.base {v : V} {c : C} (h : RC tp K H1 H v c) (g : GrT tp H0 H1) (t : TOk tp H1) : RC tp K H0 H v c := by
  cases c with
  | val d => exact h
  | own o =>
    obtain ⟨a, e, f, n, h⟩ := h
    exact ⟨a, e, g.free t f, n, h⟩
  | bor o => exact h
  | tape => exact h
theorem SR.gr {v : V} {c : C} (h : SR tp K Hq H v c) (g : GrT tp H H') (t : TOk tp H) : SR tp K Hq H' v c := by
  cases c with
  | val d => exact ⟨h.1.imlf (g.im t) d _ h.2, h.2⟩
  | own o =>
    obtain ⟨a, e, f, n, h⟩ := h
    exact ⟨a, e, f, n, h.gr g t n⟩
  | bor o => exact h
  | tape => exact h
theorem Rel.go (r : Rel tp K He Hq H σ ρ) (g : GrT tp H H') (t : TOk tp H') : Rel tp K He Hq H' σ ρ :=
  ⟨r.len, fun i c e => let ⟨v, h1, h2⟩ := r.at_ i c e; ⟨v, h1, h2.gr g r.tok⟩, r.dist, r.sub, r.gr.trans g, t, r.he⟩
/-- data that a thing reads as -/
def PO.dat : PO → Option PyData
  | .lst ds => some (.list ds)
  | _ => none
def C.dat : C → Option PyData
  | .val d => some d
  | .own o => o.dat
  | .bor o => o.dat
  | .tape => none
theorem RC.dp {v : V} {c : C} {d : PyData} (h : RC tp K H0 H v c) (e : c.dat = some d) : Dp K H v d := by
  cases c with
  | val d' => cases e; exact h.1.dp _ _
  | own o =>
    obtain ⟨a, rfl, _, _, h⟩ := h
    cases o with
    | lst ds =>
      cases e
      obtain ⟨vs, h1, h2, _⟩ := h
      exact .lst (SqL.of h1) (h2.dp _ _)
    | dT _ => cases e
    | dK _ => cases e
    | lT _ => cases e
  | bor o =>
    obtain ⟨a, rfl, h⟩ := h
    cases o with
    | lst ds =>
      cases e
      obtain ⟨vs, h1, h2, _⟩ := h
      exact .lst h1.sq (h2.dp _ _)
    | dT _ => cases e
    | dK _ => cases e
    | lT _ => cases e
  | tape => cases e
/-- what follows an expression -/
def Post (tp : Option (Addr × Addr)) (K : PySem.W.Frag) (H : Hp) (Q : VK) (c : C) : Prop := ∀ v H', GrT tp H H' → TOk tp H' → RC tp K H H' v c → Q v H'
/-- the reading t is served by the plain program g -/
def RE (K : PySem.W.Frag) (t : TE) (g : Ro → M C) : Prop := ∀ tp He Hq ρ σ H Q, Rel tp K He Hq H σ ρ → wp0 (g ρ) (Post tp K H Q) → t σ H Q
def PostB (tp : Option (Addr × Addr)) (H : Hp) (Q : Bool → Hp → Prop) (b : Bool) : Prop := ∀ H', GrT tp H H' → TOk tp H' → Q b H'
def RT (K : PySem.W.Frag) (t : TT) (g : Ro → M Bool) : Prop := ∀ tp He Hq ρ σ H Q, Rel tp K He Hq H σ ρ → wp0 (g ρ) (PostB tp H Q) → t σ H Q
def RCs (tp : Option (Addr × Addr)) (K : PySem.W.Frag) (H0 H : Hp) : List V → List C → Prop
  | [], [] => True
  | v :: vs, c :: cs => RC tp K H0 H v c ∧ RCs tp K H0 H vs cs
  | _, _ => False
def PostA (tp : Option (Addr × Addr)) (K : PySem.W.Frag) (H : Hp) (Q : List V → Hp → Prop) (cs : List C) : Prop := ∀ vs H', GrT tp H H' → TOk tp H' → RCs tp K H H' vs cs → Q vs H'
def RA (K : PySem.W.Frag) (t : TA) (g : Ro → M (List C)) : Prop := ∀ tp He Hq ρ σ H Q, Rel tp K He Hq H σ ρ → wp0 (g ρ) (PostA tp K H Q) → t σ H Q
/-- behind one expression, another -/
theorem Post.step {m : M C} {P Q : C → Prop} (h : wp0 m P) (k : ∀ c, P c → Q c) : wp0 m Q := wp0_mono k h
/-! ### names and constants -/
def gVar (i : Nat) (ρ : Ro) : M C := match ρ[i]? with
  | some (some (.own o)) => .ret (.bor o)
  | some (some c) => .ret c
  | _ => .fail
theorem Rel.im (r : Rel tp K He Hq H σ ρ) : Im Hq H := by
  have n : ∀ b o, Hq b = some o → (∀ xs, o ≠ .lst xs) → tp.map (·.1) ≠ some b := fun b o e h z => by
    cases tp with
    | none => simp at z
    | some w =>
      obtain ⟨t, l⟩ := w
      have : t = b := by simpa using z
      subst this
      rcases r.he t l rfl with q | ⟨xs, q⟩
      · rw [q] at e; cases e
      · rw [q] at e; cases e; exact h xs rfl
  exact ⟨fun b xs e => r.gr b _ e (n b _ e fun _ z => by cases z), fun b o u e => r.gr b _ e (n b _ e fun _ z => by cases z)⟩
theorem Rel.bor (r : Rel tp K He Hq H σ ρ) {a : Addr} {o : PO} (h : BorO tp K Hq a o) : BorO tp K H a o := by
  cases o with
  | lst ds =>
    obtain ⟨vs, h1, h2, h3⟩ := h
    exact ⟨vs, h1.gr r.gr, h2.imlf r.im ds _ h3, h3⟩
  | dT ds =>
    obtain ⟨vs, h1, h2, h3⟩ := h
    exact ⟨vs, h1.gr r.gr, h2.imlf r.im ds _ h3, h3⟩
  | dK ds =>
    obtain ⟨vs, h1, h2, h3⟩ := h
    exact ⟨vs, h1.gr r.gr, h2.imlf r.im ds _ h3, h3⟩
  | lT ds =>
    obtain ⟨vs, h1, h2, h3⟩ := h
    exact ⟨vs, h1.gr r.gr, h2.imlf r.im ds _ h3, h3⟩
def C.lend : C → C
  | .own o => .bor o
  | c => c
theorem RC.lend {v : V} {c : C} (h : RC tp K H0 H v c) : RC tp K H1 H v c.lend := by
  cases c with
  | val d => exact h
  | own o =>
    obtain ⟨a, e, f, n, h⟩ := h
    exact ⟨a, e, h.bor n⟩
  | bor o => exact h
  | tape => exact h
theorem Rel.var (r : Rel tp K He Hq H σ ρ) {i : Nat} {c : C} (e : ρ[i]? = some (some c)) : ∃ v, σ[i]? = some (some v) ∧ RC tp K H H v c.lend := by
  obtain ⟨v, h1, h2⟩ := r.at_ i c e
  refine ⟨v, h1, ?_⟩
  cases c with
  | val d => exact h2
  | own o =>
    obtain ⟨a, e, f, n, h⟩ := h2
    exact ⟨a, e, h.bor n⟩
  | bor o =>
    obtain ⟨a, e, h⟩ := h2
    exact ⟨a, e, r.bor h⟩
  | tape => exact h2
theorem re_var {i : Nat} : RE K (tVar i) (gVar i) := by
  intro tp He Hq ρ σ H Q r h
  unfold gVar at h
  split at h
  · rename_i o e
    obtain ⟨v, h1, h2⟩ := r.var e
    exact ⟨v, h1, h v H .refl r.tok h2⟩
  · rename_i e
    obtain ⟨v, h1, h2⟩ := r.var e
    refine ⟨v, h1, h v H .refl r.tok ?_⟩
    rename_i c' n
    cases c' with
    | own o => exact absurd rfl (n o)
    | val d => exact h2
    | bor d => exact h2
    | tape => exact h2
  · exact h.elim
def gC (d : PyData) (_ : Ro) : M C := .ret (.val d)
theorem re_con {v : V} {d : PyData} (h : ∀ H, Vl K H v d) (f : lf d = true) : RE K (tC v) (gC d) := fun tp He Hq ρ σ H Q r q => q v H .refl r.tok ⟨h H, f⟩
theorem re_int {i : Int} : RE K (tC (.int i)) (gC (.int i)) := re_con (fun _ => .int i) rfl
theorem re_str {x : Str} : RE K (tC (.str x)) (gC (.str x)) := re_con (fun _ => .str x) rfl
theorem re_bl {b : Bool} : RE K (tC (.bl b)) (gC (.bool b)) := re_con (fun _ => .bl b) rfl
theorem re_non : RE K (tC .non) (gC .none) := re_con (fun _ => .non) rfl
/-! ### arguments, displays -/
def gaNil (_ : Ro) : M (List C) := .ret []
def gaCons (g : Ro → M C) (gs : Ro → M (List C)) (ρ : Ro) : M (List C) := (g ρ).bind fun c => (gs ρ).bind fun cs => .ret (c :: cs)
theorem RCs.gr : ∀ {vs : List V} {cs : List C}, RCs tp K H0 H vs cs → GrT tp H H' → TOk tp H → RCs tp K H0 H' vs cs
  | [], [], _, _, _ => trivial
  | v :: vs, c :: cs, h, g, t => ⟨h.1.gr g t, RCs.gr h.2 g t⟩
  | [], _ :: _, h, _, _ => h.elim
  | _ :: _, [], h, _, _ => h.elim
theorem RCs.base : ∀ {vs : List V} {cs : List C}, RCs tp K H1 H vs cs → GrT tp H0 H1 → TOk tp H1 → RCs tp K H0 H vs cs
  | [], [], _, _, _ => trivial
  | v :: vs, c :: cs, h, g, t => ⟨h.1.base g t, RCs.base h.2 g t⟩
  | [], _ :: _, h, _, _ => h.elim
  | _ :: _, [], h, _, _ => h.elim
theorem ra_nil : RA K tNil gaNil := fun tp He Hq ρ σ H Q r q => q [] H .refl r.tok trivial
theorem ra_cons {t : TE} {u : TA} {g : Ro → M C} {gs : Ro → M (List C)} (h1 : RE K t g) (h2 : RA K u gs) : RA K (tCons t u) (gaCons g gs) := by
  intro tp He Hq ρ σ H Q r h
  refine h1 tp He Hq ρ σ H _ r (wp0_mono (fun c hc => ?_) (wp0_bind.mp h))
  intro x H1 g1 t1 rc
  refine h2 tp He Hq ρ σ H1 _ (r.go g1 t1) (wp0_mono (fun cs hcs => ?_) (wp0_bind.mp hc))
  intro xs H2 g2 t2 rcs
  exact hcs (x :: xs) H2 (g1.trans g2) t2 ⟨rc.gr g2 t1, rcs.base g1 t1⟩
def datas : List C → Option (List PyData)
  | [] => some []
  | .val d :: cs => (datas cs).map (d :: ·)
  | _ :: _ => none
theorem datas_dp : ∀ {vs : List V} {cs : List C} {ds : List PyData}, RCs tp K H0 H vs cs → datas cs = some ds → VlAll K H vs ds ∧ lfAll ds = true
  | [], [], ds, _, e => by cases e; exact ⟨.nil, rfl⟩
  | v :: vs, .val d :: cs, ds, h, e => by
    unfold datas at e
    cases q : datas cs with
    | none => rw [q] at e; cases e
    | some es =>
      rw [q] at e
      cases e
      obtain ⟨a1, a2⟩ := datas_dp h.2 q
      exact ⟨.cons h.1.1 a1, rfl⟩
  | _ :: _, .own _ :: _, _, _, e => by cases e
  | _ :: _, .bor _ :: _, _, _, e => by cases e
  | _ :: _, .tape :: _, _, _, e => by cases e
  | [], _ :: _, _, h, _ => h.elim
  | _ :: _, [], _, h, _ => h.elim
/-- lengths that the model holds -/
def lenOk (n : Nat) : Bool := decide (n ≤ 16777216)
theorem lenOk_le {n : Nat} (h : lenOk n = true) : n ≤ sizeLine := by rw [show sizeLine = 16777216 by decide]; exact of_decide_eq_true h
def oTup (cs : List C) : M C := match datas cs with
  | some ds => if lenOk ds.length = true then .ret (.val (.tuple ds)) else .fail
  | none => .fail
def oLst (cs : List C) : M C := match datas cs with
  | some ds => if lenOk ds.length = true then .ret (.own (.lst ds)) else .fail
  | none => .fail
def gTupE (gs : Ro → M (List C)) (ρ : Ro) : M C := (gs ρ).bind oTup
def gLst (gs : Ro → M (List C)) (ρ : Ro) : M C := (gs ρ).bind oLst
theorem re_tup {u : TA} {gs : Ro → M (List C)} (h1 : RA K u gs) : RE K (tTup u) (gTupE gs) := by
  intro tp He Hq ρ σ H Q r h
  refine h1 tp He Hq ρ σ H _ r (wp0_mono (fun cs hcs => ?_) (wp0_bind.mp h))
  intro xs H1 g1 t1 rc
  unfold oTup at hcs
  split at hcs
  · rename_i ds e
    obtain ⟨a1, a2⟩ := datas_dp rc e
    split at hcs
    · rename_i l
      refine ⟨by rw [a1.len]; exact lenOk_le l, fun p hp => hcs _ _ (g1.trans (.of (Same.new hp))) (t1.same (Same.new hp)) ⟨.tup upd_same (a1.imlf (Im.new hp) ds _ a2), rfl⟩⟩
    · exact hcs.elim
  · exact hcs.elim
theorem re_lst {u : TA} {gs : Ro → M (List C)} (h1 : RA K u gs) : RE K (tLst u) (gLst gs) := by
  intro tp He Hq ρ σ H Q r h
  refine h1 tp He Hq ρ σ H _ r (wp0_mono (fun cs hcs => ?_) (wp0_bind.mp h))
  intro xs H1 g1 t1 rc
  unfold oLst at hcs
  split at hcs
  · rename_i ds e
    obtain ⟨a1, a2⟩ := datas_dp rc e
    split at hcs
    · rename_i l
      refine ⟨by rw [a1.len]; exact lenOk_le l, fun p hp => hcs _ _ (g1.trans (.of (Same.new hp))) (t1.same (Same.new hp)) ⟨p, rfl, g1.free t1 hp, t1.tne hp, xs, upd_same, a1.imlf (Im.new hp) ds _ a2, a2⟩⟩
    · exact hcs.elim
  · exact hcs.elim
end
end Cs

set_option maxRecDepth 100000
set_option maxHeartbeats 4000000
/-! operators by values -/
namespace Cs
open PySem PySem.Spec PyProof.Rows L2
section
variable {tp : Option (Addr × Addr)} {K : PySem.W.Frag} {H H' H'' H0 H1 He : Hp} {Hq : Hp} {σ : L2.St} {ρ : Ro}
def OpS (K : PySem.W.Frag) (r : R2) (op : C → C → M C) : Prop := ∀ tp H0 H x y cx cy Q, GrT tp H0 H → TOk tp H → RC tp K H0 H x cx → RC tp K H0 H y cy → wp0 (op cx cy) (Post tp K H0 Q) → r x y H Q
def gOp (op : C → C → M C) (ga gb : Ro → M C) (ρ : Ro) : M C := (ga ρ).bind fun a => (gb ρ).bind fun b => op a b
theorem re_op {r : R2} {op : C → C → M C} {ta tb : TE} {ga gb : Ro → M C} (ho : OpS K r op) (ha : RE K ta ga) (hb : RE K tb gb) : RE K (tOp r ta tb) (gOp op ga gb) := by
  intro tp He Hq ρ σ H Q rl h
  refine ha tp He Hq ρ σ H _ rl (wp0_mono (fun a h1 => ?_) (wp0_bind.mp h))
  intro x H1 g1 t1 rx
  refine hb tp He Hq ρ σ H1 _ (rl.go g1 t1) (wp0_mono (fun b h2 => ?_) (wp0_bind.mp h1))
  intro y H2 g2 t2 ry
  exact ho tp H H2 x y a b Q (g1.trans g2) t2 (rx.gr g2 t1) (ry.base g1 t1) h2
def UnS (K : PySem.W.Frag) (r : V → Hp → VK → Prop) (op : C → M C) : Prop := ∀ tp H0 H x cx Q, GrT tp H0 H → TOk tp H → RC tp K H0 H x cx → wp0 (op cx) (Post tp K H0 Q) → r x H Q
def gUn (op : C → M C) (ga : Ro → M C) (ρ : Ro) : M C := (ga ρ).bind op
theorem re_un {r : V → Hp → VK → Prop} {op : C → M C} {ta : TE} {ga : Ro → M C} (ho : UnS K r op) (ha : RE K ta ga) : RE K (tUn r ta) (gUn op ga) := by
  intro tp He Hq ρ σ H Q rl h
  refine ha tp He Hq ρ σ H _ rl (wp0_mono (fun a h1 => ?_) (wp0_bind.mp h))
  intro x H1 g1 t1 rx
  exact ho tp H H1 x a Q g1 t1 rx h1
/-- a flat answer, the heap as it is -/
theorem Post.at_ {Q : VK} {c : C} {v : V} (p : Post tp K H0 Q c) (g : GrT tp H0 H) (t : TOk tp H) (r : RC tp K H0 H v c) : Q v H := p v H g t r
theorem Post.int {Q : VK} {i : Int} (p : Post tp K H0 Q (.val (.int i))) (g : GrT tp H0 H) (t : TOk tp H) : Q (.int i) H := p _ H g t ⟨.int i, rfl⟩
theorem Post.bl {Q : VK} {b : Bool} (p : Post tp K H0 Q (.val (.bool b))) (g : GrT tp H0 H) (t : TOk tp H) : Q (.bl b) H := p _ H g t ⟨.bl b, rfl⟩
theorem Post.str {Q : VK} {b : Str} (p : Post tp K H0 Q (.val (.str b))) (g : GrT tp H0 H) (t : TOk tp H) : Q (.str b) H := p _ H g t ⟨.str b, rfl⟩
theorem Post.non {Q : VK} (p : Post tp K H0 Q (.val .none)) (g : GrT tp H0 H) (t : TOk tp H) : Q .non H := p _ H g t ⟨.non, rfl⟩
theorem Post.tup {Q : VK} {ds : List PyData} {vs : List V} {a : Addr} (p : Post tp K H0 Q (.val (.tuple ds))) (g : GrT tp H0 H) (t : TOk tp H) (n : H a = none) (h : VlAll K H vs ds) (f : lfAll ds = true) : Q (.ref a) (upd H a (.tup vs)) :=
  p _ _ (g.trans (.of (Same.new n))) (t.same (Same.new n)) ⟨.tup upd_same (h.imlf (Im.new n) ds _ f), rfl⟩
theorem Post.lst {Q : VK} {ds : List PyData} {vs : List V} {a : Addr} (p : Post tp K H0 Q (.own (.lst ds))) (g : GrT tp H0 H) (t : TOk tp H) (n : H a = none) (h : VlAll K H vs ds) (f : lfAll ds = true) : Q (.ref a) (upd H a (.lst vs)) :=
  p _ _ (g.trans (.of (Same.new n))) (t.same (Same.new n)) ⟨a, rfl, g.free t n, t.tne n, vs, upd_same, h.imlf (Im.new n) ds _ f, f⟩
theorem RC.int {v : V} {i : Int} (h : RC tp K H0 H v (.val (.int i))) : v = .int i := by obtain ⟨h, _⟩ := h; cases h; rfl
theorem RC.bl {v : V} {i : Bool} (h : RC tp K H0 H v (.val (.bool i))) : v = .bl i := by obtain ⟨h, _⟩ := h; cases h; rfl
theorem RC.str {v : V} {i : Str} (h : RC tp K H0 H v (.val (.str i))) : v = .str i := by obtain ⟨h, _⟩ := h; cases h; rfl
theorem RC.non {v : V} (h : RC tp K H0 H v (.val .none)) : v = .non := by obtain ⟨h, _⟩ := h; cases h; rfl
theorem RC.tup {v : V} {ds : List PyData} (h : RC tp K H0 H v (.val (.tuple ds))) : ∃ a vs, v = .ref a ∧ SqT K H a vs ∧ VlAll K H vs ds ∧ lfAll ds = true := by
  obtain ⟨h, f⟩ := h
  cases h with
  | tup h1 h2 => exact ⟨_, _, rfl, SqT.of h1, h2, rfl⟩
/-- a list, read -/
def C.items : C → Option (List PyData)
  | .own (.lst ds) => some ds
  | .bor (.lst ds) => some ds
  | .val (.list ds) => some ds
  | _ => none
theorem RC.rd {v : V} {c : C} {ds : List PyData} (h : RC tp K H0 H v c) (e : c.items = some ds) : ∃ a vs, v = .ref a ∧ Rd H a (.lst vs) ∧ VlAll K H vs ds ∧ lfAll ds = true := by
  cases c with
  | val d =>
    cases d <;> cases e
    obtain ⟨h, _⟩ := h
    cases h with
    | lst h1 h2 => exact ⟨_, _, rfl, .inr h1, h2, rfl⟩
  | tape => cases e
  | own o =>
    cases o with
    | lst es =>
      cases e
      obtain ⟨a, rfl, _, _, vs, h1, h2, h3⟩ := h
      exact ⟨a, vs, rfl, .inl h1, h2, h3⟩
    | dT _ => cases e
    | dK _ => cases e
    | lT _ => cases e
  | bor o =>
    cases o with
    | lst es =>
      cases e
      obtain ⟨a, rfl, vs, h1, h2, h3⟩ := h
      exact ⟨a, vs, rfl, h1.1, h2, h3⟩
    | dT _ => cases e
    | dK _ => cases e
    | lT _ => cases e
/-! ### + -/
def rCatR : R2 := fun x y H Q => ∃ l b xs zs, x = .ref l ∧ y = .ref b ∧ Rd H l (.lst xs) ∧ Rd H b (.lst zs) ∧ xs.length + zs.length ≤ sizeLine ∧ ∀ p, H p = none → Q (.ref p) (upd H p (.lst (xs ++ zs)))
theorem op_catR {X : Cx} : OpR X (binaryOp .Add) rCatR := by
  intro pins s σ H x y v u Q I rx ry h
  obtain ⟨l, b, xs, zs, rfl, rfl, hH, hB, hz, q⟩ := h
  cases rx
  cases ry
  obtain ⟨z, its, n, r, e⟩ := hH.ok I.hok
  obtain ⟨z2, its2, n2, r2, e2⟩ := hB.ok I.hok
  have hl := r.length
  have hl2 := r2.length
  refine PySem.P.add_list e e2 ?_ (by rw [List.size_toArray, List.size_toArray]; omega)
  have ea : its.toArray ++ its2.toArray = (its ++ its2).toArray := by simp
  rw [ea]
  exact ⟨.ref _, _, I.lnew (t' := s.toks) (r.append r2) (by rw [List.length_append]; omega), rfl, q _ I.fresh⟩
def rAddS : R2 := fun x y H Q => ∃ i j, x = .str i ∧ y = .str j ∧ i.length + j.length ≤ sizeLine ∧ Q (.str (i ++ j)) H
def rAddU (K : PySem.W.Frag) : R2 := fun x y H Q => rI0 (fun i j => .int (i + j)) x y H Q ∨ rAddS x y H Q ∨ rCatA K x y H Q ∨ rCatR x y H Q
theorem opAdd (K : PySem.W.Frag) {X : Cx} (h : X.K = K := by rfl) : OpR X (binaryOp .Add) (rAddU K) := by
  subst h
  intro pins s σ H x y v u Q I rx ry h
  rcases h with h | h | h | h
  · exact op_add pins s σ H x y v u Q I rx ry h
  · exact op_add_str pins s σ H x y v u Q I rx ry h
  · exact op_catA pins s σ H x y v u Q I rx ry h
  · exact op_catR pins s σ H x y v u Q I rx ry h
def addL : Option (List PyData) → Option (List PyData) → M C
  | some ds, some es => if lenOk (ds.length + es.length) = true then .ret (.own (.lst (ds ++ es))) else .fail
  | _, _ => .fail
def oAdd : C → C → M C
  | .val (.int i), .val (.int j) => .ret (.val (.int (i + j)))
  | .val (.str i), .val (.str j) => if lenOk (i.length + j.length) = true then .ret (.val (.str (i ++ j))) else .fail
  | .val (.tuple ds), .val (.tuple es) => if lenOk (ds.length + es.length) = true then .ret (.val (.tuple (ds ++ es))) else .fail
  | cx, cy => addL cx.items cy.items
theorem addL_ok {x y : V} {cx cy : C} {Q : VK} (g : GrT tp H0 H) (t : TOk tp H) (rx : RC tp K H0 H x cx) (ry : RC tp K H0 H y cy) (h : wp0 (addL cx.items cy.items) (Post tp K H0 Q)) : rAddU K x y H Q := by
  unfold addL at h
  split at h
  · rename_i ds es e1 e2
    obtain ⟨a, vs, rfl, q1, q2, q3⟩ := rx.rd e1
    obtain ⟨b, us, rfl, p1, p2, p3⟩ := ry.rd e2
    split at h
    · rename_i l
      exact .inr (.inr (.inr ⟨a, b, vs, us, rfl, rfl, q1, p1, by rw [q2.len, p2.len]; exact lenOk_le l, fun p hp => Post.lst h g t hp (q2.app p2) (lfAll_app q3 p3)⟩))
    · exact h.elim
  · exact h.elim
theorem os_add : OpS K (rAddU K) oAdd := by
  intro tp H0 H x y cx cy Q g t rx ry h
  unfold oAdd at h
  split at h
  · rename_i i j
    cases rx.int; cases ry.int
    exact .inl ⟨i, j, rfl, rfl, Post.int h g t⟩
  · rename_i i j
    cases rx.str; cases ry.str
    split at h
    · rename_i l
      exact .inr (.inl ⟨i, j, rfl, rfl, lenOk_le l, Post.str h g t⟩)
    · exact h.elim
  · rename_i ds es
    obtain ⟨a, vs, rfl, q1, q2, q3⟩ := rx.tup
    obtain ⟨b, us, rfl, p1, p2, p3⟩ := ry.tup
    split at h
    · rename_i l
      refine .inr (.inr (.inl ⟨a, b, vs, us, rfl, rfl, q1, p1, by rw [q2.len, p2.len]; exact lenOk_le l, fun e => ?_, fun _ e => ?_, fun _ _ p hp => Post.tup h g t hp (q2.app p2) (lfAll_app q3 p3)⟩))
      · subst e
        cases q2
        exact Post.at_ h g t ry
      · subst e
        cases p2
        rw [List.append_nil] at h
        exact Post.at_ h g t rx
    · exact h.elim
  · exact addL_ok g t rx ry h
/-! ### - * // % ** -/
def oInt (f : Int → Int → PyData) (c : Int → Int → Bool) : C → C → M C
  | .val (.int i), .val (.int j) => if c i j = true then .ret (.val (f i j)) else .fail
  | _, _ => .fail
theorem os_int {f : Int → Int → Int} {c : Int → Int → Bool} {R : Int → Int → Prop} (h : ∀ i j, c i j = true → R i j) : OpS K (rI R fun i j => .int (f i j)) (oInt (fun i j => .int (f i j)) c) := by
  intro tp H0 H x y cx cy Q g t rx ry q
  unfold oInt at q
  split at q
  · rename_i i j
    cases rx.int; cases ry.int
    split at q
    · rename_i e
      exact ⟨i, j, rfl, rfl, h i j e, Post.int q g t⟩
    · exact q.elim
  · exact q.elim
theorem os_int0 {f : Int → Int → Int} : OpS K (rI0 fun i j => .int (f i j)) (oInt (fun i j => .int (f i j)) fun _ _ => true) := by
  intro tp H0 H x y cx cy Q g t rx ry q
  unfold oInt at q
  split at q
  · rename_i i j
    cases rx.int; cases ry.int
    split at q
    · rename_i e
      exact ⟨i, j, rfl, rfl, Post.int q g t⟩
    · exact q.elim
  · exact q.elim
theorem os_cmp0 {f : Int → Int → Bool} : OpS K (rI0 fun i j => .bl (f i j)) (oInt (fun i j => .bool (f i j)) fun _ _ => true) := by
  intro tp H0 H x y cx cy Q g t rx ry q
  unfold oInt at q
  split at q
  · rename_i i j
    cases rx.int; cases ry.int
    split at q
    · rename_i e
      exact ⟨i, j, rfl, rfl, Post.bl q g t⟩
    · exact q.elim
  · exact q.elim
abbrev oSub : C → C → M C := oInt (fun i j => .int (i - j)) fun _ _ => true
abbrev oLt : C → C → M C := oInt (fun i j => .bool (decide (i < j))) fun _ _ => true
abbrev oLe : C → C → M C := oInt (fun i j => .bool (decide (i ≤ j))) fun _ _ => true
abbrev oGt : C → C → M C := oInt (fun i j => .bool (decide (j < i))) fun _ _ => true
abbrev oGe : C → C → M C := oInt (fun i j => .bool (decide (j ≤ i))) fun _ _ => true
def cMul (i j : Int) : Bool := decide (i.natAbs.log2 + j.natAbs.log2 < 1000000)
def cDiv (_ j : Int) : Bool := decide (0 < j) && decide (j.natAbs.log2 < 9000)
def cMod (_ j : Int) : Bool := decide (0 < j)
def cPow (i j : Int) : Bool := decide (0 ≤ j) && (decide (j ≤ 1000000) && decide (i.natAbs < 18446744073709551616))
abbrev oFdiv : C → C → M C := oInt (fun i j => .int (i / j)) cDiv
abbrev oMod : C → C → M C := oInt (fun i j => .int (i % j)) cMod
abbrev oPow : C → C → M C := oInt (fun i j => .int (i ^ j.toNat)) cPow
theorem os_sub : OpS K (rI0 fun i j => .int (i - j)) oSub := os_int0 (f := fun i j => i - j)
theorem os_fdiv : OpS K (rI CDivW fun i j => .int (i / j)) oFdiv := os_int (f := fun i j => i / j) fun i j h => by
  simp only [cDiv, Bool.and_eq_true, decide_eq_true_eq] at h
  exact h
/-- // by any divisor -/
def CDivA (_ j : Int) : Prop := j ≠ 0 ∧ j.natAbs.log2 < 9000
theorem op_fdivA {X : Cx} : OpR X (binaryOp .FloorDiv) (rI CDivA fun i j => .int (i.fdiv j)) := opI fun i j _ _ _ _ _ hc q => floordiv_int hc.1 q (.inl (PyProof.noPylong_of_log2 hc.2))
def cDivA (_ j : Int) : Bool := !decide (j = 0) && decide (j.natAbs.log2 < 9000)
abbrev oFdivA : C → C → M C := oInt (fun i j => .int (i.fdiv j)) cDivA
theorem os_fdivA : OpS K (rI CDivA fun i j => .int (i.fdiv j)) oFdivA := os_int (f := fun i j => i.fdiv j) fun i j h => by
  simp only [cDivA, Bool.and_eq_true, Bool.not_eq_true', decide_eq_false_iff_not, decide_eq_true_eq] at h
  exact h
theorem os_mod : OpS K (rI (fun _ j => 0 < j) fun i j => .int (i % j)) oMod := os_int (f := fun i j => i % j) fun i j h => of_decide_eq_true h
theorem os_pow : OpS K (rI CPow fun i j => .int (i ^ j.toNat)) oPow := os_int (f := fun i j => i ^ j.toNat) fun i j h => by
  simp only [cPow, Bool.and_eq_true, decide_eq_true_eq] at h
  exact ⟨h.1, h.2.1, by have := h.2.2; show _ < 18446744073709551616; exact this⟩
/-! ### * -/
def rRepR : R2 := fun x y H Q => ∃ l k xs, x = .ref l ∧ y = .int k ∧ H l = some (.lst xs) ∧ -(2 ^ 63) ≤ k ∧ k < 2 ^ 63 ∧ xs.length * k.toNat ≤ sizeLine ∧
  ∀ p, H p = none → Q (.ref p) (upd H p (.lst (List.replicate k.toNat xs).flatten))
def rMulU (K : PySem.W.Frag) : R2 := fun x y H Q => rI CMulW (fun i j => .int (i * j)) x y H Q ∨ rRepT K x y H Q ∨ rRep x y H Q
theorem opMul (K : PySem.W.Frag) {X : Cx} (h : X.K = K := by rfl) : OpR X (binaryOp .Mult) (rMulU K) := by
  subst h
  intro pins s σ H x y v u Q I rx ry h
  rcases h with h | h | h
  · exact op_mulW pins s σ H x y v u Q I rx ry h
  · exact op_repT pins s σ H x y v u Q I rx ry h
  · exact op_rep pins s σ H x y v u Q I rx ry h
def repD (k : Nat) (ds : List PyData) : List PyData := (List.replicate k ds).flatten
theorem dpRep {vs : List V} {ds : List PyData} (h : VlAll K H vs ds) : ∀ k : Nat, VlAll K H (List.replicate k vs).flatten (repD k ds)
  | 0 => .nil
  | k + 1 => by
    unfold repD
    rw [List.replicate_succ, List.replicate_succ, List.flatten_cons, List.flatten_cons]
    exact h.app (dpRep h k)
theorem lfAll_rep {ds : List PyData} (h : lfAll ds = true) : ∀ k : Nat, lfAll (repD k ds) = true
  | 0 => rfl
  | k + 1 => by
    unfold repD
    rw [List.replicate_succ, List.flatten_cons]
    exact lfAll_app h (lfAll_rep h k)
def cRepT (ds : List PyData) (k : Int) : Bool := !ds.isEmpty && (decide (2 ≤ k) && (decide (k ≤ 1000) && decide (ds.length ≤ 1000)))
def cRepL (ds : List PyData) (k : Int) : Bool := decide (-9223372036854775808 ≤ k) && (decide (k < 9223372036854775808) && lenOk (ds.length * k.toNat))
def oMul : C → C → M C
  | .val (.int i), .val (.int j) => if cMul i j = true then .ret (.val (.int (i * j))) else .fail
  | .val (.tuple ds), .val (.int k) => if cRepT ds k = true then .ret (.val (.tuple (repD k.toNat ds))) else .fail
  | .own (.lst ds), .val (.int k) => if cRepL ds k = true then .ret (.own (.lst (repD k.toNat ds))) else .fail
  | _, _ => .fail
theorem os_mul : OpS K (rMulU K) oMul := by
  intro tp H0 H x y cx cy Q g t rx ry h
  unfold oMul at h
  split at h
  · rename_i i j
    cases rx.int; cases ry.int
    split at h
    · rename_i e
      exact .inl ⟨i, j, rfl, rfl, (show i.natAbs.log2 + j.natAbs.log2 < 1000000 from of_decide_eq_true e), Post.int h g t⟩
    · exact h.elim
  · rename_i ds k
    obtain ⟨a, vs, rfl, q1, q2, q3⟩ := rx.tup
    cases ry.int
    split at h
    · rename_i e
      simp only [cRepT, Bool.and_eq_true, decide_eq_true_eq, Bool.not_eq_true'] at e
      refine .inr (.inl ⟨a, k, vs, rfl, rfl, q1, fun z => ?_, e.2.1, e.2.2.1, by rw [q2.len]; exact e.2.2.2, fun p hp => Post.tup h g t hp (dpRep q2 _) (lfAll_rep q3 _)⟩)
      subst z
      cases q2
      simp at e
    · exact h.elim
  · rename_i ds k
    obtain ⟨a, rfl, _, _, vs, q1, q2, q3⟩ := rx
    cases ry.int
    split at h
    · rename_i e
      simp only [cRepL, Bool.and_eq_true, decide_eq_true_eq] at e
      exact .inr (.inr ⟨a, k, vs, rfl, rfl, q1, e.1, e.2.1, by rw [q2.len]; exact lenOk_le e.2.2, fun p hp => Post.lst h g t hp (dpRep q2 _) (lfAll_rep q3 _)⟩)
    · exact h.elim
  · exact h.elim
/-! ### -x -/
def oNeg : C → M C
  | .val (.int i) => .ret (.val (.int (-i)))
  | _ => .fail
theorem us_neg : UnS K (rU fun i => .int (-i)) oNeg := by
  intro tp H0 H x cx Q g t rx h
  unfold oNeg at h
  split at h
  · rename_i i
    cases rx.int
    exact ⟨i, rfl, Post.int h g t⟩
  · exact h.elim
/-! ### == != is in -/
def rEqU (K : PySem.W.Frag) (n : Bool) : R2 := fun x y H Q => (∃ i j, x = .str i ∧ y = .str j ∧ Q (.bl (n ^^ decide (i = j))) H) ∨ ∃ d e, Dp K H x d ∧ Dp K H y e ∧ SeqAt.shaped d = true ∧ SeqAt.shaped e = true ∧ Q (.bl (n ^^ PyData.eqv d e)) H
theorem dec_strV {i j : Str} : decide (V.str i = V.str j) = decide (i = j) := by
  by_cases h : i = j
  · subst h; simp
  · rw [decide_eq_false h, decide_eq_false (fun z => h (V.str.inj z))]
theorem opEq (K : PySem.W.Frag) {X : Cx} (hu : X.A.units + 64 < cLine) (h : X.K = K := by rfl) : OpR X (compareOp .Eq) (rEqU K false) := by
  subst h
  intro pins s σ H x y v u Q I rx ry h
  rcases h with ⟨i, j, rfl, rfl, q⟩ | ⟨d, e, h1, h2, h3, h4, q⟩
  · rw [Bool.false_xor] at q
    exact op_eq pins s σ H _ _ v u Q I rx ry ⟨rfl, by rw [dec_strV]; exact q⟩
  · rw [Bool.false_xor] at q
    exact op_eqD hu pins s σ H x y v u Q I rx ry ⟨d, e, h1, h2, h3, h4, q⟩
theorem opNe (K : PySem.W.Frag) {X : Cx} (hu : X.A.units + 64 < cLine) (h : X.K = K := by rfl) : OpR X (compareOp .NotEq) (rEqU K true) := by
  subst h
  intro pins s σ H x y v u Q I rx ry h
  rcases h with ⟨i, j, rfl, rfl, q⟩ | ⟨d, e, h1, h2, h3, h4, q⟩
  · rw [Bool.true_xor] at q
    exact op_ne pins s σ H _ _ v u Q I rx ry ⟨rfl, by rw [dec_strV]; exact q⟩
  · rw [Bool.true_xor] at q
    exact op_neD hu pins s σ H x y v u Q I rx ry ⟨d, e, h1, h2, h3, h4, q⟩
def oEqD (n : Bool) : Option PyData → Option PyData → M C
  | some (.str i), some (.str j) => .ret (.val (.bool (n ^^ decide (i = j))))
  | some d, some e => if (SeqAt.shaped d && SeqAt.shaped e) = true then .ret (.val (.bool (n ^^ PyData.eqv d e))) else .fail
  | _, _ => .fail
def oEq (a b : C) : M C := oEqD false a.dat b.dat
def oNe (a b : C) : M C := oEqD true a.dat b.dat
theorem eqD_ok {n : Bool} {x y : V} {cx cy : C} {Q : VK} (g : GrT tp H0 H) (t : TOk tp H) (rx : RC tp K H0 H x cx) (ry : RC tp K H0 H y cy) (h : wp0 (oEqD n cx.dat cy.dat) (Post tp K H0 Q)) : rEqU K n x y H Q := by
  unfold oEqD at h
  split at h
  · rename_i i j h1 h2
    have r1 := rx.dp h1
    have r2 := ry.dp h2
    cases r1; cases r2
    exact .inl ⟨i, j, rfl, rfl, Post.bl h g t⟩
  · rename_i d e _ h1 h2
    split at h
    · rename_i s
      simp only [Bool.and_eq_true] at s
      exact .inr ⟨d, e, rx.dp h1, ry.dp h2, s.1, s.2, Post.bl h g t⟩
    · exact h.elim
  · exact h.elim
theorem os_eq : OpS K (rEqU K false) oEq := fun tp H0 H x y cx cy Q g t rx ry h => eqD_ok g t rx ry h
theorem os_ne : OpS K (rEqU K true) oNe := fun tp H0 H x y cx cy Q g t rx ry h => eqD_ok g t rx ry h
def C.isN : C → Bool
  | .val .none => true
  | _ => false
theorem RC.isN {v : V} {c : C} (h : RC tp K H0 H v c) : decide (v = .non) = c.isN := by
  cases c with
  | val d =>
    obtain ⟨h, f⟩ := h
    cases h <;> rfl
  | own o => obtain ⟨a, rfl, _⟩ := h; rfl
  | bor o => obtain ⟨a, rfl, _⟩ := h; rfl
  | tape => obtain ⟨a, _, _, rfl⟩ := h; rfl
def oIs : C → C → M C
  | a, .val .none => .ret (.val (.bool a.isN))
  | _, _ => .fail
def oIsNot : C → C → M C
  | a, .val .none => .ret (.val (.bool (!a.isN)))
  | _, _ => .fail
theorem os_is : OpS K (fun x y H Q => y = .non ∧ Q (.bl (decide (x = .non))) H) oIs := by
  intro tp H0 H x y cx cy Q g t rx ry h
  unfold oIs at h
  split at h
  · cases ry.non
    exact ⟨rfl, by rw [rx.isN]; exact Post.bl h g t⟩
  · exact h.elim
theorem os_isnot : OpS K (fun x y H Q => y = .non ∧ Q (.bl (!decide (x = .non))) H) oIsNot := by
  intro tp H0 H x y cx cy Q g t rx ry h
  unfold oIsNot at h
  split at h
  · cases ry.non
    exact ⟨rfl, by rw [rx.isN]; exact Post.bl h g t⟩
  · exact h.elim
def rInU (K : PySem.W.Frag) (n : Bool) : R2 := fun x y H Q => (∃ d ds, Dp K H x d ∧ (Dp K H y (.list ds) ∨ Dp K H y (.tuple ds)) ∧ SeqAt.shaped d = true ∧ SeqAt.shaped (.list ds) = true ∧ Q (.bl (n ^^ ds.any fun z => PyData.eqv z d)) H) ∨
  (∃ (c : Nat) (z : Str), x = .str ⟨#[c]⟩ ∧ y = .str z ∧ Q (.bl (n ^^ decide (c ∈ z.cps.toList))) H)
theorem shaped_tup {ds : List PyData} (h : SeqAt.shaped (.list ds) = true) : SeqAt.shaped (.tuple ds) = true := by
  have e : SeqAt.shaped (.list ds) = ((PyData.canLay0 (.list ds)) && decide ((PyData.depth (.list ds)) ≤ 64)) := rfl
  have e' : SeqAt.shaped (.tuple ds) = ((PyData.canLay0 (.tuple ds)) && decide ((PyData.depth (.tuple ds)) ≤ 64)) := rfl
  rw [e] at h
  rw [e']
  simp only [PyData.canLay0, PyData.depth] at h ⊢
  exact h
theorem opIn (K : PySem.W.Frag) {X : Cx} (hu : X.A.units + 65 < cLine) (h : X.K = K := by rfl) : OpR X (compareOp .In) (rInU K false) := by
  subst h
  intro pins s σ H x y v u Q I rx ry h
  rcases h with ⟨d, ds, hd, he | he, sd, se, q⟩ | h
  · rw [Bool.false_xor] at q
    exact op_inD hu pins s σ H x y v u Q I rx ry ⟨d, ds, hd, he, sd, se, q⟩
  · rw [Bool.false_xor] at q
    obtain ⟨as, r1⟩ := Dp.reads I d x v hd rx
    obtain ⟨bs, r2⟩ := Dp.reads I (.tuple ds) y u he ry
    exact SeqAt.in_tuple_reads r2 r1 (SeqAt.canLay_of_shaped se) (SeqAt.canLay_of_shaped sd) (room_in_shaped sd hu) ⟨.bl _, H, I, rfl, q⟩
  · obtain ⟨c, z, h1, h2, q⟩ := h
    rw [Bool.false_xor] at q
    exact op_in_sign pins s σ H x y v u Q I rx ry ⟨c, z, h1, h2, q⟩
theorem opNotIn (K : PySem.W.Frag) {X : Cx} (hu : X.A.units + 65 < cLine) (h : X.K = K := by rfl) : OpR X (compareOp .NotIn) (rInU K true) := by
  subst h
  intro pins s σ H x y v u Q I rx ry h
  rcases h with ⟨d, ds, hd, he | he, sd, se, q⟩ | h
  · rw [Bool.true_xor] at q
    exact op_notInD hu pins s σ H x y v u Q I rx ry ⟨d, ds, hd, he, sd, se, q⟩
  · rw [Bool.true_xor] at q
    obtain ⟨as, r1⟩ := Dp.reads I d x v hd rx
    obtain ⟨bs, r2⟩ := Dp.reads I (.tuple ds) y u he ry
    exact SeqAt.notIn_tuple_reads r2 r1 (SeqAt.canLay_of_shaped se) (SeqAt.canLay_of_shaped sd) (room_in_shaped sd hu) ⟨.bl _, H, I, rfl, q⟩
  · obtain ⟨c, z, h1, h2, q⟩ := h
    rw [Bool.true_xor] at q
    exact op_notIn_sign pins s σ H x y v u Q I rx ry ⟨c, z, h1, h2, q⟩
def oInD (n : Bool) (d : PyData) (ds : List PyData) : M C := if (SeqAt.shaped d && SeqAt.shaped (.list ds)) = true then .ret (.val (.bool (n ^^ ds.any fun z => PyData.eqv z d))) else .fail
def oInS (n : Bool) (x : Str) (z : Str) : M C := if x.cps.size = 1 then .ret (.val (.bool (n ^^ decide (x.cps.getD 0 0 ∈ z.cps.toList)))) else .fail
def oInX (n : Bool) : Option PyData → Option PyData → M C
  | some (.str x), some (.str z) => oInS n x z
  | some d, some (.list ds) => oInD n d ds
  | some d, some (.tuple ds) => oInD n d ds
  | _, _ => .fail
def oIn (a b : C) : M C := oInX false a.dat b.dat
def oNotIn (a b : C) : M C := oInX true a.dat b.dat
theorem inX_ok {n : Bool} {x y : V} {cx cy : C} {Q : VK} (g : GrT tp H0 H) (t : TOk tp H) (rx : RC tp K H0 H x cx) (ry : RC tp K H0 H y cy) (h : wp0 (oInX n cx.dat cy.dat) (Post tp K H0 Q)) : rInU K n x y H Q := by
  unfold oInX at h
  split at h
  · rename_i x' z h1 h2
    unfold oInS at h
    split at h
    · rename_i e
      have r1 := rx.dp h1
      have r2 := ry.dp h2
      cases r1
      cases r2
      obtain ⟨⟨l⟩⟩ := x'
      cases l with
      | nil => simp at e
      | cons c l =>
        cases l with
        | nil => exact .inr ⟨c, z, rfl, rfl, Post.bl h g t⟩
        | cons _ _ => simp at e
    · exact h.elim
  · rename_i d ds h1 h2
    unfold oInD at h
    split at h
    · rename_i e
      simp only [Bool.and_eq_true] at e
      exact .inl ⟨d, ds, rx.dp h1, .inl (ry.dp h2), e.1, e.2, Post.bl h g t⟩
    · exact h.elim
  · rename_i d ds h1 h2
    unfold oInD at h
    split at h
    · rename_i e
      simp only [Bool.and_eq_true] at e
      exact .inl ⟨d, ds, rx.dp h1, .inr (ry.dp h2), e.1, e.2, Post.bl h g t⟩
    · exact h.elim
  · exact h.elim
theorem os_in : OpS K (rInU K false) oIn := fun tp H0 H x y cx cy Q g t rx ry h => inX_ok g t rx ry h
theorem os_notin : OpS K (rInU K true) oNotIn := fun tp H0 H x y cx cy Q g t rx ry h => inX_ok g t rx ry h
end
end Cs

set_option maxRecDepth 100000
set_option maxHeartbeats 4000000
/-! tests, subscripts, calls -/
namespace Cs
open PySem PySem.Spec PyProof.Rows L2
section
variable {tp : Option (Addr × Addr)} {K : PySem.W.Frag} {H H' H'' H0 H1 He : Hp} {Hq : Hp} {σ : L2.St} {ρ : Ro}
/-! ### truth -/
def truD : PyData → M Bool
  | .none => .ret false
  | .bool b => .ret b
  | .int i => .ret (i != 0)
  | .str x => if lenOk x.length = true then .ret ((x.length : Int) != 0) else .fail
  | .tuple xs => .ret (!xs.isEmpty)
  | .list xs => .ret (!xs.isEmpty)
  | .dict _ => .fail
def oTru (c : C) : M Bool := match c.dat with
  | some d => truD d
  | none => .fail
theorem dp_empty {vs : List V} {ds : List PyData} (h : DpAll K H vs ds) : vs.isEmpty = ds.isEmpty := by
  cases h <;> rfl
theorem tru_of {v : V} {d : PyData} (h : Dp K H v d) {Q : Bool → Prop} (q : wp0 (truD d) Q) : ∃ k, TruV K v H k ∧ Q k := by
  cases h with
  | non => exact ⟨_, rfl, q⟩
  | bl b => exact ⟨_, rfl, q⟩
  | int i => exact ⟨_, rfl, q⟩
  | str x =>
    unfold truD at q
    dsimp only at q
    split at q
    · rename_i l
      exact ⟨_, ⟨lenOk_le l, rfl⟩, q⟩
    · exact q.elim
  | lst h1 h2 => exact ⟨_, .inl ⟨_, h1, rfl⟩, by rw [dp_empty h2]; exact q⟩
  | tup h1 h2 => exact ⟨_, .inr (.inl ⟨_, h1, rfl⟩), by rw [dp_empty h2]; exact q⟩
def gTru (g : Ro → M C) (ρ : Ro) : M Bool := (g ρ).bind oTru
theorem oTru_ok {x : V} {c : C} {Q : Bool → Prop} (rx : RC tp K H0 H x c) (h : wp0 (oTru c) Q) : ∃ k, TruV K x H k ∧ Q k := by
  unfold oTru at h
  split at h
  · rename_i d e
    exact tru_of (rx.dp e) h
  · exact h.elim
theorem rt_tru {ta : TE} {ga : Ro → M C} (ha : RE K ta ga) : RT K (tTru K ta) (gTru ga) := by
  intro tp He Hq ρ σ H Q rl h
  refine ha tp He Hq ρ σ H _ rl (wp0_mono (fun a h1 => ?_) (wp0_bind.mp h))
  intro x H1 g1 t1 rx
  obtain ⟨k, h2, h3⟩ := oTru_ok rx h1
  exact ⟨k, h2, h3 H1 g1 t1⟩
def oBl : C → M Bool
  | .val (.bool b) => .ret b
  | _ => .fail
def gTest (g : Ro → M C) (ρ : Ro) : M Bool := (g ρ).bind oBl
theorem oBl_ok {x : V} {c : C} {Q : Bool → Prop} (rx : RC tp K H0 H x c) (h : wp0 (oBl c) Q) : ∃ k, x = .bl k ∧ Q k := by
  unfold oBl at h
  split at h
  · cases rx.bl
    exact ⟨_, rfl, h⟩
  · exact h.elim
theorem rt_test {ta : TE} {ga : Ro → M C} (ha : RE K ta ga) : RT K (tTest ta) (gTest ga) := by
  intro tp He Hq ρ σ H Q rl h
  refine ha tp He Hq ρ σ H _ rl (wp0_mono (fun a h1 => ?_) (wp0_bind.mp h))
  intro x H1 g1 t1 rx
  obtain ⟨k, h2, h3⟩ := oBl_ok rx h1
  exact ⟨k, h2, h3 H1 g1 t1⟩
def gAnd (g1 g2 : Ro → M Bool) (ρ : Ro) : M Bool := (g1 ρ).bind fun b => if b = true then g2 ρ else .ret false
def gOr (g1 g2 : Ro → M Bool) (ρ : Ro) : M Bool := (g1 ρ).bind fun b => if b = true then .ret true else g2 ρ
def gNot (g1 : Ro → M Bool) (ρ : Ro) : M Bool := (g1 ρ).bind fun b => .ret (!b)
theorem rt_and {t u : TT} {g1 g2 : Ro → M Bool} (h1 : RT K t g1) (h2 : RT K u g2) : RT K (tAnd t u) (gAnd g1 g2) := by
  intro tp He Hq ρ σ H Q rl h
  refine h1 tp He Hq ρ σ H _ rl (wp0_mono (fun b hb => ?_) (wp0_bind.mp h))
  intro H1 e1 t1
  cases b with
  | true =>
    rw [if_pos rfl] at hb ⊢
    exact h2 tp He Hq ρ σ H1 _ (rl.go e1 t1) (wp0_mono (fun b hb H2 e2 t2 => hb H2 (e1.trans e2) t2) hb)
  | false =>
    rw [if_neg Bool.false_ne_true] at hb ⊢
    exact hb H1 e1 t1
theorem rt_or {t u : TT} {g1 g2 : Ro → M Bool} (h1 : RT K t g1) (h2 : RT K u g2) : RT K (tOr t u) (gOr g1 g2) := by
  intro tp He Hq ρ σ H Q rl h
  refine h1 tp He Hq ρ σ H _ rl (wp0_mono (fun b hb => ?_) (wp0_bind.mp h))
  intro H1 e1 t1
  cases b with
  | true =>
    rw [if_pos rfl] at hb ⊢
    exact hb H1 e1 t1
  | false =>
    rw [if_neg Bool.false_ne_true] at hb ⊢
    exact h2 tp He Hq ρ σ H1 _ (rl.go e1 t1) (wp0_mono (fun b hb H2 e2 t2 => hb H2 (e1.trans e2) t2) hb)
theorem rt_not {t : TT} {g1 : Ro → M Bool} (h1 : RT K t g1) : RT K (tNot t) (gNot g1) := by
  intro tp He Hq ρ σ H Q rl h
  refine h1 tp He Hq ρ σ H _ rl (wp0_mono (fun b hb => ?_) (wp0_bind.mp h))
  intro H1 e1 t1
  exact hb H1 e1 t1
/-! ### and, or, not, if as values -/
theorem andT (K : PySem.W.Frag) {X : Cx} {a b : Expr} {rest : List Expr} {pos : Pos} {ta tb : TE} (ha : PE X a ta) (hb : PE X (.BoolOp .And (b :: rest) pos) tb) (h : X.K = K := by rfl) : PE X (.BoolOp .And (a :: b :: rest) pos) (tAndT K ta tb) := h ▸ pe_andT ha hb
theorem orT (K : PySem.W.Frag) {X : Cx} {a b : Expr} {rest : List Expr} {pos : Pos} {ta tb : TE} (ha : PE X a ta) (hb : PE X (.BoolOp .Or (b :: rest) pos) tb) (h : X.K = K := by rfl) : PE X (.BoolOp .Or (a :: b :: rest) pos) (tOrT K ta tb) := h ▸ pe_orT ha hb
theorem notT (K : PySem.W.Frag) {X : Cx} {a : Expr} {pos : Pos} {ta : TE} (ha : PE X a ta) (h : X.K = K := by rfl) : PE X (.UnaryOp .Not a pos) (tNotT K ta) := h ▸ pe_notT ha
def gAndT (g1 g2 : Ro → M C) (ρ : Ro) : M C := (g1 ρ).bind fun c => (oTru c).bind fun b => if b = true then g2 ρ else .ret c
def gOrT (g1 g2 : Ro → M C) (ρ : Ro) : M C := (g1 ρ).bind fun c => (oTru c).bind fun b => if b = true then .ret c else g2 ρ
def gNotT (g1 : Ro → M C) (ρ : Ro) : M C := (g1 ρ).bind fun c => (oTru c).bind fun b => .ret (.val (.bool (!b)))
theorem Post.after {Q : VK} {c : C} (p : Post tp K H0 Q c) (g : GrT tp H0 H) (t : TOk tp H) : Post tp K H Q c := fun v H' g' t' r => p v H' (g.trans g') t' (r.base g t)
theorem re_and {ta tb : TE} {g1 g2 : Ro → M C} (h1 : RE K ta g1) (h2 : RE K tb g2) : RE K (tAndT K ta tb) (gAndT g1 g2) := by
  intro tp He Hq ρ σ H Q rl h
  refine h1 tp He Hq ρ σ H _ rl (wp0_mono (fun c hc => ?_) (wp0_bind.mp h))
  intro x H1 e1 t1 rx
  obtain ⟨k, h3, h4⟩ := oTru_ok rx (wp0_bind.mp hc)
  refine ⟨k, h3, ?_⟩
  cases k with
  | true =>
    rw [if_pos rfl] at h4 ⊢
    exact h2 tp He Hq ρ σ H1 _ (rl.go e1 t1) (wp0_mono (fun b hb => hb.after e1 t1) h4)
  | false =>
    rw [if_neg Bool.false_ne_true] at h4 ⊢
    exact h4 x H1 e1 t1 rx
theorem re_or {ta tb : TE} {g1 g2 : Ro → M C} (h1 : RE K ta g1) (h2 : RE K tb g2) : RE K (tOrT K ta tb) (gOrT g1 g2) := by
  intro tp He Hq ρ σ H Q rl h
  refine h1 tp He Hq ρ σ H _ rl (wp0_mono (fun c hc => ?_) (wp0_bind.mp h))
  intro x H1 e1 t1 rx
  obtain ⟨k, h3, h4⟩ := oTru_ok rx (wp0_bind.mp hc)
  refine ⟨k, h3, ?_⟩
  cases k with
  | true =>
    rw [if_pos rfl] at h4 ⊢
    exact h4 x H1 e1 t1 rx
  | false =>
    rw [if_neg Bool.false_ne_true] at h4 ⊢
    exact h2 tp He Hq ρ σ H1 _ (rl.go e1 t1) (wp0_mono (fun b hb => hb.after e1 t1) h4)
theorem re_not {ta : TE} {g1 : Ro → M C} (h1 : RE K ta g1) : RE K (tNotT K ta) (gNotT g1) := by
  intro tp He Hq ρ σ H Q rl h
  refine h1 tp He Hq ρ σ H _ rl (wp0_mono (fun c hc => ?_) (wp0_bind.mp h))
  intro x H1 e1 t1 rx
  obtain ⟨k, h3, h4⟩ := oTru_ok rx (wp0_bind.mp hc)
  exact ⟨k, h3, Post.bl h4 e1 t1⟩
def gIfE (gc : Ro → M Bool) (g1 g2 : Ro → M C) (ρ : Ro) : M C := (gc ρ).bind fun b => if b = true then g1 ρ else g2 ρ
theorem re_if {t : TT} {ta tb : TE} {gc : Ro → M Bool} {g1 g2 : Ro → M C} (hc : RT K t gc) (h1 : RE K ta g1) (h2 : RE K tb g2) : RE K (tIf t ta tb) (gIfE gc g1 g2) := by
  intro tp He Hq ρ σ H Q rl h
  refine hc tp He Hq ρ σ H _ rl (wp0_mono (fun b hb => ?_) (wp0_bind.mp h))
  intro H1 e1 t1
  cases b with
  | true =>
    rw [if_pos rfl] at hb ⊢
    exact h1 tp He Hq ρ σ H1 _ (rl.go e1 t1) (wp0_mono (fun b hb => hb.after e1 t1) hb)
  | false =>
    rw [if_neg Bool.false_ne_true] at hb ⊢
    exact h2 tp He Hq ρ σ H1 _ (rl.go e1 t1) (wp0_mono (fun b hb => hb.after e1 t1) hb)
/-! ### a < b < c -/
def gChain (o1 o2 : C → C → M C) (ga gb gc : Ro → M C) (ρ : Ro) : M C := (ga ρ).bind fun a => (gb ρ).bind fun b => (o1 a.lend b.lend).bind fun r => (oBl r).bind fun k => if k = true then (gc ρ).bind fun c => o2 b c else .ret (.val (.bool false))
theorem re_chain {r r' : R2} {o1 o2 : C → C → M C} {ta tb tc : TE} {ga gb gc : Ro → M C} (ho : OpS K r o1) (ho' : OpS K r' o2) (ha : RE K ta ga) (hb : RE K tb gb) (hc : RE K tc gc) : RE K (tChain r r' ta tb tc) (gChain o1 o2 ga gb gc) := by
  intro tp He Hq ρ σ H Q rl h
  refine ha tp He Hq ρ σ H _ rl (wp0_mono (fun a h1 => ?_) (wp0_bind.mp h))
  intro x H1 g1 t1 rx
  refine hb tp He Hq ρ σ H1 _ (rl.go g1 t1) (wp0_mono (fun b h2 => ?_) (wp0_bind.mp h1))
  intro y H2 g2 t2 ry
  refine ho tp H2 H2 x y a.lend b.lend _ .refl t2 (rx.gr g2 t1).lend ry.lend (wp0_mono (fun c h3 => ?_) (wp0_bind.mp h2))
  intro z H3 g3 t3 rz
  obtain ⟨k, e, h4⟩ := oBl_ok rz (wp0_bind.mp h3)
  refine ⟨k, e, ?_⟩
  cases k with
  | true =>
    rw [if_pos rfl] at h4 ⊢
    refine hc tp He Hq ρ σ H3 _ (((rl.go g1 t1).go g2 t2).go g3 t3) (wp0_mono (fun c h5 => ?_) (wp0_bind.mp h4))
    intro w H4 g4 t4 rw'
    exact ho' tp H H4 y w b c Q (g1.trans (g2.trans (g3.trans g4))) t4 ((ry.base g1 t1).gr (g3.trans g4) t2) (rw'.base (g1.trans (g2.trans g3)) t3) h5
  | false =>
    rw [if_neg Bool.false_ne_true] at h4 ⊢
    exact Post.bl h4 (g1.trans (g2.trans g3)) t3
/-! ### subscripts, slices -/
theorem ixU (K : PySem.W.Frag) {X : Cx} (h : X.K = K := by rfl) : IxR X (rIx K) := h ▸ ix_seq
def atD (ds : List PyData) (i : Int) : M C := match atI ds i with
  | some d => .ret (.val d)
  | none => .fail
def atS (z : Str) (i : Int) : M C := if lenOk z.length = true then (match atI z.cps.toList i with
  | some c => .ret (.val (.str ⟨#[c]⟩))
  | none => .fail) else .fail
def oIx (cx cy : C) : M C := match cy with
  | .val (.int i) => (match cx with
    | .val (.tuple ds) => atD ds i
    | .val (.str z) => atS z i
    | cx => (match cx.items with
      | some ds => atD ds i
      | none => .fail))
  | _ => .fail
theorem dp_at {vs : List V} {ds : List PyData} {i : Int} {d : PyData} (h : VlAll K H vs ds) (f : lfAll ds = true) (e : atI ds i = some d) : ∃ v, atI vs i = some v ∧ Vl K H v d ∧ lf d = true := by
  unfold atI at e ⊢
  rw [h.len]
  cases q : ixN ds.length i with
  | none => rw [q] at e; cases e
  | some j =>
    rw [q] at e
    obtain ⟨v, h1, h2⟩ := h.get (show ds[j]? = some d from e)
    exact ⟨v, h1, h2, lfAll_get f (show ds[j]? = some d from e)⟩
theorem atD_ok {vs : List V} {ds : List PyData} {i : Int} {Q : VK} (g : GrT tp H0 H) (t : TOk tp H) (h : VlAll K H vs ds) (f : lfAll ds = true) (q : wp0 (atD ds i) (Post tp K H0 Q)) : ∃ v, atI vs i = some v ∧ Q v H := by
  unfold atD at q
  split at q
  · rename_i d e
    obtain ⟨v, h1, h2, h3⟩ := dp_at h f e
    exact ⟨v, h1, Post.at_ q g t ⟨h2, h3⟩⟩
  · exact q.elim
theorem os_ix : OpS K (rIx K) oIx := by
  intro tp H0 H x y cx cy Q g t rx ry h
  unfold oIx at h
  split at h
  · rename_i i
    cases ry.int
    split at h
    · rename_i ds
      obtain ⟨a, vs, rfl, q1, q2, q3⟩ := rx.tup
      obtain ⟨v, e, q⟩ := atD_ok g t q2 q3 h
      exact .inr (.inl ⟨a, vs, i, v, rfl, rfl, q1, e, q⟩)
    · rename_i z
      cases rx.str
      unfold atS at h
      split at h
      · rename_i l
        split at h
        · rename_i c e
          exact .inr (.inr ⟨z, i, c, rfl, rfl, lenOk_le l, e, Post.str h g t⟩)
        · exact h.elim
      · exact h.elim
    · split at h
      · rename_i ds e
        obtain ⟨a, vs, rfl, q1, q2, q3⟩ := rx.rd e
        obtain ⟨v, e, q⟩ := atD_ok g t q2 q3 h
        exact .inl ⟨a, vs, i, v, rfl, rfl, .inl q1, e, q⟩
      · exact h.elim
  · exact h.elim
def RO (K : PySem.W.Frag) (t : TO) (g : Ro → M (Option Int)) : Prop := ∀ tp He Hq ρ σ H (Q : Option Int → Hp → Prop), Rel tp K He Hq H σ ρ → wp0 (g ρ) (fun o => ∀ H', GrT tp H H' → TOk tp H' → Q o H') → t σ H Q
def gNo (_ : Ro) : M (Option Int) := .ret none
def oInt? : C → M (Option Int)
  | .val (.int i) => .ret (some i)
  | _ => .fail
def gSome (g : Ro → M C) (ρ : Ro) : M (Option Int) := (g ρ).bind oInt?
theorem ro_no : RO K tNoPart gNo := fun tp He Hq ρ σ H Q rl h => h H .refl rl.tok
theorem ro_some {t : TE} {g : Ro → M C} (h1 : RE K t g) : RO K (tPart t) (gSome g) := by
  intro tp He Hq ρ σ H Q rl h
  refine h1 tp He Hq ρ σ H _ rl (wp0_mono (fun c hc => ?_) (wp0_bind.mp h))
  intro x H1 g1 t1 rx
  unfold oInt? at hc
  split at hc
  · cases rx.int
    exact ⟨_, rfl, hc H1 g1 t1⟩
  · exact hc.elim
def cutD (ds : List PyData) (lo hi : Option Int) : List PyData := (ds.drop (HT.sIx ds.length 0 lo)).take (HT.sIx ds.length ds.length hi - HT.sIx ds.length 0 lo)
theorem dp_cut {vs : List V} {ds : List PyData} (h : VlAll K H vs ds) (lo hi : Option Int) : VlAll K H (cutV vs lo hi) (cutD ds lo hi) := by
  unfold cutV cutD
  rw [h.len]
  exact (h.drop _).take _
theorem lf_cut {ds : List PyData} (f : lfAll ds = true) (lo hi : Option Int) : lfAll (cutD ds lo hi) = true := lfAll_take _ (lfAll_drop _ f)
theorem cut_whole {ds : List PyData} {lo hi : Option Int} (h : HT.sIx ds.length 0 lo = 0 ∧ HT.sIx ds.length ds.length hi = ds.length) : cutD ds lo hi = ds := by
  unfold cutD
  rw [h.1, h.2, List.drop_zero, Nat.sub_zero, List.take_length]
def rSlU (K : PySem.W.Frag) : V → Option Int → Option Int → Hp → VK → Prop := fun x lo hi H Q => rSlL K x lo hi H Q ∨ rSlA K x lo hi H Q ∨ rSlS x lo hi H Q
theorem slU (K : PySem.W.Frag) {X : Cx} (h : X.K = K := by rfl) : SlR X (rSlU K) := h ▸ sl_list.or (sl_tupA.or sl_str)
def oSl (c : C) (lo hi : Option Int) : M C := match c with
  | .val (.tuple ds) => .ret (.val (.tuple (cutD ds lo hi)))
  | .val (.str z) => if lenOk z.length = true then .ret (.val (.str (cutS z lo hi))) else .fail
  | c => (match c.items with
    | some ds => .ret (.own (.lst (cutD ds lo hi)))
    | none => .fail)
def gSl (g : Ro → M C) (l u : Ro → M (Option Int)) (ρ : Ro) : M C := (g ρ).bind fun c => (l ρ).bind fun lo => (u ρ).bind fun hi => oSl c lo hi
theorem re_sl {te : TE} {tl th : TO} {g : Ro → M C} {l u : Ro → M (Option Int)} (h1 : RE K te g) (h2 : RO K tl l) (h3 : RO K th u) : RE K (tSl (rSlU K) te tl th) (gSl g l u) := by
  intro tp He Hq ρ σ H Q rl h
  refine h1 tp He Hq ρ σ H _ rl (wp0_mono (fun c hc => ?_) (wp0_bind.mp h))
  intro x H1 g1 t1 rx
  refine h2 tp He Hq ρ σ H1 _ (rl.go g1 t1) (wp0_mono (fun lo hlo => ?_) (wp0_bind.mp hc))
  intro H2 g2 t2
  refine h3 tp He Hq ρ σ H2 _ ((rl.go g1 t1).go g2 t2) (wp0_mono (fun hi hhi => ?_) (wp0_bind.mp hlo))
  intro H3 g3 t3
  have rx3 := (rx.gr g2 t1).gr g3 t2
  have g := g1.trans (g2.trans g3)
  unfold oSl at hhi
  split at hhi
  · rename_i ds
    obtain ⟨a, vs, rfl, q1, q2, q3⟩ := rx3.tup
    refine .inr (.inl ⟨a, vs, rfl, q1, fun e => ?_, fun _ p hp => Post.tup hhi g t3 hp (dp_cut q2 lo hi) (lf_cut q3 lo hi)⟩)
    rw [q2.len] at e
    rw [cut_whole e] at hhi
    exact Post.at_ hhi g t3 rx3
  · rename_i z
    cases rx3.str
    split at hhi
    · rename_i l
      exact .inr (.inr ⟨z, rfl, lenOk_le l, Post.str hhi g t3⟩)
    · exact hhi.elim
  · split at hhi
    · rename_i ds e
      obtain ⟨a, vs, rfl, q1, q2, q3⟩ := rx3.rd e
      exact .inl ⟨a, vs, rfl, .inl q1, fun p hp => Post.lst hhi g t3 hp (dp_cut q2 lo hi) (lf_cut q3 lo hi)⟩
    · exact hhi.elim
/-- t[a::2] -/
def gSl2 (g : Ro → M C) (l : Ro → M (Option Int)) (ρ : Ro) : M C := (g ρ).bind fun c => (l ρ).bind fun lo => match c with
  | .val (.tuple ds) => .ret (.val (.tuple (ev (ds.drop (HT.sIx ds.length 0 lo)))))
  | _ => .fail
theorem dp_ev : ∀ {vs : List V} {ds : List PyData}, VlAll K H vs ds → VlAll K H (ev vs) (ev ds)
  | [], _, h => by cases h; exact .nil
  | [_], _, h => by
    cases h with
    | cons h1 h2 => cases h2; exact .cons h1 .nil
  | _ :: _ :: vs, _, h => by
    cases h with
    | cons h1 h2 =>
      cases h2 with
      | cons h3 h4 => exact .cons h1 (dp_ev h4)
theorem lf_ev {ds : List PyData} (_ : lfAll ds = true) : lfAll (ev ds) = true := rfl
theorem re_sl2 {te : TE} {tl : TO} {g : Ro → M C} {l : Ro → M (Option Int)} (h1 : RE K te g) (h2 : RO K tl l) : RE K (tSl2 K te tl) (gSl2 g l) := by
  intro tp He Hq ρ σ H Q rl h
  refine h1 tp He Hq ρ σ H _ rl (wp0_mono (fun c hc => ?_) (wp0_bind.mp h))
  intro x H1 g1 t1 rx
  refine h2 tp He Hq ρ σ H1 _ (rl.go g1 t1) (wp0_mono (fun lo hlo => ?_) (wp0_bind.mp hc))
  intro H2 g2 t2
  have rx2 := rx.gr g2 t1
  split at hlo
  · rename_i ds
    obtain ⟨a, vs, rfl, q1, q2, q3⟩ := rx2.tup
    refine ⟨a, vs, rfl, q1, fun p hp => ?_⟩
    rw [q2.len]
    exact Post.tup hlo (g1.trans g2) t2 hp (dp_ev (q2.drop _)) (lf_ev (lfAll_drop _ q3))
  · exact hlo.elim
/-! ### calls of what is built in -/
def CallS (K : PySem.W.Frag) (r : List V → Hp → VK → Prop) (op : List C → M C) : Prop := ∀ tp H0 H vs cs Q, GrT tp H0 H → TOk tp H → RCs tp K H0 H vs cs → wp0 (op cs) (Post tp K H0 Q) → r vs H Q
def gCall (op : List C → M C) (gs : Ro → M (List C)) (ρ : Ro) : M C := (gs ρ).bind op
theorem re_call {r : List V → Hp → VK → Prop} {op : List C → M C} {t : TA} {gs : Ro → M (List C)} (ho : CallS K r op) (h1 : RA K t gs) : RE K (tCB r t) (gCall op gs) := by
  intro tp He Hq ρ σ H Q rl h
  refine h1 tp He Hq ρ σ H _ rl (wp0_mono (fun cs hc => ?_) (wp0_bind.mp h))
  intro vs H1 g1 t1 rx
  exact ho tp H H1 vs cs Q g1 t1 rx hc
theorem RCs.one {vs : List V} {c : C} (h : RCs tp K H0 H vs [c]) : ∃ v, vs = [v] ∧ RC tp K H0 H v c := by
  cases vs with
  | nil => exact h.elim
  | cons v vs =>
    cases vs with
    | nil => exact ⟨v, rfl, h.1⟩
    | cons _ _ => exact h.2.elim
theorem RCs.two {vs : List V} {c d : C} (h : RCs tp K H0 H vs [c, d]) : ∃ v w, vs = [v, w] ∧ RC tp K H0 H v c ∧ RC tp K H0 H w d := by
  cases vs with
  | nil => exact h.elim
  | cons v vs =>
    obtain ⟨w, e, q⟩ := RCs.one h.2
    exact ⟨v, w, by rw [e], h.1, q⟩
/-- a call of one thing that is read as data -/
def o1 (f : PyData → M C) : List C → M C
  | [c] => (match c.dat with
    | some d => f d
    | none => .fail)
  | _ => .fail
theorem o1_ok {f : PyData → M C} {vs : List V} {cs : List C} {P : C → Prop} (r : RCs tp K H0 H vs cs) (h : wp0 (o1 f cs) P) : ∃ v d, vs = [v] ∧ Dp K H v d ∧ wp0 (f d) P := by
  unfold o1 at h
  split at h
  · obtain ⟨v, rfl, q⟩ := r.one
    split at h
    · rename_i d e
      exact ⟨v, d, rfl, q.dp e, h⟩
    · exact h.elim
  · exact h.elim
def lenD : PyData → M C
  | .str x => if lenOk x.length = true then .ret (.val (.int x.length)) else .fail
  | .tuple xs => .ret (.val (.int xs.length))
  | .list xs => .ret (.val (.int xs.length))
  | _ => .fail
abbrev oLen := o1 lenD
theorem cs_len : CallS K (rLen K) oLen := by
  intro tp H0 H vs cs Q g t r h
  obtain ⟨v, d, rfl, q, h⟩ := o1_ok r h
  cases q with
  | str x =>
    unfold lenD at h
    dsimp only at h
    split at h
    · rename_i l
      exact ⟨_, _, rfl, ⟨lenOk_le l, rfl⟩, Post.int h g t⟩
    · exact h.elim
  | tup h1 h2 => exact ⟨_, _, rfl, .inr ⟨_, h1, rfl⟩, by rw [h2.len]; exact Post.int h g t⟩
  | lst h1 h2 => exact ⟨_, _, rfl, .inl ⟨_, h1, rfl⟩, by rw [h2.len]; exact Post.int h g t⟩
  | non => exact h.elim
  | bl _ => exact h.elim
  | int _ => exact h.elim
def absD : PyData → M C
  | .int i => .ret (.val (.int (if i < 0 then -i else i)))
  | _ => .fail
abbrev oAbs := o1 absD
theorem cs_abs : CallS K (fun xs H Q => ∃ i, xs = [.int i] ∧ Q (.int (if i < 0 then -i else i)) H) oAbs := by
  intro tp H0 H vs cs Q g t r h
  obtain ⟨v, d, rfl, q, h⟩ := o1_ok r h
  cases q with
  | int i => exact ⟨i, rfl, Post.int h g t⟩
  | _ => exact h.elim
def intD : PyData → M C
  | .int i => .ret (.val (.int i))
  | .bool b => .ret (.val (.int (if b then 1 else 0)))
  | _ => .fail
abbrev oIntC := o1 intD
theorem cs_int : CallS K (fun xs H Q => (∃ i, xs = [.int i] ∧ Q (.int i) H) ∨ ∃ k, xs = [.bl k] ∧ Q (.int (if k then 1 else 0)) H) oIntC := by
  intro tp H0 H vs cs Q g t r h
  obtain ⟨v, d, rfl, q, h⟩ := o1_ok r h
  cases q with
  | int i => exact .inl ⟨i, rfl, Post.int h g t⟩
  | bl b => exact .inr ⟨b, rfl, Post.int h g t⟩
  | _ => exact h.elim
def strD : PyData → M C
  | .int i => if decide (i.natAbs.log2 < 1920) = true then .ret (.val (.str (toString i))) else .fail
  | _ => .fail
abbrev oStr := o1 strD
theorem cs_str : CallS K (fun xs H Q => ∃ i : Int, xs = [.int i] ∧ i.natAbs.log2 < 1920 ∧ Q (.str (toString i)) H) oStr := by
  intro tp H0 H vs cs Q g t r h
  obtain ⟨v, d, rfl, q, h⟩ := o1_ok r h
  cases q with
  | int i =>
    unfold strD at h
    dsimp only at h
    split at h
    · rename_i l
      exact ⟨i, rfl, of_decide_eq_true l, Post.str h g t⟩
    · exact h.elim
  | _ => exact h.elim
/-- what repr asks of data, as a test -/
def repOk (d : PyData) : Bool := plainD d && (decide (d.depth ≤ 40) && decide (cost d ≤ 16777216))
theorem repOk_of {d : PyData} (h : repOk d = true) : RepOk d := by
  simp only [repOk, Bool.and_eq_true, decide_eq_true_eq] at h
  exact ⟨h.1, h.2.1, by rw [show sizeLine = 16777216 by decide]; exact h.2.2⟩
def repD1 (d : PyData) : M C := if repOk d = true then .ret (.val (.str d.shown)) else .fail
abbrev oRepr := o1 repD1
theorem cs_repr : CallS K (rRepr K) oRepr := by
  intro tp H0 H vs cs Q g t r h
  obtain ⟨v, d, rfl, q, h⟩ := o1_ok r h
  unfold repD1 at h
  split at h
  · rename_i l
    exact repr_go q (repOk_of l) (Post.str h g t)
  · exact h.elim
/-! min and max -/
def oMax2 : List C → M C
  | [.val (.int i), .val (.int j)] => .ret (.val (.int (max i j)))
  | _ => .fail
def oMin2 : List C → M C
  | [.val (.int i), .val (.int j)] => .ret (.val (.int (min i j)))
  | _ => .fail
theorem cs_max2 : CallS K (fun xs H Q => ∃ i j : Int, xs = [.int i, .int j] ∧ Q (.int (if j > i then j else i)) H) oMax2 := by
  intro tp H0 H vs cs Q g t r h
  unfold oMax2 at h
  split at h
  · rename_i i j
    obtain ⟨v, w, rfl, q1, q2⟩ := r.two
    cases q1.int; cases q2.int
    refine ⟨i, j, rfl, ?_⟩
    rw [show (if j > i then j else i) = max i j by split <;> omega]
    exact Post.int h g t
  · exact h.elim
theorem cs_min2 : CallS K (fun xs H Q => ∃ i j : Int, xs = [.int i, .int j] ∧ Q (.int (if j < i then j else i)) H) oMin2 := by
  intro tp H0 H vs cs Q g t r h
  unfold oMin2 at h
  split at h
  · rename_i i j
    obtain ⟨v, w, rfl, q1, q2⟩ := r.two
    cases q1.int; cases q2.int
    refine ⟨i, j, rfl, ?_⟩
    rw [show (if j < i then j else i) = min i j by split <;> omega]
    exact Post.int h g t
  · exact h.elim
def intsOf : List PyData → Option (List Int)
  | [] => some []
  | .int i :: ds => (intsOf ds).map (i :: ·)
  | _ :: _ => none
theorem intsOf_map : ∀ ns : List Int, intsOf (ns.map PyData.int) = some ns
  | [] => rfl
  | n :: ns => by rw [List.map_cons, intsOf, intsOf_map ns]; rfl
theorem intsOf_dp : ∀ {vs : List V} {ds : List PyData} {ns : List Int}, DpAll K H vs ds → intsOf ds = some ns → vs = ns.map V.int
  | _, [], ns, h, e => by cases e; cases h; rfl
  | _, .int i :: ds, ns, h, e => by
    unfold intsOf at e
    cases q : intsOf ds with
    | none => rw [q] at e; cases e
    | some ms =>
      rw [q] at e
      cases e
      cases h with
      | cons h1 h2 =>
        cases h1
        rw [intsOf_dp h2 q]
        rfl
  | _, .none :: _, _, _, e => by cases e
  | _, .bool _ :: _, _, _, e => by cases e
  | _, .str _ :: _, _, _, e => by cases e
  | _, .list _ :: _, _, _, e => by cases e
  | _, .tuple _ :: _, _, _, e => by cases e
  | _, .dict _ :: _, _, _, e => by cases e
def maxL : List Int → Int
  | [] => 0
  | [x] => x
  | x :: y :: r => max x (maxL (y :: r))
def minL : List Int → Int
  | [] => 0
  | [x] => x
  | x :: y :: r => min x (minL (y :: r))
theorem maxL_mem : ∀ {ns : List Int}, 0 < ns.length → maxL ns ∈ ns ∧ ∀ y ∈ ns, y ≤ maxL ns
  | [x], _ => by simp [maxL]
  | x :: y :: r, _ => by
    obtain ⟨h1, h2⟩ := maxL_mem (ns := y :: r) (by simp)
    refine ⟨?_, fun z hz => ?_⟩
    · unfold maxL
      by_cases h : x ≤ maxL (y :: r)
      · rw [show max x (maxL (y :: r)) = maxL (y :: r) by omega]; exact List.mem_cons_of_mem _ h1
      · rw [show max x (maxL (y :: r)) = x by omega]; exact List.mem_cons_self
    · unfold maxL
      rcases List.mem_cons.mp hz with rfl | hz
      · omega
      · have := h2 z hz; omega
theorem minL_mem : ∀ {ns : List Int}, 0 < ns.length → minL ns ∈ ns ∧ ∀ y ∈ ns, minL ns ≤ y
  | [x], _ => by simp [minL]
  | x :: y :: r, _ => by
    obtain ⟨h1, h2⟩ := minL_mem (ns := y :: r) (by simp)
    refine ⟨?_, fun z hz => ?_⟩
    · unfold minL
      by_cases h : x ≤ minL (y :: r)
      · rw [show min x (minL (y :: r)) = x by omega]; exact List.mem_cons_self
      · rw [show min x (minL (y :: r)) = minL (y :: r) by omega]; exact List.mem_cons_of_mem _ h1
    · unfold minL
      rcases List.mem_cons.mp hz with rfl | hz
      · omega
      · have := h2 z hz; omega
def foldD (f : List Int → Int) (ne : Bool) : PyData → M C
  | .tuple ds => (match intsOf ds with
    | some ns => if (ne && ns.isEmpty) = true then .fail else .ret (.val (.int (f ns)))
    | none => .fail)
  | .list ds => (match intsOf ds with
    | some ns => if (ne && ns.isEmpty) = true then .fail else .ret (.val (.int (f ns)))
    | none => .fail)
  | _ => .fail
theorem foldD_ok {f : List Int → Int} {ne : Bool} {v : V} {d : PyData} {P : C → Prop} (q : Dp K H v d) (h : wp0 (foldD f ne d) P) : ∃ a ns, v = .ref a ∧ (SqL K H a (ns.map V.int) ∨ SqT K H a (ns.map V.int)) ∧ (ne = true → 0 < ns.length) ∧ P (.val (.int (f ns))) := by
  have go : ∀ {ns : List Int}, wp0 (if (ne && ns.isEmpty) = true then (.fail : M C) else .ret (.val (.int (f ns)))) P → (ne = true → 0 < ns.length) ∧ P (.val (.int (f ns))) := fun {ns} h => by
    split at h
    · exact h.elim
    · rename_i z
      refine ⟨fun e => ?_, h⟩
      subst e
      cases ns with
      | nil => simp at z
      | cons _ _ => simp
  cases q with
  | tup h1 h2 =>
    unfold foldD at h
    dsimp only at h
    split at h
    · rename_i ns e
      have := intsOf_dp h2 e
      subst this
      obtain ⟨a1, a2⟩ := go h
      exact ⟨_, ns, rfl, .inr h1, a1, a2⟩
    · exact h.elim
  | lst h1 h2 =>
    unfold foldD at h
    dsimp only at h
    split at h
    · rename_i ns e
      have := intsOf_dp h2 e
      subst this
      obtain ⟨a1, a2⟩ := go h
      exact ⟨_, ns, rfl, .inl h1, a1, a2⟩
    · exact h.elim
  | _ => exact h.elim
def rMaxU (K : PySem.W.Frag) : List V → Hp → VK → Prop := fun vs H Q => rMax K vs H Q ∨ rMaxT K vs H Q
def rMinU (K : PySem.W.Frag) : List V → Hp → VK → Prop := fun vs H Q => rMin K vs H Q ∨ rMinT K vs H Q
theorem CallR.or {X : Cx} {f : Value} {r r' : List V → Hp → VK → Prop} (h : CallR X f r) (h' : CallR X f r') : CallR X f (fun vs H Q => r vs H Q ∨ r' vs H Q) := by
  intro pins s σ H vs us Q I rv q
  rcases q with q | q
  · exact h pins s σ H vs us Q I rv q
  · exact h' pins s σ H vs us Q I rv q
theorem maxU (K : PySem.W.Frag) {X : Cx} (hc : X.calm = true) (h : X.K = K := by rfl) : CallR X (.builtin "max") (rMaxU K) := h ▸ CallR.or (cr_max hc) (cr_maxT hc)
theorem minU (K : PySem.W.Frag) {X : Cx} (hc : X.calm = true) (h : X.K = K := by rfl) : CallR X (.builtin "min") (rMinU K) := h ▸ CallR.or (cr_min hc) (cr_minT hc)
abbrev oMaxL := o1 (foldD maxL true)
abbrev oMinL := o1 (foldD minL true)
abbrev oSum := o1 (foldD List.sum false)
theorem cs_maxL : CallS K (rMaxU K) oMaxL := by
  intro tp H0 H vs cs Q g t r h
  obtain ⟨v, d, rfl, q, h⟩ := o1_ok r h
  obtain ⟨a, ns, rfl, hs, hn, p⟩ := foldD_ok q h
  have hn := hn rfl
  have fin : ∀ m, m ∈ ns → (∀ y, y ∈ ns → y ≤ m) → Q (.int m) H := fun m h1 h2 => by
    obtain ⟨b1, b2⟩ := maxL_mem hn
    have : m = maxL ns := Int.le_antisymm (b2 m h1) (h2 _ b1)
    rw [this]
    exact Post.int p g t
  rcases hs with hs | hs
  · exact .inl ⟨a, ns, rfl, hs, hn, fin⟩
  · exact .inr ⟨a, ns, rfl, hs, hn, fin⟩
theorem cs_minL : CallS K (rMinU K) oMinL := by
  intro tp H0 H vs cs Q g t r h
  obtain ⟨v, d, rfl, q, h⟩ := o1_ok r h
  obtain ⟨a, ns, rfl, hs, hn, p⟩ := foldD_ok q h
  have hn := hn rfl
  have fin : ∀ m, m ∈ ns → (∀ y, y ∈ ns → m ≤ y) → Q (.int m) H := fun m h1 h2 => by
    obtain ⟨b1, b2⟩ := minL_mem hn
    have : m = minL ns := Int.le_antisymm (h2 _ b1) (b2 m h1)
    rw [this]
    exact Post.int p g t
  rcases hs with hs | hs
  · exact .inl ⟨a, ns, rfl, hs, hn, fin⟩
  · exact .inr ⟨a, ns, rfl, hs, hn, fin⟩
/-- sum of a list (of a tuple: no rule) -/
def sumD : PyData → M C
  | .list ds => (match intsOf ds with
    | some ns => .ret (.val (.int ns.sum))
    | none => .fail)
  | _ => .fail
abbrev oSumL := o1 sumD
theorem cs_sum : CallS K (rSum K) oSumL := by
  intro tp H0 H vs cs Q g t r h
  obtain ⟨v, d, rfl, q, h⟩ := o1_ok r h
  cases q with
  | lst h1 h2 =>
    unfold sumD at h
    dsimp only at h
    split at h
    · rename_i ns e
      have := intsOf_dp h2 e
      subst this
      exact ⟨_, ns, rfl, h1, Post.int h g t⟩
    · exact h.elim
  | _ => exact h.elim
def blsOf : List PyData → Option (List Bool)
  | [] => some []
  | .bool i :: ds => (blsOf ds).map (i :: ·)
  | _ :: _ => none
theorem blsOf_dp : ∀ {vs : List V} {ds : List PyData} {ns : List Bool}, DpAll K H vs ds → blsOf ds = some ns → vs = ns.map V.bl
  | _, [], ns, h, e => by cases e; cases h; rfl
  | _, .bool i :: ds, ns, h, e => by
    unfold blsOf at e
    cases q : blsOf ds with
    | none => rw [q] at e; cases e
    | some ms =>
      rw [q] at e
      cases e
      cases h with
      | cons h1 h2 =>
        cases h1
        rw [blsOf_dp h2 q]
        rfl
  | _, .none :: _, _, _, e => by cases e
  | _, .int _ :: _, _, _, e => by cases e
  | _, .str _ :: _, _, _, e => by cases e
  | _, .list _ :: _, _, _, e => by cases e
  | _, .tuple _ :: _, _, _, e => by cases e
  | _, .dict _ :: _, _, _, e => by cases e
theorem blsOf_map : ∀ ns : List Bool, blsOf (ns.map PyData.bool) = some ns
  | [] => rfl
  | n :: ns => by rw [List.map_cons, blsOf, blsOf_map ns]; rfl
def bigD (f : List Bool → Bool) : PyData → M C
  | .list ds => (match blsOf ds with
    | some ns => .ret (.val (.bool (f ns)))
    | none => .fail)
  | _ => .fail
abbrev oAny := o1 (bigD fun bs => bs.any id)
abbrev oAll := o1 (bigD fun bs => bs.all id)
theorem cs_any : CallS K (rAny K) oAny := by
  intro tp H0 H vs cs Q g t r h
  obtain ⟨v, d, rfl, q, h⟩ := o1_ok r h
  cases q with
  | lst h1 h2 =>
    unfold bigD at h
    dsimp only at h
    split at h
    · rename_i ns e
      have := blsOf_dp h2 e
      subst this
      exact ⟨_, ns, rfl, h1, Post.bl h g t⟩
    · exact h.elim
  | _ => exact h.elim
theorem cs_all : CallS K (rAll K) oAll := by
  intro tp H0 H vs cs Q g t r h
  obtain ⟨v, d, rfl, q, h⟩ := o1_ok r h
  cases q with
  | lst h1 h2 =>
    unfold bigD at h
    dsimp only at h
    split at h
    · rename_i ns e
      have := blsOf_dp h2 e
      subst this
      exact ⟨_, ns, rfl, h1, Post.bl h g t⟩
    · exact h.elim
  | _ => exact h.elim
theorem anyK (K : PySem.W.Frag) {X : Cx} (hc : X.calm = true) (h : X.K = K := by rfl) : CallR X (.builtin "any") (rAny K) := h ▸ cr_any hc
theorem allK (K : PySem.W.Frag) {X : Cx} (hc : X.calm = true) (h : X.K = K := by rfl) : CallR X (.builtin "all") (rAll K) := h ▸ cr_all hc
/-! list(x), tuple(x) -/
def oListC : List C → M C
  | [.val (.tuple ds)] => .ret (.own (.lst ds))
  | [c] => (match c.items with
    | some ds => .ret (.own (.lst ds))
    | none => .fail)
  | _ => .fail
def oTupC : List C → M C
  | [.val (.tuple ds)] => .ret (.val (.tuple ds))
  | [c] => (match c.items with
    | some ds => .ret (.val (.tuple ds))
    | none => .fail)
  | _ => .fail
theorem cs_list : CallS K (rListOf K) oListC := by
  intro tp H0 H vs cs Q g t r h
  unfold oListC at h
  split at h
  · obtain ⟨v, rfl, q⟩ := r.one
    obtain ⟨a, us, rfl, q1, q2, q3⟩ := q.tup
    exact ⟨a, us, rfl, .inr q1, fun p hp => Post.lst h g t hp q2 q3⟩
  · obtain ⟨v, rfl, q⟩ := r.one
    split at h
    · rename_i ds e
      obtain ⟨a, us, rfl, q1, q2, q3⟩ := q.rd e
      exact ⟨a, us, rfl, .inl (.inl q1), fun p hp => Post.lst h g t hp q2 q3⟩
    · exact h.elim
  · exact h.elim
theorem cs_tuple : CallS K (rTupOf K) oTupC := by
  intro tp H0 H vs cs Q g t r h
  unfold oTupC at h
  split at h
  · obtain ⟨v, rfl, q⟩ := r.one
    obtain ⟨a, us, rfl, q1, q2, q3⟩ := q.tup
    exact ⟨a, us, rfl, .inr ⟨q1, Post.at_ h g t q⟩⟩
  · obtain ⟨v, rfl, q⟩ := r.one
    split at h
    · rename_i ds e
      obtain ⟨a, us, rfl, q1, q2, q3⟩ := q.rd e
      exact ⟨a, us, rfl, .inl ⟨.inl q1, fun p hp => Post.tup h g t hp q2 q3⟩⟩
    · exact h.elim
  · exact h.elim
/-! math.gcd -/
def oGcd : List C → M C
  | [.val (.int i), .val (.int j)] => .ret (.val (.int ((Nat.gcd i.natAbs j.natAbs : Nat) : Int)))
  | _ => .fail
theorem cs_gcd : CallS K rGcd oGcd := by
  intro tp H0 H vs cs Q g t r h
  unfold oGcd at h
  split at h
  · rename_i i j
    obtain ⟨v, w, rfl, q1, q2⟩ := r.two
    cases q1.int; cases q2.int
    exact ⟨i, j, rfl, Post.int h g t⟩
  · exact h.elim
/-! isinstance(x, T), x flat -/
def isiD (T : String) : PyData → M C
  | .none => (match kitB "NoneType" T with | some b => .ret (.val (.bool b)) | none => .fail)
  | .bool _ => (match kitB "bool" T with | some b => .ret (.val (.bool b)) | none => .fail)
  | .int _ => (match kitB "int" T with | some b => .ret (.val (.bool b)) | none => .fail)
  | .str _ => (match kitB "str" T with | some b => .ret (.val (.bool b)) | none => .fail)
  | _ => .fail
end
end Cs

set_option maxRecDepth 100000
set_option maxHeartbeats 4000000
/-! statements, loops, comprehensions, defs -/
namespace Cs
open PySem PySem.Spec PyProof.Rows L2
inductive Res where
  | nx (ρ : Ro)
  | rt (c : C)
  | bk (ρ : Ro)
  | ct (ρ : Ro)
section
variable {tp : Option (Addr × Addr)} {K : PySem.W.Frag} {H H' H'' H0 H1 He : Hp} {Hq : Hp} {σ : L2.St} {ρ : Ro}
def NxOk (tp : Option (Addr × Addr)) (K : PySem.W.Frag) (He Hq : Hp) (F : L2.St → Hp → Prop) (ρ : Ro) : Prop := ∀ σ' H' Hq', GrT tp Hq Hq' → Rel tp K He Hq' H' σ' ρ → F σ' H'
def PostS (tp : Option (Addr × Addr)) (K : PySem.W.Frag) (He Hq : Hp) (D : Ends) : Res → Prop
  | .nx ρ => NxOk tp K He Hq D.nx ρ
  | .bk ρ => NxOk tp K He Hq D.bk ρ
  | .ct ρ => NxOk tp K He Hq D.ct ρ
  | .rt c => ∀ v H', GrT tp He H' → TOk tp H' → RC tp K He H' v c → D.rt v H'
def RS (K : PySem.W.Frag) (t : TS) (m : Ro → M Res) : Prop := ∀ tp He Hq ρ σ H D, Rel tp K He Hq H σ ρ → wp0 (m ρ) (PostS tp K He Hq D) → t D σ H
theorem NxOk.mono {F : L2.St → Hp → Prop} {Hq2 : Hp} (h : NxOk tp K He Hq F ρ) (g : GrT tp Hq Hq2) : NxOk tp K He Hq2 F ρ := fun σ' H' Hq' g' r => h σ' H' Hq' (g.trans g') r
theorem PostS.mono {D : Ends} {Hq2 : Hp} {r : Res} (h : PostS tp K He Hq D r) (g : GrT tp Hq Hq2) : PostS tp K He Hq2 D r := by
  cases r with
  | nx ρ => exact NxOk.mono h g
  | bk ρ => exact NxOk.mono h g
  | ct ρ => exact NxOk.mono h g
  | rt c => exact h
/-! ### blocks -/
def mNext (ρ : Ro) : M Res := .ret (.nx ρ)
def mSeq (m n : Ro → M Res) (ρ : Ro) : M Res := (m ρ).bind fun r => match r with
  | .nx ρ' => n ρ'
  | r => .ret r
def mBreak (ρ : Ro) : M Res := .ret (.bk ρ)
def mCont (ρ : Ro) : M Res := .ret (.ct ρ)
theorem rs_next : RS K tNext mNext := fun tp He Hq ρ σ H D r h => h σ H Hq .refl r
theorem rs_break : RS K tBreak mBreak := fun tp He Hq ρ σ H D r h => h σ H Hq .refl r
theorem rs_cont : RS K tCont mCont := fun tp He Hq ρ σ H D r h => h σ H Hq .refl r
theorem rs_seq {t u : TS} {m n : Ro → M Res} (h1 : RS K t m) (h2 : RS K u n) : RS K (tSeq t u) (mSeq m n) := by
  intro tp He Hq ρ σ H D r h
  refine h1 tp He Hq ρ σ H _ r (wp0_mono (fun q hq => ?_) (wp0_bind.mp h))
  cases q with
  | nx ρ' => exact fun σ' H' Hq' g' r' => h2 tp He Hq' ρ' σ' H' D r' (wp0_mono (fun q hq => hq.mono g') hq)
  | bk ρ' => exact hq
  | ct ρ' => exact hq
  | rt c => exact hq
def mDrop (g : Ro → M C) (ρ : Ro) : M Res := (g ρ).bind fun _ => .ret (.nx ρ)
theorem rs_drop {te : TE} {g : Ro → M C} (h1 : RE K te g) : RS K (tDrop te) (mDrop g) := by
  intro tp He Hq ρ σ H D r h
  refine h1 tp He Hq ρ σ H _ r (wp0_mono (fun c hc => ?_) (wp0_bind.mp h))
  intro x H1 g1 t1 rx
  exact hc σ H1 Hq .refl (r.go g1 t1)
def mRet (g : Ro → M C) (ρ : Ro) : M Res := (g ρ).bind fun c => .ret (.rt c)
theorem rs_ret {te : TE} {g : Ro → M C} (h1 : RE K te g) : RS K (tRet te) (mRet g) := by
  intro tp He Hq ρ σ H D r h
  refine h1 tp He Hq ρ σ H _ r (wp0_mono (fun c hc => ?_) (wp0_bind.mp h))
  intro x H1 g1 t1 rx
  exact hc x H1 ((r.sub.trans r.gr).trans g1) t1 (rx.base (r.sub.trans r.gr) r.tok)
/-- return of a name: what is the def's own is handed over -/
def mRetV (i : Nat) (ρ : Ro) : M Res := match ρ[i]? with
  | some (some c) => .ret (.rt c)
  | _ => .fail
theorem rs_retV {i : Nat} : RS K (tRet (tVar i)) (mRetV i) := by
  intro tp He Hq ρ σ H D r h
  unfold mRetV at h
  split at h
  · rename_i c e
    obtain ⟨v, h1, h2⟩ := r.at_ i c e
    refine ⟨v, h1, h v H (r.sub.trans r.gr) r.tok ?_⟩
    cases c with
    | val d => exact h2
    | own o =>
      obtain ⟨a, e, f, n, h⟩ := h2
      refine ⟨a, e, ?_, n, h⟩
      cases q : He a with
      | none => rfl
      | some o =>
        rw [r.sub a o q n.ne] at f
        cases f
    | bor o =>
      obtain ⟨a, e, h⟩ := h2
      exact ⟨a, e, r.bor h⟩
    | tape => exact h2
  · exact h.elim
def mRetN (_ : Ro) : M Res := .ret (.rt (.val .none))
theorem rs_retN : RS K tRetN mRetN := fun tp He Hq ρ σ H D r h => h .non H (r.sub.trans r.gr) r.tok ⟨.non, rfl⟩
def mIf (gc : Ro → M Bool) (m n : Ro → M Res) (ρ : Ro) : M Res := (gc ρ).bind fun b => if b = true then m ρ else n ρ
theorem rs_if {c : TT} {t u : TS} {gc : Ro → M Bool} {m n : Ro → M Res} (hc : RT K c gc) (h1 : RS K t m) (h2 : RS K u n) : RS K (tIfS c t u) (mIf gc m n) := by
  intro tp He Hq ρ σ H D r h
  refine hc tp He Hq ρ σ H _ r (wp0_mono (fun b hb => ?_) (wp0_bind.mp h))
  intro H1 g1 t1
  cases b with
  | true =>
    rw [if_pos rfl] at hb ⊢
    exact h1 tp He Hq ρ σ H1 D (r.go g1 t1) hb
  | false =>
    rw [if_neg Bool.false_ne_true] at hb ⊢
    exact h2 tp He Hq ρ σ H1 D (r.go g1 t1) hb
/-! ### targets -/
def asgR (i : Nat) (c : C) (ρ : Ro) : M Ro := match ρ[i]? with
  | some _ => (match c with
    | .val d => .ret (ρ.set i (some (.val d)))
    | .own o => .ret (ρ.set i (some (.own o)))
    | _ => .fail)
  | none => .fail
theorem Rel.put {v : V} {c : C} {i : Nat} (r : Rel tp K He Hq H σ ρ) (s : SR tp K Hq H v c) (d : ∀ (a : Addr) (o : PO), c = .own o → v = .ref a → ∀ (j : Nat) (o' : PO), ρ[j]? = some (some (.own o')) → σ[j]? ≠ some (some (.ref a))) :
    Rel tp K He Hq H (σ.set i (some v)) (ρ.set i (some c)) := by
  refine ⟨by rw [List.length_set, List.length_set, r.len], fun j c' e => ?_, fun j k a o o' e1 e2 e3 e4 => ?_, r.sub, r.gr, r.tok, r.he⟩
  · by_cases hij : i = j
    · subst hij
      have hl : i < ρ.length := by
        have := (List.getElem?_eq_some_iff.mp e).1
        rwa [List.length_set] at this
      rw [List.getElem?_set_self hl] at e
      cases e
      exact ⟨v, List.getElem?_set_self (by rw [r.len]; exact hl), s⟩
    · rw [List.getElem?_set_ne hij] at e
      obtain ⟨u, h1, h2⟩ := r.at_ j c' e
      exact ⟨u, by rw [List.getElem?_set_ne hij]; exact h1, h2⟩
  · by_cases hij : i = j
    · subst hij
      by_cases hik : i = k
      · exact hik
      · have hl : i < ρ.length := by
          have := (List.getElem?_eq_some_iff.mp e1).1
          rwa [List.length_set] at this
        rw [List.getElem?_set_self hl] at e1
        rw [List.getElem?_set_self (by rw [r.len]; exact hl)] at e3
        rw [List.getElem?_set_ne hik] at e2 e4
        have e1' : c = .own o := by simpa using e1
        have e3' : v = .ref a := by simpa using e3
        exact absurd e4 (d a o e1' e3' k o' e2)
    · rw [List.getElem?_set_ne hij] at e1 e3
      by_cases hik : i = k
      · subst hik
        have hl : i < ρ.length := by
          have := (List.getElem?_eq_some_iff.mp e2).1
          rwa [List.length_set] at this
        rw [List.getElem?_set_self hl] at e2
        rw [List.getElem?_set_self (by rw [r.len]; exact hl)] at e4
        have e2' : c = .own o' := by simpa using e2
        have e4' : v = .ref a := by simpa using e4
        exact absurd e3 (d a o' e2' e4' j o e1)
      · rw [List.getElem?_set_ne hik] at e2 e4
        exact r.dist j k a o o' e1 e2 e3 e4
/-- only the slots sl are stored to -/
def Off (sl : List Nat) (σ σ' : L2.St) : Prop := σ'.length = σ.length ∧ ∀ j : Nat, j ∉ sl → σ'[j]? = σ[j]?
theorem Off.refl {sl : List Nat} {σ : L2.St} : Off sl σ σ := ⟨rfl, fun _ _ => rfl⟩
theorem Off.trans {s1 s2 : List Nat} {σ σ1 σ2 : L2.St} (h : Off s1 σ σ1) (q : Off s2 σ1 σ2) : Off (s1 ++ s2) σ σ2 :=
  ⟨q.1.trans h.1, fun j hj => by
    simp only [List.mem_append, not_or] at hj
    rw [q.2 j hj.2, h.2 j hj.1]⟩
def RG (K : PySem.W.Frag) (g : TG) (a : C → Ro → M Ro) (sl : List Nat) : Prop := ∀ tp He Hq ρ σ Hb H v c (Q : L2.St → Hp → Prop), Rel tp K He Hq Hb σ ρ → GrT tp Hb H → TOk tp H → RC tp K Hb H v c → wp0 (a c ρ) (fun ρ' => ∀ σ', Off sl σ σ' → Rel tp K He Hq H σ' ρ' → Q σ' H) → g v σ H Q
theorem RC.sr {Hb : Hp} {v : V} {c : C} (r : Rel tp K He Hq Hb σ ρ) (h : RC tp K Hb H v c) (n : ∀ o, c ≠ .bor o) : SR tp K Hq H v c := by
  cases c with
  | val d => exact h
  | own o =>
    obtain ⟨a, e, f, k, h⟩ := h
    exact ⟨a, e, r.gr.free r.tok f, k, h⟩
  | bor o => exact absurd rfl (n o)
  | tape => exact h
theorem rg_name {i : Nat} : RG K (gName i) (asgR i) [i] := by
  have off : ∀ {σ : L2.St} {v : V}, Off [i] σ (σ.set i (some v)) := fun {σ v} => ⟨List.length_set, fun j hj => List.getElem?_set_ne (fun z => hj (by simp [z]))⟩
  intro tp He Hq ρ σ Hb H v c Q r g t rc h
  unfold asgR at h
  split at h
  · split at h
    · rename_i d
      exact h _ off ((r.go g t).put (rc.sr r (fun _ z => by cases z)) (fun _ _ z => by cases z))
    · rename_i o
      refine h _ off ((r.go g t).put (rc.sr r (fun _ z => by cases z)) (fun a o2 z e j o' hj hs => ?_))
      obtain ⟨a', e', f, n, q⟩ := rc
      obtain ⟨u, hu, hr⟩ := r.at_ j _ hj
      obtain ⟨b, eb, _, _, qb⟩ := hr
      rw [hs] at hu
      cases hu
      cases eb
      rw [e] at e'
      cases e'
      cases o' with
      | lst ds =>
        obtain ⟨vs, h1, _⟩ := qb
        rw [f] at h1
        cases h1
      | dT ds =>
        obtain ⟨vs, h1, _⟩ := qb
        rw [f] at h1
        cases h1
      | dK ds =>
        obtain ⟨vs, h1, _⟩ := qb
        rw [f] at h1
        cases h1
      | lT ds =>
        exact qb.elim
    · exact h.elim
  · exact h.elim
def RGs (K : PySem.W.Frag) (g : TGs) (a : List PyData → Ro → M Ro) (sl : List Nat) : Prop := ∀ tp He Hq ρ σ H vs ds (Q : L2.St → Hp → Prop), Rel tp K He Hq H σ ρ → VlAll K H vs ds → lfAll ds = true → wp0 (a ds ρ) (fun ρ' => ∀ σ', Off sl σ σ' → Rel tp K He Hq H σ' ρ' → Q σ' H) → g vs σ H Q
def aNil : List PyData → Ro → M Ro
  | [], ρ => .ret ρ
  | _, _ => .fail
def aCons (a : C → Ro → M Ro) (as : List PyData → Ro → M Ro) : List PyData → Ro → M Ro
  | d :: ds, ρ => (a (.val d) ρ).bind fun ρ' => as ds ρ'
  | [], _ => .fail
def aTup (n : Nat) (as : List PyData → Ro → M Ro) : C → Ro → M Ro
  | .val (.tuple ds), ρ => if ds.length = n then as ds ρ else .fail
  | _, _ => .fail
theorem rgs_nil : RGs K gNil aNil [] := by
  intro tp He Hq ρ σ H vs ds Q r hd f h
  unfold aNil at h
  split at h
  · cases hd
    exact ⟨rfl, h σ .refl r⟩
  · exact h.elim
theorem rgs_cons {g : TG} {gs : TGs} {a : C → Ro → M Ro} {as : List PyData → Ro → M Ro} {s1 s2 : List Nat} (h1 : RG K g a s1) (h2 : RGs K gs as s2) : RGs K (gCons g gs) (aCons a as) (s1 ++ s2) := by
  intro tp He Hq ρ σ H vs ds Q r hd f h
  unfold aCons at h
  split at h
  · rename_i d ds
    simp only [lfAll, Bool.and_eq_true] at f
    cases hd with
    | cons q1 q2 =>
      refine ⟨_, _, rfl, h1 tp He Hq ρ σ H H _ (.val d) _ r .refl r.tok ⟨q1, rfl⟩ (wp0_mono (fun ρ' hρ => ?_) (wp0_bind.mp h))⟩
      intro σ' o' r'
      exact h2 tp He Hq ρ' σ' H _ ds Q r' q2 rfl (wp0_mono (fun ρ2 h2 σ2 o2 r2 => h2 σ2 (o'.trans o2) r2) hρ)
  · exact h.elim
theorem rg_tup {n : Nat} {gs : TGs} {as : List PyData → Ro → M Ro} {sl : List Nat} (h2 : RGs K gs as sl) : RG K (gTup K n gs) (aTup n as) sl := by
  intro tp He Hq ρ σ Hb H v c Q r g t rc h
  unfold aTup at h
  split at h
  · rename_i ds
    obtain ⟨a, vs, rfl, q1, q2, q3⟩ := rc.tup
    split at h
    · rename_i e
      exact ⟨a, vs, rfl, q1, by rw [q2.len]; exact e, h2 tp He Hq ρ σ H vs ds Q (r.go g t) q2 q3 h⟩
    · exact h.elim
  · exact h.elim
def mAsg (g : Ro → M C) (a : C → Ro → M Ro) (ρ : Ro) : M Res := (g ρ).bind fun c => (a c ρ).bind fun ρ' => .ret (.nx ρ')
theorem rs_asg {te : TE} {g : TG} {ge : Ro → M C} {a : C → Ro → M Ro} {sl : List Nat} (h1 : RE K te ge) (h2 : RG K g a sl) : RS K (tAsg te g) (mAsg ge a) := by
  intro tp He Hq ρ σ H D r h
  refine h1 tp He Hq ρ σ H _ r (wp0_mono (fun c hc => ?_) (wp0_bind.mp h))
  intro x H1 g1 t1 rx
  exact h2 tp He Hq ρ σ H H1 x c _ r g1 t1 rx (wp0_mono (fun ρ' hρ σ' _ r' => hρ σ' H1 Hq .refl r') (wp0_bind.mp hc))
/-- a, b = x, y -/
def mPar (i j : Nat) (gs : Ro → M (List C)) (ρ : Ro) : M Res := (gs ρ).bind fun cs => match cs with
  | [c, d] => (asgR i c ρ).bind fun ρ1 => (match d with
    | .own _ => (.fail : M Res)
    | d => (asgR j d ρ1).bind fun ρ2 => .ret (.nx ρ2))
  | _ => .fail
theorem rs_par {i j : Nat} {ta : TA} {gs : Ro → M (List C)} (h1 : RA K ta gs) : RS K (tPar2 i j ta) (mPar i j gs) := by
  intro tp He Hq ρ σ H D r h
  refine h1 tp He Hq ρ σ H _ r (wp0_mono (fun cs hc => ?_) (wp0_bind.mp h))
  intro vs H1 g1 t1 rx
  split at hc
  · rename_i c d
    obtain ⟨v, w, rfl, q1, q2⟩ := rx.two
    refine ⟨v, w, rfl, rg_name tp He Hq ρ σ H H1 v c _ r g1 t1 q1 (wp0_mono (fun ρ1 h2 σ1 _ r1 => ?_) (wp0_bind.mp hc))⟩
    split at h2
    · exact h2.elim
    · rename_i n
      have q3 : RC tp K H1 H1 w d := by
        cases d with
        | own o => exact absurd rfl (n o)
        | val d => exact q2
        | bor d => exact q2
        | tape => exact q2
      exact rg_name tp He Hq ρ1 σ1 H1 H1 w d _ r1 .refl t1 q3 (wp0_mono (fun ρ2 h3 σ2 _ r2 => h3 σ2 H1 Hq .refl r2) (wp0_bind.mp h2))
  · exact hc.elim
/-! ### a list of one's own is changed -/
def setOwn (i : Nat) (ds : List PyData) (ρ : Ro) : Ro := ρ.set i (some (.own (.lst ds)))
theorem Rel.own {i : Nat} {ds ds' : List PyData} {vs' : List V} (r : Rel tp K He Hq H σ ρ) (e : ρ[i]? = some (some (.own (.lst ds)))) : ∃ a vs, σ[i]? = some (some (.ref a)) ∧ H a = some (.lst vs) ∧ VlAll K H vs ds ∧ lfAll ds = true ∧
    (∀ vs' ds', VlAll K H vs' ds' → lfAll ds' = true → Rel tp K He Hq (upd H a (.lst vs')) σ (setOwn i ds' ρ)) := by
  obtain ⟨v, h1, a, e2, f, n, vs, h2, h3, h4⟩ := r.at_ i _ e
  subst e2
  refine ⟨a, vs, h1, h2, h3, h4, fun vs' ds' hd hf => ?_⟩
  have im : Im H (upd H a (.lst vs')) := Im.set h2
  have hl : i < ρ.length := (List.getElem?_eq_some_iff.mp e).1
  refine ⟨by unfold setOwn; rw [List.length_set, r.len], fun j c ej => ?_, fun j k b o o' e1 e2 e3 e4 => ?_, r.sub, fun b o eb nb => ?_, fun t l et => ?_, r.he⟩
  · unfold setOwn at ej
    by_cases hij : i = j
    · subst hij
      rw [List.getElem?_set_self hl] at ej
      cases ej
      exact ⟨_, h1, a, rfl, f, n, vs', upd_same, hd.imlf im ds' _ hf, hf⟩
    · rw [List.getElem?_set_ne hij] at ej
      obtain ⟨u, q1, q2⟩ := r.at_ j c ej
      refine ⟨u, q1, ?_⟩
      cases c with
      | val d => exact ⟨q2.1.imlf im d _ q2.2, q2.2⟩
      | own o =>
        obtain ⟨b, eb, fb, nb, q⟩ := q2
        have hne : b ≠ a := fun z => by
          subst z
          subst eb
          exact hij (r.dist i j b _ _ e ej h1 q1)
        refine ⟨b, eb, fb, nb, ?_⟩
        cases o with
        | lst es =>
          obtain ⟨us, p1, p2, p3⟩ := q
          exact ⟨us, by rw [upd_ne hne]; exact p1, p2.imlf im es _ p3, p3⟩
        | dT es =>
          obtain ⟨us, p1, p2, p3⟩ := q
          exact ⟨us, by rw [upd_ne hne]; exact p1, p2.imlf im es _ p3, p3⟩
        | dK es =>
          obtain ⟨us, p1, p2, p3⟩ := q
          exact ⟨us, by rw [upd_ne hne]; exact p1, p2.imlf im es _ p3, p3⟩
        | lT es =>
          exact q.elim
      | bor o => exact q2
      | tape => exact q2
  · have own_of : ∀ {m : Nat} {o : PO}, (setOwn i ds' ρ)[m]? = some (some (.own o)) → ∃ o, ρ[m]? = some (some (.own o)) := fun {m o} em => by
      unfold setOwn at em
      by_cases him : i = m
      · subst him; exact ⟨_, e⟩
      · rw [List.getElem?_set_ne him] at em; exact ⟨_, em⟩
    obtain ⟨o1, e1'⟩ := own_of e1
    obtain ⟨o2, e2'⟩ := own_of e2
    exact r.dist j k b o1 o2 e1' e2' e3 e4
  · have hne : b ≠ a := fun z => by subst z; rw [f] at eb; cases eb
    rw [upd_ne hne]
    exact r.gr b o eb nb
  · exact (r.tok t l et).upd (n t l et).1 (n t l et).2
end
end Cs

set_option maxRecDepth 100000
set_option maxHeartbeats 4000000
/-! what is walked; for, while, comprehensions -/
namespace Cs
open PySem PySem.Spec PyProof.Rows L2
/-- a list, a tuple or a text, walked -/
def iSeq (K : PySem.W.Frag) (tl : TE) : TI := fun σ H R => tl σ H fun x H1 => (∃ a, x = .ref a ∧ (∃ xs, SqL K H1 a xs) ∧ R (Itl K a) H1) ∨ (∃ a, x = .ref a ∧ (∃ xs, SqT K H1 a xs) ∧ R (Itt K a) H1) ∨ (∃ z, x = .str z ∧ R (Its z) H1)
theorem pi_seq (K : PySem.W.Frag) {X : Cx} {tg l : Expr} {tl : TE} (hl : PE X l tl) (h : X.K = K := by rfl) : PI X tg l (iSeq K tl) := by
  subst h
  refine ⟨fun pins s σ H R I h => ?_⟩
  refine thn (hl.run pins s σ H _ I h) fun v s1 ⟨x, H1, I1, r1, q1⟩ => ?_
  rcases q1 with ⟨a, e, ⟨xs, hq⟩, q⟩ | ⟨a, e, ⟨xs, hq⟩, q⟩ | ⟨z, e, q⟩
  · subst e
    cases r1
    obtain ⟨its, rv, p, hz⟩ := I1.list hq
    refine wpAny_pyIter_list p.isList ?_
    refine ⟨s1.heap.objs.size, [s1.heap.objs.size], _, _, H1, rfl, I1.kept (t' := s1.toks) fun b o e => Heap.get?_push_of_some _ e, turn_list a _, ⟨_, Heap.get?_push_size _ rfl, rfl, rfl⟩, fun b hb => ?_, q⟩
    have e : b = s1.heap.objs.size := by simpa using hb
    subst e
    exact I1.fpOk (Nat.le_refl _) (I1.hok.fresh (Nat.le_refl _))
  · subst e
    cases r1
    obtain ⟨its, rv, p, hz⟩ := I1.tuple hq
    refine wpAny_pyIter_tuple (show s1.heap.IsTuple a its.toArray from p) ?_
    refine ⟨s1.heap.objs.size, [s1.heap.objs.size], _, _, H1, rfl, I1.kept (t' := s1.toks) fun b o e => Heap.get?_push_of_some _ e, turn_tuple a _, ⟨_, Heap.get?_push_size _ rfl, rfl, rfl⟩, fun b hb => ?_, q⟩
    have e : b = s1.heap.objs.size := by simpa using hb
    subst e
    exact I1.fpOk (Nat.le_refl _) (I1.hok.fresh (Nat.le_refl _))
  · subst e
    obtain ⟨t, rfl⟩ := r1
    cases ha : z.cps.all (· < 128)
    · exact wpAny_pyIter_wide ha (pi_one (tk := s1.toks) I1 _ (turn_str _ z t "str_iterator" (.inr rfl)) ⟨_, Heap.get?_push_size _ rfl, rfl, rfl⟩ q)
    · exact wpAny_pyIter_ascii ha (pi_one (tk := s1.toks) I1 _ (turn_str _ z t "str_ascii_iterator" (.inl rfl)) ⟨_, Heap.get?_push_size _ rfl, rfl, rfl⟩ q)
section
variable {tp : Option (Addr × Addr)} {K : PySem.W.Frag} {H H' H'' H0 H1 He : Hp} {Hq : Hp} {σ : L2.St} {ρ : Ro}
/-- the walk J yields the data ds, while tuples stay and what stands at pa stays -/
def Wk (K : PySem.W.Frag) (H1 : Hp) (J : It) (pa : List Addr) (ds : List PyData) : Prop := ∀ H', Im H1 H' → (∀ p ∈ pa, ∀ o, H1 p = some o → H' p = some o) →
  J.stop ds.length H' ∧ ∀ (i : Nat) (d : PyData), ds[i]? = some d → J.go i H' ∧ ∀ x H'', J.yld i H' x H'' → Same H' H'' ∧ Vl K H'' x d
theorem wk_list {a : Addr} {vs : List V} {ds : List PyData} (h : Rd H1 a (.lst vs)) (hd : VlAll K H1 vs ds) (f : lfAll ds = true) : Wk K H1 (Itl K a) [a] ds := by
  intro H' im kp
  have hs : SqL K H' a vs := by
    rcases h with h | ⟨o, h⟩
    · exact .inl (.inl (kp a (by simp) _ h))
    · exact .inl (.inr ⟨o, im.frz _ _ _ h⟩)
  have hd' := hd.imlf im ds _ f
  refine ⟨⟨vs, hs, by rw [hd.len]; exact Nat.le_refl _⟩, fun i d e => ?_⟩
  obtain ⟨v, h1, h2⟩ := hd'.get e
  refine ⟨⟨vs, v, hs, h1⟩, fun x H'' y => ?_⟩
  obtain ⟨e1, y⟩ := y
  subst e1
  have := y vs hs
  rw [h1] at this
  cases this
  exact ⟨fun _ _ e => e, h2⟩
theorem wk_frz {a : Addr} {vs : List V} {ds : List PyData} (h : SqF K H1 a vs) (hd : VlAll K H1 vs ds) : Wk K H1 (Itl K a) [] ds := by
  intro H' im _
  have hs : SqL K H' a vs := (h.im im).sq
  have hd' := hd.imlf im ds _ rfl
  refine ⟨⟨vs, hs, by rw [hd.len]; exact Nat.le_refl _⟩, fun i d e => ?_⟩
  obtain ⟨v, h1, h2⟩ := hd'.get e
  refine ⟨⟨vs, v, hs, h1⟩, fun x H'' y => ?_⟩
  obtain ⟨e1, y⟩ := y
  subst e1
  have := y vs hs
  rw [h1] at this
  cases this
  exact ⟨fun _ _ e => e, h2⟩
theorem RC.frz {v : V} {ds : List PyData} (h : RC tp K H0 H v (.val (.list ds))) : ∃ a vs, v = .ref a ∧ SqF K H a vs ∧ VlAll K H vs ds := by
  obtain ⟨h, _⟩ := h
  cases h with
  | lst h1 h2 => exact ⟨_, _, rfl, h1, h2⟩
theorem wk_tup {a : Addr} {vs : List V} {ds : List PyData} (h : SqT K H1 a vs) (hd : VlAll K H1 vs ds) (f : lfAll ds = true) : Wk K H1 (Itt K a) [] ds := by
  intro H' im kp
  have hs : SqT K H' a vs := im.sqT h
  have hd' := hd.imlf im ds _ f
  refine ⟨⟨vs, hs, by rw [hd.len]; exact Nat.le_refl _⟩, fun i d e => ?_⟩
  obtain ⟨v, h1, h2⟩ := hd'.get e
  refine ⟨⟨vs, v, hs, h1⟩, fun x H'' y => ?_⟩
  obtain ⟨e1, y⟩ := y
  subst e1
  have := y vs hs
  rw [h1] at this
  cases this
  exact ⟨fun _ _ e => e, h2⟩
def signsD (z : Str) : List PyData := z.cps.toList.map fun c => .str ⟨#[c]⟩
theorem lf_signs (z : Str) : lfAll (signsD z) = true := lfAll_iff.mpr fun d m => by
  obtain ⟨c, _, rfl⟩ := List.mem_map.mp m
  rfl
theorem wk_str {z : Str} : Wk K H1 (Its z) [] (signsD z) := by
  intro H' im kp
  refine ⟨show z.cps.size ≤ (signsD z).length by simp [signsD], fun i d e => ?_⟩
  unfold signsD at e
  rw [List.getElem?_map] at e
  cases q : z.cps.toList[i]? with
  | none => rw [q] at e; cases e
  | some c =>
    rw [q] at e
    cases e
    have hi := (List.getElem?_eq_some_iff.mp q).1
    refine ⟨show i < z.cps.size by simpa using hi, fun x H'' y => ?_⟩
    obtain ⟨e1, c', hc, e2⟩ := y
    subst e1 e2
    have q' : z.cps[i]? = some c := by simpa using q
    rw [q'] at hc
    cases hc
    exact ⟨fun _ _ e => e, .str _⟩
def rngD (lo c : Int) (n : Nat) : List PyData := (List.range n).map fun i => .int (lo + (i : Nat) * c)
theorem lf_rng (lo c : Int) (n : Nat) : lfAll (rngD lo c n) = true := lfAll_iff.mpr fun d m => by
  obtain ⟨c, _, rfl⟩ := List.mem_map.mp m
  rfl
theorem rngD_get {lo c : Int} {n i : Nat} {d : PyData} (e : (rngD lo c n)[i]? = some d) : i < n ∧ d = .int (lo + (i : Nat) * c) := by
  unfold rngD at e
  rw [List.getElem?_map] at e
  cases q : (List.range n)[i]? with
  | none => rw [q] at e; cases e
  | some j =>
    rw [q] at e
    cases e
    have hi := (List.getElem?_eq_some_iff.mp q).1
    rw [List.getElem?_range (by simpa using hi)] at q
    cases q
    exact ⟨by simpa using hi, rfl⟩
theorem wk_rng {lo : Int} {n : Nat} : Wk K H1 (Itr lo n) [] (rngD lo 1 n) := by
  intro H' im kp
  refine ⟨show n ≤ (rngD lo 1 n).length by simp [rngD], fun i d e => ?_⟩
  obtain ⟨h1, rfl⟩ := rngD_get e
  refine ⟨h1, fun x H'' y => ?_⟩
  obtain ⟨e1, e2⟩ := y
  subst e1 e2
  rw [Int.mul_one]
  exact ⟨fun _ _ e => e, .int _⟩
theorem wk_rngC {lo c : Int} {n : Nat} : Wk K H1 (Itc lo c n) [] (rngD lo c n) := by
  intro H' im kp
  refine ⟨show n ≤ (rngD lo c n).length by simp [rngD], fun i d e => ?_⟩
  obtain ⟨h1, rfl⟩ := rngD_get e
  refine ⟨h1, fun x H'' y => ?_⟩
  obtain ⟨e1, e2⟩ := y
  subst e1 e2
  exact ⟨fun _ _ e => e, .int _⟩
theorem lf_rev {ds : List PyData} (f : lfAll ds = true) : lfAll ds.reverse = true := lfAll_iff.mpr fun d m => lfAll_iff.mp f d (List.mem_reverse.mp m)
theorem rev_get {ds : List PyData} {i : Nat} {d : PyData} (e : ds.reverse[i]? = some d) : i < ds.length ∧ ds[ds.length - 1 - i]? = some d := by
  have hi : i < ds.length := by have := (List.getElem?_eq_some_iff.mp e).1; simpa using this
  rw [List.getElem?_reverse hi] at e
  exact ⟨hi, e⟩
theorem wk_revT {a : Addr} {vs : List V} {ds : List PyData} (h : SqT K H1 a vs) (hd : VlAll K H1 vs ds) (f : lfAll ds = true) : Wk K H1 (RT.ItvT K a vs.length) [] ds.reverse := by
  intro H' im kp
  have hs : SqT K H' a vs := im.sqT h
  have hd' := hd.imlf im ds _ f
  refine ⟨show vs.length ≤ ds.reverse.length by rw [hd.len, List.length_reverse]; exact Nat.le_refl _, fun i d e => ?_⟩
  obtain ⟨hi, e⟩ := rev_get e
  obtain ⟨v, h1, h2⟩ := hd'.get e
  rw [← hd.len] at h1 hi
  refine ⟨⟨hi, vs, v, hs, h1⟩, fun x H'' y => ?_⟩
  obtain ⟨e1, y⟩ := y
  subst e1
  have := y vs hs
  rw [h1] at this
  cases this
  exact ⟨fun _ _ e => e, h2⟩
theorem wk_revL {a : Addr} {vs : List V} {ds : List PyData} (h : Rd H1 a (.lst vs)) (hd : VlAll K H1 vs ds) (f : lfAll ds = true) : Wk K H1 (Itv K a vs.length) [a] ds.reverse := by
  intro H' im kp
  have hs : SqL K H' a vs := by
    rcases h with h | ⟨o, h⟩
    · exact .inl (.inl (kp a (by simp) _ h))
    · exact .inl (.inr ⟨o, im.frz _ _ _ h⟩)
  have hd' := hd.imlf im ds _ f
  refine ⟨show vs.length ≤ ds.reverse.length by rw [hd.len, List.length_reverse]; exact Nat.le_refl _, fun i d e => ?_⟩
  obtain ⟨hi, e⟩ := rev_get e
  obtain ⟨v, h1, h2⟩ := hd'.get e
  rw [← hd.len] at h1 hi
  refine ⟨⟨hi, vs, v, hs, h1⟩, fun x H'' y => ?_⟩
  obtain ⟨e1, y⟩ := y
  subst e1
  have := y vs hs
  rw [h1] at this
  cases this
  exact ⟨fun _ _ e => e, h2⟩
/-! ### the sources -/
def OwnFree (σ : L2.St) (ρ : Ro) (pa : List Addr) : Prop := ∀ (p : Addr) (j : Nat) (o : PO), p ∈ pa → ρ[j]? = some (some (.own o)) → σ[j]? ≠ some (some (.ref p))
def RI (K : PySem.W.Frag) (s : Bool) (wi : TI) (its : Ro → M (List PyData)) : Prop := ∀ tp He Hq ρ σ H (Q : It → Hp → Prop), Rel tp K He Hq H σ ρ →
  wp0 (its ρ) (fun ds => ∀ J H1 pa, GrT tp H H1 → TOk tp H1 → lfAll ds = true → Wk K H1 J pa ds → (∀ p ∈ pa, tp.map (·.1) ≠ some p) → (s = true → OwnFree σ ρ pa) → Q J H1) → wi σ H Q
def itD : C → M (List PyData)
  | .val (.tuple ds) => .ret ds
  | .val (.str z) => .ret (signsD z)
  | .own (.lst ds) => .ret ds
  | .val (.list ds) => .ret ds
  | _ => .fail
/-- a thing made in place -/
def gIt (g : Ro → M C) (ρ : Ro) : M (List PyData) := (g ρ).bind itD
theorem Rel.nown (r : Rel tp K He Hq H σ ρ) {p : Addr} (h : H p = none) {j : Nat} {o : PO} (e : ρ[j]? = some (some (.own o))) : σ[j]? ≠ some (some (.ref p)) := fun hs => by
  obtain ⟨v, h1, a, e2, _, _, q⟩ := r.at_ j _ e
  rw [hs] at h1
  cases h1
  cases e2
  cases o with
  | lst ds =>
    obtain ⟨vs, h3, _⟩ := q
    rw [h] at h3
    cases h3
  | dT ds =>
    obtain ⟨vs, h3, _⟩ := q
    rw [h] at h3
    cases h3
  | dK ds =>
    obtain ⟨vs, h3, _⟩ := q
    rw [h] at h3
    cases h3
  | lT ds =>
    exact q.elim
theorem ri_seq {te : TE} {g : Ro → M C} {s : Bool} (h1 : RE K te g) : RI K s (iSeq K te) (gIt g) := by
  intro tp He Hq ρ σ H Q r h
  refine h1 tp He Hq ρ σ H _ r (wp0_mono (fun c hc => ?_) (wp0_bind.mp h))
  intro x H1 g1 t1 rx
  unfold itD at hc
  split at hc
  · rename_i ds
    obtain ⟨a, vs, rfl, q1, q2, q3⟩ := rx.tup
    exact .inr (.inl ⟨a, rfl, ⟨vs, q1⟩, hc _ H1 [] g1 t1 q3 (wk_tup q1 q2 q3) (fun _ m => by simp at m) (fun _ _ _ _ m => by simp at m)⟩)
  · rename_i z
    cases rx.str
    exact .inr (.inr ⟨z, rfl, hc _ H1 [] g1 t1 (lf_signs z) wk_str (fun _ m => by simp at m) (fun _ _ _ _ m => by simp at m)⟩)
  · rename_i ds
    obtain ⟨a, rfl, f, n, vs, q1, q2, q3⟩ := rx
    refine .inl ⟨a, rfl, ⟨vs, SqL.of q1⟩, hc _ H1 [a] g1 t1 q3 (wk_list (.inl q1) q2 q3) (fun p m => ?_) (fun _ p j o m e => ?_)⟩
    · have : p = a := by simpa using m
      subst this
      exact n.ne
    · have : p = a := by simpa using m
      subst this
      exact r.nown f e
  · rename_i ds
    obtain ⟨a, vs, rfl, q1, q2⟩ := rx.frz
    exact .inl ⟨a, rfl, ⟨vs, q1.sq⟩, hc _ H1 [] g1 t1 rfl (wk_frz q1 q2) (fun _ m => by simp at m) (fun _ _ _ _ m => by simp at m)⟩
  · exact hc.elim
/-- a name -/
def itV : C → M (List PyData)
  | .val (.tuple ds) => .ret ds
  | .val (.str z) => .ret (signsD z)
  | .bor (.lst ds) => .ret ds
  | .val (.list ds) => .ret ds
  | .own (.lst ds) => .ret ds
  | _ => .fail
def itVs : C → M (List PyData)
  | .val (.tuple ds) => .ret ds
  | .val (.str z) => .ret (signsD z)
  | .bor (.lst ds) => .ret ds
  | .val (.list ds) => .ret ds
  | _ => .fail
def gItV (s : Bool) (i : Nat) (ρ : Ro) : M (List PyData) := match ρ[i]? with
  | some (some c) => if s = true then itVs c else itV c
  | _ => .fail
theorem ri_var {i : Nat} {s : Bool} : RI K s (iSeq K (tVar i)) (gItV s i) := by
  intro tp He Hq ρ σ H Q r h
  unfold gItV at h
  split at h
  · rename_i c e
    obtain ⟨v, h1, h2⟩ := r.at_ i c e
    refine ⟨v, h1, ?_⟩
    have tup : ∀ {ds : List PyData}, SR tp K Hq H v (.val (.tuple ds)) → wp0 (.ret ds : M (List PyData)) (fun ds => ∀ J H1 pa, GrT tp H H1 → TOk tp H1 → lfAll ds = true → Wk K H1 J pa ds → (∀ p ∈ pa, tp.map (·.1) ≠ some p) → (s = true → OwnFree σ ρ pa) → Q J H1) → (∃ a, v = .ref a ∧ (∃ xs, SqL K H a xs) ∧ Q (Itl K a) H) ∨ (∃ a, v = .ref a ∧ (∃ xs, SqT K H a xs) ∧ Q (Itt K a) H) ∨ (∃ z, v = .str z ∧ Q (Its z) H) := fun {ds} h2 h => by
      have h2' : RC tp K H H v (.val (.tuple ds)) := h2
      obtain ⟨a, vs, rfl, q1, q2, q3⟩ := h2'.tup
      exact .inr (.inl ⟨a, rfl, ⟨vs, q1⟩, h _ H [] .refl r.tok q3 (wk_tup q1 q2 q3) (fun _ m => by simp at m) (fun _ _ _ _ m => by simp at m)⟩)
    have str : ∀ {z : Str}, SR tp K Hq H v (.val (.str z)) → wp0 (.ret (signsD z) : M (List PyData)) (fun ds => ∀ J H1 pa, GrT tp H H1 → TOk tp H1 → lfAll ds = true → Wk K H1 J pa ds → (∀ p ∈ pa, tp.map (·.1) ≠ some p) → (s = true → OwnFree σ ρ pa) → Q J H1) → (∃ a, v = .ref a ∧ (∃ xs, SqL K H a xs) ∧ Q (Itl K a) H) ∨ (∃ a, v = .ref a ∧ (∃ xs, SqT K H a xs) ∧ Q (Itt K a) H) ∨ (∃ z, v = .str z ∧ Q (Its z) H) := fun {z} h2 h => by
      have h2' : RC tp K H H v (.val (.str z)) := h2
      cases h2'.str
      exact .inr (.inr ⟨z, rfl, h _ H [] .refl r.tok (lf_signs z) wk_str (fun _ m => by simp at m) (fun _ _ _ _ m => by simp at m)⟩)
    have lst : ∀ {ds : List PyData}, SR tp K Hq H v (.val (.list ds)) → wp0 (.ret ds : M (List PyData)) (fun ds => ∀ J H1 pa, GrT tp H H1 → TOk tp H1 → lfAll ds = true → Wk K H1 J pa ds → (∀ p ∈ pa, tp.map (·.1) ≠ some p) → (s = true → OwnFree σ ρ pa) → Q J H1) → (∃ a, v = .ref a ∧ (∃ xs, SqL K H a xs) ∧ Q (Itl K a) H) ∨ (∃ a, v = .ref a ∧ (∃ xs, SqT K H a xs) ∧ Q (Itt K a) H) ∨ (∃ z, v = .str z ∧ Q (Its z) H) := fun {ds} h2 h => by
      have h2' : RC tp K H H v (.val (.list ds)) := h2
      obtain ⟨a, vs, rfl, q1, q2⟩ := h2'.frz
      exact .inl ⟨a, rfl, ⟨vs, q1.sq⟩, h _ H [] .refl r.tok rfl (wk_frz q1 q2) (fun _ m => by simp at m) (fun _ _ _ _ m => by simp at m)⟩
    have bor : ∀ {ds : List PyData}, SR tp K Hq H v (.bor (.lst ds)) → wp0 (.ret ds : M (List PyData)) (fun ds => ∀ J H1 pa, GrT tp H H1 → TOk tp H1 → lfAll ds = true → Wk K H1 J pa ds → (∀ p ∈ pa, tp.map (·.1) ≠ some p) → (s = true → OwnFree σ ρ pa) → Q J H1) → (∃ a, v = .ref a ∧ (∃ xs, SqL K H a xs) ∧ Q (Itl K a) H) ∨ (∃ a, v = .ref a ∧ (∃ xs, SqT K H a xs) ∧ Q (Itt K a) H) ∨ (∃ z, v = .str z ∧ Q (Its z) H) := fun {ds} h2 h => by
      obtain ⟨a, rfl, q⟩ := h2
      obtain ⟨vs, q1, q2, q3⟩ := r.bor q
      obtain ⟨ws, p1, _, _⟩ := q
      refine .inl ⟨a, rfl, ⟨vs, q1.sq⟩, h _ H [a] .refl r.tok q3 (wk_list q1.1 q2 q3) (fun p m => ?_) (fun _ p j o m e => ?_)⟩
      · have : p = a := by simpa using m
        subst this
        exact q1.2
      · have : p = a := by simpa using m
        subst this
        intro hs
        obtain ⟨v', h3, b, e3, f, _⟩ := r.at_ j _ e
        rw [hs] at h3
        cases h3
        cases e3
        rcases p1.1 with z | ⟨_, z⟩ <;> (rw [f] at z; cases z)
    split at h
    · unfold itVs at h
      split at h
      · exact tup h2 h
      · exact str h2 h
      · exact bor h2 h
      · exact lst h2 h
      · exact h.elim
    · rename_i ns
      unfold itV at h
      split at h
      · exact tup h2 h
      · exact str h2 h
      · exact bor h2 h
      · exact lst h2 h
      · rename_i ds
        obtain ⟨a, rfl, f, n, vs, q1, q2, q3⟩ := h2
        refine .inl ⟨a, rfl, ⟨vs, SqL.of q1⟩, h _ H [a] .refl r.tok q3 (wk_list (.inl q1) q2 q3) (fun p m => ?_) (fun z => absurd z ns)⟩
        have : p = a := by simpa using m
        subst this
        exact n.ne
      · exact h.elim
  · exact h.elim
/-! range -/
def rngOk (i : Int) : Bool := decide (-4611686018427387904 ≤ i) && decide (i < 4611686018427387904)
theorem rngOk_of {i : Int} (h : rngOk i = true) : -(2 ^ 62) ≤ i ∧ i < 2 ^ 62 := by
  simp only [rngOk, Bool.and_eq_true, decide_eq_true_eq] at h
  exact h
def itR1 : List C → M (List PyData)
  | [.val (.int j)] => if rngOk j = true then .ret (rngD 0 1 j.toNat) else .fail
  | _ => .fail
def itR2 : List C → M (List PyData)
  | [.val (.int i), .val (.int j)] => if (rngOk i && rngOk j) = true then .ret (rngD i 1 (j - i).toNat) else .fail
  | _ => .fail
def gItR1 (gs : Ro → M (List C)) (ρ : Ro) : M (List PyData) := (gs ρ).bind itR1
def gItR2 (gs : Ro → M (List C)) (ρ : Ro) : M (List PyData) := (gs ρ).bind itR2
theorem ri_rng1 {ta : TA} {gs : Ro → M (List C)} {s : Bool} (h1 : RA K ta gs) : RI K s (iRng1 ta) (gItR1 gs) := by
  intro tp He Hq ρ σ H Q r h
  refine h1 tp He Hq ρ σ H _ r (wp0_mono (fun cs hc => ?_) (wp0_bind.mp h))
  intro vs H1 g1 t1 rx
  unfold itR1 at hc
  split at hc
  · rename_i j
    obtain ⟨v, rfl, q⟩ := rx.one
    cases q.int
    split at hc
    · rename_i l
      obtain ⟨l1, l2⟩ := rngOk_of l
      exact ⟨j, rfl, l1, l2, hc _ H1 [] g1 t1 (lf_rng _ _ _) wk_rng (fun _ m => by simp at m) (fun _ _ _ _ m => by simp at m)⟩
    · exact hc.elim
  · exact hc.elim
theorem ri_rng2 {ta : TA} {gs : Ro → M (List C)} {s : Bool} (h1 : RA K ta gs) : RI K s (iRng2 ta) (gItR2 gs) := by
  intro tp He Hq ρ σ H Q r h
  refine h1 tp He Hq ρ σ H _ r (wp0_mono (fun cs hc => ?_) (wp0_bind.mp h))
  intro vs H1 g1 t1 rx
  unfold itR2 at hc
  split at hc
  · rename_i i j
    obtain ⟨v, w, rfl, q, q'⟩ := rx.two
    cases q.int; cases q'.int
    split at hc
    · rename_i l
      simp only [Bool.and_eq_true] at l
      obtain ⟨l1, l2⟩ := rngOk_of l.1
      obtain ⟨l3, l4⟩ := rngOk_of l.2
      exact ⟨i, j, rfl, ⟨l1, l2, l3, l4⟩, hc _ H1 [] g1 t1 (lf_rng _ _ _) wk_rng (fun _ m => by simp at m) (fun _ _ _ _ m => by simp at m)⟩
    · exact hc.elim
  · exact hc.elim
/-! ### for -/
theorem GrT.imH (g : GrT tp Hq H') (h : ∀ (t l : Addr), tp = some (t, l) → Hq t = none ∨ ∃ xs, Hq t = some (.lst xs)) : Im Hq H' := by
  have n : ∀ b o, Hq b = some o → (∀ xs, o ≠ .lst xs) → tp.map (·.1) ≠ some b := fun b o e k z => by
    cases tp with
    | none => simp at z
    | some w =>
      obtain ⟨t, l⟩ := w
      have : t = b := by simpa using z
      subst this
      rcases h t l rfl with q | ⟨xs, q⟩
      · rw [q] at e; cases e
      · rw [q] at e; cases e; exact k xs rfl
  exact ⟨fun b xs e => g b _ e (n b _ e fun _ z => by cases z), fun b o u e => g b _ e (n b _ e fun _ z => by cases z)⟩
def forL (a : C → Ro → M Ro) (b : Ro → M Res) : List PyData → Ro → M Res
  | [], ρ => .ret (.nx ρ)
  | d :: ds, ρ => (a (.val d) ρ).bind fun ρ1 => (b ρ1).bind fun r => match r with
    | .nx ρ' => forL a b ds ρ'
    | .ct ρ' => forL a b ds ρ'
    | .bk ρ' => .ret (.nx ρ')
    | .rt c => .ret (.rt c)
theorem for_go {J : It} {pa : List Addr} {ds : List PyData} {g : TG} {tb : TS} {D : Ends} {a : C → Ro → M Ro} {b : Ro → M Res} {sl : List Nat} (hg : RG K g a sl) (hb : RS K tb b) (r : Rel tp K He Hq H1 σ ρ) (f : lfAll ds = true) (w : Wk K Hq J pa ds)
    (np : ∀ p ∈ pa, tp.map (·.1) ≠ some p) (h : wp0 (forL a b ds ρ) (PostS tp K He Hq D)) :
    ∃ W : Nat → Nat → L2.St → Hp → Prop, (∃ m, W 0 m σ H1) ∧ ∀ i m σ H, W i m σ H →
      (J.stop i H ∧ D.nx σ H) ∨ (J.go i H ∧ ∃ N : L2.St → Hp → Prop, (∀ σ' H', N σ' H' → ∃ m', m' < m ∧ W (i + 1) m' σ' H') ∧ ∀ x H', J.yld i H x H' → g x σ H' fun σ2 H2 => tb { D with nx := N, ct := N, bk := D.nx } σ2 H2) := by
  refine ⟨fun i m σ H => m = ds.length - i ∧ i ≤ ds.length ∧ ∃ ρ' Hq', GrT tp Hq Hq' ∧ Rel tp K He Hq' H σ ρ' ∧ wp0 (forL a b (ds.drop i) ρ') (PostS tp K He Hq' D), ⟨ds.length, rfl, Nat.zero_le _, ρ, Hq, .refl, r, h⟩, ?_⟩
  rintro i m σ' H' ⟨rfl, hi, ρ', Hq', g', r', h'⟩
  have gr : GrT tp Hq H' := g'.trans r'.gr
  obtain ⟨st, go⟩ := w H' (gr.imH r.he) (fun p hp o e => gr p o e (np p hp))
  by_cases hlt : i < ds.length
  · obtain ⟨d, hd⟩ : ∃ d, ds[i]? = some d := ⟨ds[i], List.getElem?_eq_getElem hlt⟩
    obtain ⟨go1, yl⟩ := go i d hd
    have e : ds.drop i = d :: ds.drop (i + 1) := by
      rw [List.drop_eq_getElem_cons hlt]
      have : ds[i] = d := by rw [List.getElem?_eq_getElem hlt] at hd; exact Option.some.inj hd
      rw [this]
    rw [e] at h'
    refine .inr ⟨go1, fun σ2 H2 => ∃ ρ2 Hq2, GrT tp Hq Hq2 ∧ Rel tp K He Hq2 H2 σ2 ρ2 ∧ wp0 (forL a b (ds.drop (i + 1)) ρ2) (PostS tp K He Hq2 D), fun σ2 H2 n => ⟨ds.length - (i + 1), by omega, rfl, hlt, n⟩, fun x H'' y => ?_⟩
    obtain ⟨sm, dp⟩ := yl x H'' y
    refine hg tp He Hq' ρ' σ' H' H'' x (.val d) _ r' (.of sm) (r'.tok.same sm) ⟨dp, lfAll_get f hd⟩ (wp0_mono (fun ρ1 h1 => ?_) (wp0_bind.mp (show wp0 ((a (.val d) ρ').bind _) _ from h')))
    intro σ1 _ r1
    refine hb tp He Hq' ρ1 σ1 H'' _ r1 (wp0_mono (fun q hq => ?_) (wp0_bind.mp h1))
    cases q with
    | nx ρ2 => exact fun σ2 H2 Hq2 g2 r2 => ⟨ρ2, Hq2, g'.trans g2, r2, wp0_mono (fun _ hq => hq.mono g2) hq⟩
    | ct ρ2 => exact fun σ2 H2 Hq2 g2 r2 => ⟨ρ2, Hq2, g'.trans g2, r2, wp0_mono (fun _ hq => hq.mono g2) hq⟩
    | bk ρ2 => exact hq
    | rt c => exact hq
  · have e : i = ds.length := by omega
    subst e
    rw [List.drop_length] at h'
    exact .inl ⟨st, h' σ' H' Hq' .refl r'⟩
/-- the walked thing is laid under what the def leaves as it is -/
theorem Rel.more {J : It} {pa : List Addr} {ds : List PyData} (r : Rel tp K He Hq H σ ρ) (of : OwnFree σ ρ pa) (np : ∀ p ∈ pa, tp.map (·.1) ≠ some p) (w : Wk K H J pa ds) :
    ∃ Hq2, GrT tp Hq Hq2 ∧ Rel tp K He Hq2 H σ ρ ∧ Wk K Hq2 J pa ds ∧ Im H Hq2 ∧ ∀ b, tp.map (·.1) ≠ some b → (∀ (j : Nat) (o : PO), ρ[j]? = some (some (.own o)) → σ[j]? ≠ some (some (V.ref b))) → Hq2 b = H b := by
  classical
  let O : Addr → Prop := fun b => tp.map (·.1) = some b ∨ ∃ (j : Nat) (o : PO), ρ[j]? = some (some (.own o)) ∧ σ[j]? = some (some (V.ref b))
  have own_none : ∀ {b : Addr} {j : Nat} {o : PO}, ρ[j]? = some (some (C.own o)) → σ[j]? = some (some (V.ref b)) → Hq b = none ∧ ∃ u, H b = some u ∧ Mut (some u) := fun {b j o} e s => by
    obtain ⟨v, h1, a, e2, f, _, q⟩ := r.at_ j _ e
    rw [s] at h1
    cases h1
    cases e2
    cases o with
    | lst ds =>
      obtain ⟨vs, h3, _⟩ := q
      exact ⟨f, _, h3, trivial⟩
    | dT ds =>
      obtain ⟨vs, h3, _⟩ := q
      exact ⟨f, _, h3, trivial⟩
    | dK ds =>
      obtain ⟨vs, h3, _⟩ := q
      exact ⟨f, _, h3, trivial⟩
    | lT ds =>
      exact q.elim
  let G : Hp := fun b => if O b then Hq b else H b
  have gO : ∀ {b}, O b → G b = Hq b := fun {b} h => if_pos h
  have gN : ∀ {b}, ¬ O b → G b = H b := fun {b} h => if_neg h
  have g1 : GrT tp Hq G := fun b o e n => by
    by_cases hO : O b
    · rw [gO hO]; exact e
    · rw [gN hO]; exact r.gr b o e n
  have im1 : Im Hq G := g1.imH r.he
  have g2 : GrT tp G H := fun b o e n => by
    by_cases hO : O b
    · rw [gO hO] at e
      exact r.gr b o e n
    · rw [gN hO] at e; exact e
  have lst_of : ∀ {b}, O b → ∃ u, H b = some u ∧ Mut (some u) := fun {b} hO => by
    rcases hO with hO | ⟨j, o, e, s⟩
    · cases tp with
      | none => simp at hO
      | some w =>
        obtain ⟨t, l⟩ := w
        have : t = b := by simpa using hO
        subst this
        obtain ⟨_, z⟩ := (r.tok t l rfl).list
        exact ⟨_, z, trivial⟩
    · exact (own_none e s).2
  have tupN : ∀ {b xs}, H b = some (.tup xs) → ¬ O b := fun {b xs} e hO => by
    obtain ⟨u', z, mu⟩ := lst_of hO
    rw [e] at z
    cases z
    exact mu
  have frzN : ∀ {b o u}, H b = some (.frz o u) → ¬ O b := fun {b o u} e hO => by
    obtain ⟨u', z, mu⟩ := lst_of hO
    rw [e] at z
    cases z
    exact mu
  refine ⟨G, g1, ⟨r.len, fun i c e => ?_, r.dist, r.sub.trans g1, g2, r.tok, fun t l e => ?_⟩, fun H' im kp => ?_, ⟨fun b xs e => by rw [gN (tupN e)]; exact e, fun b o u e => by rw [gN (frzN e)]; exact e⟩, fun b n1 n2 => gN fun hO => by
    rcases hO with hO | ⟨j, o, e, s⟩
    · exact n1 hO
    · exact n2 j o e s⟩
  · obtain ⟨v, h1, h2⟩ := r.at_ i c e
    refine ⟨v, h1, ?_⟩
    cases c with
    | val d => exact h2
    | own o =>
      obtain ⟨a, e2, f, n, q⟩ := h2
      subst e2
      exact ⟨a, rfl, by rw [gO (Or.inr ⟨i, o, e, h1⟩)]; exact f, n, q⟩
    | bor o =>
      obtain ⟨a, e2, q⟩ := h2
      refine ⟨a, e2, ?_⟩
      cases o with
      | lst ds =>
        obtain ⟨vs, q1, q2, q3⟩ := q
        exact ⟨vs, q1.gr g1, q2.imlf im1 ds _ q3, q3⟩
      | dT ds =>
        obtain ⟨vs, q1, q2, q3⟩ := q
        exact ⟨vs, q1.gr g1, q2.imlf im1 ds _ q3, q3⟩
      | dK ds =>
        obtain ⟨vs, q1, q2, q3⟩ := q
        exact ⟨vs, q1.gr g1, q2.imlf im1 ds _ q3, q3⟩
      | lT ds =>
        obtain ⟨vs, q1, q2, q3⟩ := q
        exact ⟨vs, q1.gr g1, q2.imlf im1 ds _ q3, q3⟩
    | tape => exact h2
  · rw [gO (Or.inl (by rw [e]; rfl))]
    exact r.he t l e
  · refine w H' ⟨fun b xs e => im.tup b xs (by rw [gN (tupN e)]; exact e), fun b o u e => im.frz b o u (by rw [gN (frzN e)]; exact e)⟩ fun p hp o e => kp p hp o ?_
    by_cases hO : O p
    · rcases hO with hO | ⟨j, o', e', s⟩
      · exact absurd hO (np p hp)
      · exact absurd s (of p j o' hp e')
    · rw [gN hO]; exact e
def mFor (its : Ro → M (List PyData)) (a : C → Ro → M Ro) (b : Ro → M Res) (ρ : Ro) : M Res := (its ρ).bind fun ds => forL a b ds ρ
theorem rs_for {wi : TI} {g : TG} {tb : TS} {its : Ro → M (List PyData)} {a : C → Ro → M Ro} {b : Ro → M Res} {sl : List Nat} (hi : RI K true wi its) (hg : RG K g a sl) (hb : RS K tb b) : RS K (tFor wi g tb) (mFor its a b) := by
  intro tp He Hq ρ σ H D r h
  refine hi tp He Hq ρ σ H _ r (wp0_mono (fun ds hd => ?_) (wp0_bind.mp h))
  intro J H1 pa g1 t1 f w np of
  obtain ⟨Hq2, q1, r2, w2, _⟩ := (r.go g1 t1).more (of rfl) np w
  exact for_go hg hb r2 f w2 np (wp0_mono (fun _ q => q.mono q1) hd)
/-- over a name; a list of one's own is no longer changed from there on -/
def mForV (i : Nat) (a : C → Ro → M Ro) (b : Ro → M Res) (ρ : Ro) : M Res := match ρ[i]? with
  | some (some (.own (.lst ds))) => forL a b ds (ρ.set i (some (.bor (.lst ds))))
  | some (some c) => (itVs c).bind fun ds => forL a b ds ρ
  | _ => .fail
theorem Rel.forget {i : Nat} (r : Rel tp K He Hq H σ ρ) : Rel tp K He Hq H σ (ρ.set i none) := by
  have old : ∀ {j : Nat} {c : C}, (ρ.set i none)[j]? = some (some c) → i ≠ j ∧ ρ[j]? = some (some c) := fun {j c} e => by
    by_cases hij : i = j
    · subst hij
      have hl : i < ρ.length := by
        have := (List.getElem?_eq_some_iff.mp e).1
        rwa [List.length_set] at this
      rw [List.getElem?_set_self hl] at e
      cases e
    · rw [List.getElem?_set_ne hij] at e
      exact ⟨hij, e⟩
  exact ⟨by rw [List.length_set]; exact r.len, fun j c e => r.at_ j c (old e).2, fun j k a o o' e1 e2 => r.dist j k a o o' (old e1).2 (old e2).2, r.sub, r.gr, r.tok, r.he⟩
theorem Rel.forgot {i : Nat} {j : Nat} {c : C} (e : (ρ.set i none)[j]? = some (some c)) : i ≠ j ∧ ρ[j]? = some (some c) := by
  by_cases hij : i = j
  · subst hij
    have hl : i < ρ.length := by
      have := (List.getElem?_eq_some_iff.mp e).1
      rwa [List.length_set] at this
    rw [List.getElem?_set_self hl] at e
    cases e
  · rw [List.getElem?_set_ne hij] at e
    exact ⟨hij, e⟩
theorem Rel.freeze {i : Nat} {ds : List PyData} (r : Rel tp K He Hq H σ ρ) (e : ρ[i]? = some (some (.own (.lst ds)))) : ∃ Hq2 a, GrT tp Hq Hq2 ∧ Rel tp K He Hq2 H σ (ρ.set i (some (.bor (.lst ds)))) ∧ σ[i]? = some (some (.ref a)) ∧ Wk K Hq2 (Itl K a) [a] ds ∧ tp.map (·.1) ≠ some a ∧ lfAll ds = true ∧ ∃ vs, SqL K H a vs := by
  obtain ⟨v, h1, a, e2, f, n, vs, q1, q2, q3⟩ := r.at_ i _ e
  subst e2
  have nown : ∀ (j : Nat) (o : PO), (ρ.set i none)[j]? = some (some (.own o)) → σ[j]? ≠ some (some (.ref a)) := fun j o ej hs => by
    obtain ⟨n1, e'⟩ := Rel.forgot ej
    exact n1 (r.dist i j a _ _ e e' h1 hs)
  have w : Wk K H (Itl K a) [a] ds := wk_list (.inl q1) q2 q3
  have np : ∀ p ∈ [a], tp.map (·.1) ≠ some p := fun p m => by
    have : p = a := by simpa using m
    subst this
    exact n.ne
  obtain ⟨Hq2, g2, r2, w2, im, eqs⟩ := (r.forget (i := i)).more (pa := [a]) (fun p j o m ej => by
    have : p = a := by simpa using m
    subst this
    exact nown j o ej) np w
  have ea : Hq2 a = some (.lst vs) := (eqs a n.ne nown).trans q1
  have r3 := r2.put (i := i) (v := .ref a) (c := .bor (.lst ds)) ⟨a, rfl, vs, ⟨.inl ea, n.ne⟩, q2.imlf im ds _ q3, q3⟩ (fun _ _ z => by cases z)
  rw [List.set_set] at r3
  have es : σ.set i (some (.ref a)) = σ := by
    refine List.ext_getElem? fun j => ?_
    by_cases hij : i = j
    · subst hij
      rw [List.getElem?_set_self (List.getElem?_eq_some_iff.mp h1).1, h1]
    · rw [List.getElem?_set_ne hij]
  rw [es] at r3
  exact ⟨Hq2, a, g2, r3, h1, w2, n.ne, q3, vs, SqL.of q1⟩
theorem rs_forV {i : Nat} {g : TG} {tb : TS} {a : C → Ro → M Ro} {b : Ro → M Res} {sl : List Nat} (hg : RG K g a sl) (hb : RS K tb b) : RS K (tFor (iSeq K (tVar i)) g tb) (mForV i a b) := by
  intro tp He Hq ρ σ H D r h
  unfold mForV at h
  split at h
  · rename_i ds e
    obtain ⟨Hq2, p, g2, r2, hs, w, np, f, vs, sq⟩ := r.freeze e
    refine ⟨_, hs, .inl ⟨p, rfl, ⟨vs, sq⟩, for_go hg hb r2 f w (fun q m => ?_) (wp0_mono (fun _ q => q.mono g2) h)⟩⟩
    have : q = p := by simpa using m
    subst this
    exact np
  · rename_i c n e
    refine rs_for (ri_var (i := i)) hg hb tp He Hq ρ σ H D r ?_
    unfold mFor gItV
    rw [e]
    exact h
  · exact h.elim
/-! ### while -/
def whlL (gc : Ro → M Bool) (b : Ro → M Res) : Nat → Ro → M Res
  | 0, _ => .fail
  | n + 1, ρ => (gc ρ).bind fun c => if c = true then (b ρ).bind (fun r => match r with
    | .nx ρ' => whlL gc b n ρ'
    | .ct ρ' => whlL gc b n ρ'
    | .bk ρ' => .ret (.nx ρ')
    | .rt c => .ret (.rt c)) else .ret (.nx ρ)
/-- fuel: a bound of the turns and one more, by what the slots hold ahead of the loop -/
def mWhile (fuel : Ro → Nat) (gc : Ro → M Bool) (b : Ro → M Res) (ρ : Ro) : M Res := whlL gc b (fuel ρ) ρ
theorem rs_while {c : TT} {tb : TS} {gc : Ro → M Bool} {b : Ro → M Res} {fuel : Ro → Nat} (hc : RT K c gc) (hb : RS K tb b) : RS K (tWhile c tb) (mWhile fuel gc b) := by
  intro tp He Hq ρ σ H D r h
  refine ⟨fun m σ H => ∃ ρ' Hq', GrT tp Hq Hq' ∧ Rel tp K He Hq' H σ ρ' ∧ wp0 (whlL gc b m ρ') (PostS tp K He Hq' D), ⟨fuel ρ, ρ, Hq, .refl, r, h⟩, ?_⟩
  rintro m σ' H' ⟨ρ', Hq', g', r', h'⟩
  cases m with
  | zero => exact h'.elim
  | succ m =>
    refine hc tp He Hq' ρ' σ' H' _ r' (wp0_mono (fun k hk => ?_) (wp0_bind.mp (show wp0 ((gc ρ').bind _) _ from h')))
    intro H1 g1 t1
    cases k with
    | true =>
      rw [if_pos rfl] at hk ⊢
      refine ⟨fun σ2 H2 => ∃ ρ2 Hq2, GrT tp Hq Hq2 ∧ Rel tp K He Hq2 H2 σ2 ρ2 ∧ wp0 (whlL gc b m ρ2) (PostS tp K He Hq2 D), fun σ2 H2 n => ⟨m, Nat.lt_succ_self m, n⟩, ?_⟩
      refine hb tp He Hq' ρ' σ' H1 _ (r'.go g1 t1) (wp0_mono (fun q hq => ?_) (wp0_bind.mp hk))
      cases q with
      | nx ρ2 => exact fun σ2 H2 Hq2 g2 r2 => ⟨ρ2, Hq2, g'.trans g2, r2, wp0_mono (fun _ hq => hq.mono g2) hq⟩
      | ct ρ2 => exact fun σ2 H2 Hq2 g2 r2 => ⟨ρ2, Hq2, g'.trans g2, r2, wp0_mono (fun _ hq => hq.mono g2) hq⟩
      | bk ρ2 => exact hq
      | rt c => exact hq
    | false =>
      rw [if_neg Bool.false_ne_true] at hk ⊢
      exact hk σ' H1 Hq' .refl (r'.go g1 t1)
end
end Cs

set_option maxRecDepth 100000
set_option maxHeartbeats 4000000
/-! comprehensions, lists that change, defs -/
namespace Cs
open PySem PySem.Spec PyProof.Rows L2
section
variable {tp : Option (Addr × Addr)} {K : PySem.W.Frag} {H H' H'' H0 H1 He : Hp} {Hq : Hp} {σ : L2.St} {ρ : Ro}
/-! ### [e for x in xs if c] -/
def wipeR (ρ : Ro) : List Nat → Ro
  | [] => ρ
  | v :: vs => (wipeR ρ vs).set v none
theorem Rel.set_none {i : Nat} (r : Rel tp K He Hq H σ ρ) : Rel tp K He Hq H (σ.set i none) (ρ.set i none) := by
  refine ⟨by rw [List.length_set, List.length_set]; exact r.len, fun j c e => ?_, fun j k a o o' e1 e2 e3 e4 => ?_, r.sub, r.gr, r.tok, r.he⟩
  · obtain ⟨n, e'⟩ := Rel.forgot e
    obtain ⟨v, h1, h2⟩ := r.at_ j c e'
    exact ⟨v, by rw [List.getElem?_set_ne n]; exact h1, h2⟩
  · obtain ⟨n1, e1'⟩ := Rel.forgot e1
    obtain ⟨n2, e2'⟩ := Rel.forgot e2
    rw [List.getElem?_set_ne n1] at e3
    rw [List.getElem?_set_ne n2] at e4
    exact r.dist j k a o o' e1' e2' e3 e4
theorem Rel.wipe (r : Rel tp K He Hq H σ ρ) : ∀ vs : List Nat, Rel tp K He Hq H (L2.wipe σ vs) (wipeR ρ vs)
  | [] => r
  | v :: vs => by
    unfold L2.wipe wipeR
    exact (Rel.wipe r vs).set_none
theorem wipe_in {σ : L2.St} {i : Nat} : ∀ {vs : List Nat}, i ∈ vs → (L2.wipe σ vs)[i]? = if i < σ.length then some none else none
  | [], h => by simp at h
  | v :: vs, h => by
    unfold L2.wipe
    by_cases hv : v = i
    · subst hv
      by_cases hl : v < σ.length
      · rw [if_pos hl, List.getElem?_set_self (by rw [wipe_length]; exact hl)]
      · rw [if_neg hl]
        exact List.getElem?_eq_none_iff.mpr (by rw [List.length_set, wipe_length]; omega)
    · rw [List.getElem?_set_ne hv]
      exact wipe_in (by rcases List.mem_cons.mp h with z | z; exact absurd z.symm hv; exact z)
theorem wipe_off {σ σ' : L2.St} {sl vs : List Nat} (o : Off sl (L2.wipe σ vs) σ') (h : ∀ j ∈ sl, j ∈ vs) : L2.wipe σ' vs = L2.wipe σ vs := by
  have hl : σ'.length = σ.length := o.1.trans (wipe_length σ vs)
  refine List.ext_getElem? fun i => ?_
  by_cases hi : i ∈ vs
  · rw [wipe_in hi, wipe_in hi, hl]
  · rw [wipe_out hi, o.2 i (fun z => hi (h i z))]
def lcL (a : C → Ro → M Ro) (c : Ro → M Bool) (e : Ro → M C) : List PyData → Ro → List PyData → M C
  | [], _, acc => .ret (.own (.lst acc))
  | d :: ds, ρ, acc => (a (.val d) ρ).bind fun ρ1 => (c ρ1).bind fun b => if b = true then (e ρ1).bind (fun x => match x with
    | .val y => lcL a c e ds ρ (acc ++ [y])
    | _ => .fail) else lcL a c e ds ρ acc
def gLc (its : Ro → M (List PyData)) (a : C → Ro → M Ro) (c : Ro → M Bool) (e : Ro → M C) (vs : List Nat) (ρ : Ro) : M C := (its ρ).bind fun ds => if lenOk ds.length = true then lcL a c e ds (wipeR ρ vs) [] else .fail
def gYes (_ : Ro) : M Bool := .ret true
theorem rt_yes : RT K tYes gYes := fun tp He Hq ρ σ H Q r h => h H .refl r.tok
theorem re_lc {wi : TI} {g : TG} {tt : TT} {te : TE} {its : Ro → M (List PyData)} {a : C → Ro → M Ro} {c : Ro → M Bool} {e : Ro → M C} {sl vs : List Nat} {s : Bool} (hi : RI K s wi its) (hg : RG K g a sl) (hc : RT K tt c) (he : RE K te e)
    (hs : ∀ j ∈ sl, j ∈ vs) : RE K (tLc wi g tt te vs) (gLc its a c e vs) := by
  intro tp He Hq ρ σ H Q r h
  refine hi tp He Hq ρ σ H _ r (wp0_mono (fun ds hd => ?_) (wp0_bind.mp h))
  intro J H1 pa g1 t1 f w np _ D hD
  by_cases hz : lenOk ds.length = true
  case neg =>
    rw [if_neg hz] at hd
    exact hd.elim
  rw [if_pos hz] at hd
  have hz' : ds.length ≤ sizeLine := lenOk_le hz
  have r1 := r.go g1 t1
  have tD : TNe tp D := t1.tne hD
  have upG : ∀ {H2 : Hp} {o : HO}, GrT tp H1 H2 → GrT tp H1 (upd H2 D o) := fun {H2 o} g b u e n => by
    have hne : b ≠ D := fun z => by subst z; rw [hD] at e; cases e
    rw [upd_ne hne]
    exact g b u e n
  have upT : ∀ {H2 : Hp} {o : HO}, TOk tp H2 → TOk tp (upd H2 D o) := fun {H2 o} t a l e => (t a l e).upd (tD a l e).1 (tD a l e).2
  refine ⟨fun i m H' => m = ds.length - i ∧ i ≤ ds.length ∧ ∃ acc vsa, H' D = some (.lst vsa) ∧ VlAll K H' vsa acc ∧ lfAll acc = true ∧ acc.length ≤ i ∧ GrT tp H1 H' ∧ TOk tp H' ∧ wp0 (lcL a c e (ds.drop i) (wipeR ρ vs) acc) (Post tp K H Q),
    ⟨ds.length, rfl, Nat.zero_le _, [], [], upd_same, .nil, rfl, Nat.le_refl _, upG .refl, upT t1, hd⟩, ?_⟩
  rintro i m H' ⟨rfl, hi, acc, vsa, eD, hda, fa, hl, g', t', h'⟩
  obtain ⟨st, go⟩ := w H' (g'.im t1) (fun p hp o e => g' p o e (np p hp))
  by_cases hlt : i < ds.length
  · obtain ⟨d, hd'⟩ : ∃ d, ds[i]? = some d := ⟨ds[i], List.getElem?_eq_getElem hlt⟩
    obtain ⟨go1, yl⟩ := go i d hd'
    have ed : ds.drop i = d :: ds.drop (i + 1) := by
      rw [List.drop_eq_getElem_cons hlt]
      have : ds[i] = d := by rw [List.getElem?_eq_getElem hlt] at hd'; exact Option.some.inj hd'
      rw [this]
    rw [ed] at h'
    refine .inr ⟨go1, fun H2 => ∃ acc vsa, H2 D = some (.lst vsa) ∧ VlAll K H2 vsa acc ∧ lfAll acc = true ∧ acc.length ≤ i + 1 ∧ GrT tp H1 H2 ∧ TOk tp H2 ∧ wp0 (lcL a c e (ds.drop (i + 1)) (wipeR ρ vs) acc) (Post tp K H Q),
      fun H2 ⟨acc, vsa, q⟩ => ⟨ds.length - (i + 1), by omega, rfl, hlt, acc, vsa, q⟩, fun x H2 y => ?_⟩
    obtain ⟨sm, dp⟩ := yl x H2 y
    have rw' := ((r1.go g' t').wipe vs)
    refine hg tp He Hq _ _ H' H2 x (.val d) _ rw' (.of sm) (t'.same sm) ⟨dp, lfAll_get f hd'⟩ (wp0_mono (fun ρ1 h1 => ?_) (wp0_bind.mp (show wp0 ((a (.val d) (wipeR ρ vs)).bind _) _ from h')))
    intro σ2 off r2
    refine ⟨wipe_off off hs, ?_⟩
    refine hc tp He Hq ρ1 σ2 H2 _ r2 (wp0_mono (fun b hb => ?_) (wp0_bind.mp h1))
    intro H3 g3 t3
    have g13 : GrT tp H1 H3 := (g'.trans (.of sm)).trans g3
    have eD3 : H3 D = some (.lst vsa) := g3 D _ (sm D _ eD) tD.ne
    have im3 : Im H' H3 := (Im.same sm).trans (g3.im (t'.same sm))
    cases b with
    | true =>
      rw [if_pos rfl] at hb ⊢
      refine he tp He Hq ρ1 σ2 H3 _ (r2.go g3 t3) (wp0_mono (fun z hz => ?_) (wp0_bind.mp hb))
      intro v H4 g4 t4 rc
      have eD4 : H4 D = some (.lst vsa) := g4 D _ eD3 tD.ne
      have im4 : Im H' H4 := im3.trans (g4.im t3)
      cases z with
      | val y =>
        have hd4 := hda.imlf im4 acc _ fa
        refine ⟨vsa, eD4, ?_, acc ++ [y], vsa ++ [v], upd_same, ?_, lfAll_app fa (rfl), by rw [List.length_append]; simp; omega, upG (g13.trans g4), upT t4, hz⟩
        · rw [hd4.len]; omega
        · exact (hd4.app (.cons rc.1 .nil)).imlf (Im.set eD4) _ _ (lfAll_app fa (rfl))
      | own o => exact hz.elim
      | bor o => exact hz.elim
      | tape => exact hz.elim
    | false =>
      rw [if_neg Bool.false_ne_true] at hb ⊢
      exact ⟨acc, vsa, eD3, hda.imlf im3 acc _ fa, fa, by omega, g13, t3, hb⟩
  · have e1 : i = ds.length := by omega
    subst e1
    rw [List.drop_length] at h'
    exact .inl ⟨st, (show Post tp K H Q (.own (.lst acc)) from h') _ H' (g1.trans g') t' ⟨D, rfl, g1.free t1 hD, tD, vsa, eD, hda, fa⟩⟩
/-! ### a list of one's own, changed -/
def mApp (i : Nat) (g : Ro → M C) (ρ : Ro) : M Res := match ρ[i]? with
  | some (some (.own (.lst ds))) => (g ρ).bind fun c => (match c with
    | .val d => if lenOk (ds.length + 1) = true then .ret (.nx (setOwn i (ds ++ [d]) ρ)) else .fail
    | _ => .fail)
  | _ => .fail
theorem rs_app {i : Nat} {te : TE} {g : Ro → M C} (h1 : RE K te g) : RS K (tDrop (tBM K "list" rAppend (tVar i) (tCons te tNil))) (mApp i g) := by
  intro tp He Hq ρ σ H D r h
  unfold mApp at h
  split at h
  · rename_i ds e
    obtain ⟨a, vs, hs, hl, hd, hf, _⟩ := r.own (vs' := []) (ds' := []) e
    refine ⟨_, hs, .inl ⟨rfl, vs, SqL.of hl⟩, h1 tp He Hq ρ σ H _ r (wp0_mono (fun c hc => ?_) (wp0_bind.mp h))⟩
    intro x H1 g1 t1 rx
    split at hc
    · rename_i d
      obtain ⟨a', vs', hs', hl', hd', hf', up⟩ := (r.go g1 t1).own (vs' := []) (ds' := []) e
      split at hc
      · rename_i l
        refine ⟨a', vs', x, ?_, rfl, hl', by rw [hd'.len]; have := lenOk_le l; omega, ?_⟩
        · rw [hs] at hs'; cases hs'; rfl
        · exact hc σ _ Hq .refl (up _ _ (hd'.app (.cons rx.1 .nil)) (lfAll_app hf' (rfl)))
      · exact hc.elim
    · exact hc.elim
  · exact h.elim
/-- xs[i] = e -/
def mSetAt (i : Nat) (g gi : Ro → M C) (ρ : Ro) : M Res := match ρ[i]? with
  | some (some (.own (.lst ds))) => (g ρ).bind fun c => (gi ρ).bind fun k => (match c, k with
    | .val d, .val (.int j) => (match ixN ds.length j with
      | some n => .ret (.nx (setOwn i (ds.set n d) ρ))
      | none => .fail)
    | _, _ => .fail)
  | _ => .fail
theorem rs_setAt {i : Nat} {te ti : TE} {g gi : Ro → M C} (h1 : RE K te g) (h2 : RE K ti gi) : RS K (tAsg te (gSub (tVar i) ti rSetL)) (mSetAt i g gi) := by
  intro tp He Hq ρ σ H D r h
  unfold mSetAt at h
  split at h
  · rename_i ds e
    refine h1 tp He Hq ρ σ H _ r (wp0_mono (fun c hc => ?_) (wp0_bind.mp h))
    intro x H1 g1 t1 rx
    have r1 := r.go g1 t1
    obtain ⟨a, vs, hs, hl, hd, hf, _⟩ := r1.own (vs' := []) (ds' := []) e
    refine ⟨_, hs, h2 tp He Hq ρ σ H1 _ r1 (wp0_mono (fun k hk => ?_) (wp0_bind.mp hc))⟩
    intro y H2 g2 t2 ry
    split at hk
    · rename_i d j
      cases ry.int
      obtain ⟨a', vs', hs', hl', hd', hf', up⟩ := (r1.go g2 t2).own (vs' := []) (ds' := []) e
      have rx2 := rx.gr g2 t1
      split at hk
      · rename_i n en
        refine ⟨a', vs', j, n, ?_, rfl, hl', by rw [hd'.len]; exact en, ?_⟩
        · rw [hs] at hs'; cases hs'; rfl
        · exact hk σ _ Hq .refl (up _ _ (hd'.set n rx2.1) (lfAll_set n hf' rx2.2))
      · exact hk.elim
    · exact hk.elim
  · exact h.elim
/-- xs.insert(i, e), dropped -/
def rIns : V → List V → Hp → VK → Prop := fun x vs H Q => ∃ (l : Addr) (xs : List V) (i : Int) (y : V), x = .ref l ∧ vs = [.int i, y] ∧ H l = some (.lst xs) ∧ xs.length < sizeLine ∧ 0 ≤ i ∧ i < 2 ^ 63 ∧
    Q .non (upd H l (.lst (xs.take i.toNat ++ [y] ++ xs.drop i.toNat)))
theorem mt_ins {X : Cx} : MtR X "list.insert" rIns := mt_insert
def mIns (i : Nat) (gs : Ro → M (List C)) (ρ : Ro) : M Res := match ρ[i]? with
  | some (some (.own (.lst ds))) => (gs ρ).bind fun cs => (match cs with
    | [.val (.int j), .val d] => if (decide (0 ≤ j) && (decide (j < 9223372036854775808) && lenOk (ds.length + 1))) = true then .ret (.nx (setOwn i (ds.take j.toNat ++ [d] ++ ds.drop j.toNat) ρ)) else .fail
    | _ => .fail)
  | _ => .fail
theorem rs_ins {i : Nat} {ta : TA} {gs : Ro → M (List C)} (h1 : RA K ta gs) : RS K (tDrop (tBM K "list" rIns (tVar i) ta)) (mIns i gs) := by
  intro tp He Hq ρ σ H D r h
  unfold mIns at h
  split at h
  · rename_i ds e
    obtain ⟨a, vs, hs, hl, hd, hf, _⟩ := r.own (vs' := []) (ds' := []) e
    refine ⟨_, hs, .inl ⟨rfl, vs, SqL.of hl⟩, h1 tp He Hq ρ σ H _ r (wp0_mono (fun cs hc => ?_) (wp0_bind.mp h))⟩
    intro xs H1 g1 t1 rx
    split at hc
    · rename_i j d
      obtain ⟨v, y, rfl, q1, q2⟩ := rx.two
      cases q1.int
      obtain ⟨a', vs', hs', hl', hd', hf', up⟩ := (r.go g1 t1).own (vs' := []) (ds' := []) e
      split at hc
      · rename_i l
        simp only [Bool.and_eq_true, decide_eq_true_eq] at l
        refine ⟨a', vs', j, y, ?_, rfl, hl', by rw [hd'.len]; have := lenOk_le l.2.2; omega, l.1, l.2.1, ?_⟩
        · rw [hs] at hs'; cases hs'; rfl
        · exact hc σ _ Hq .refl (up _ _ (((hd'.take _).app (.cons q2.1 .nil)).app (hd'.drop _)) (lfAll_app (lfAll_app (lfAll_take _ hf') (rfl)) (lfAll_drop _ hf')))
      · exact hc.elim
    · exact hc.elim
  · exact h.elim
/-- xs.pop(i), dropped -/
def mPop (i : Nat) (g : Ro → M C) (ρ : Ro) : M Res := match ρ[i]? with
  | some (some (.own (.lst ds))) => (g ρ).bind fun c => (match c with
    | .val (.int j) => if (decide (-9223372036854775808 ≤ j) && decide (j < 9223372036854775808)) = true then (match seqIndex? j ds.length with
      | some k => if k < ds.length then .ret (.nx (setOwn i (ds.eraseIdx k) ρ)) else .fail
      | none => .fail) else .fail
    | _ => .fail)
  | _ => .fail
theorem dp_erase : ∀ {vs : List V} {ds : List PyData} (k : Nat), VlAll K H vs ds → VlAll K H (vs.eraseIdx k) (ds.eraseIdx k)
  | _, _, _, .nil => .nil
  | _, _, 0, .cons h1 h2 => h2
  | _, _, k + 1, .cons h1 h2 => .cons h1 (dp_erase k h2)
theorem lf_erase {ds : List PyData} (k : Nat) (f : lfAll ds = true) : lfAll (ds.eraseIdx k) = true := lfAll_iff.mpr fun d m => lfAll_iff.mp f d (List.mem_of_mem_eraseIdx m)
theorem rs_pop {i : Nat} {te : TE} {g : Ro → M C} (h1 : RE K te g) : RS K (tDrop (tBM K "list" rPopAt (tVar i) (tCons te tNil))) (mPop i g) := by
  intro tp He Hq ρ σ H D r h
  unfold mPop at h
  split at h
  · rename_i ds e
    obtain ⟨a, vs, hs, hl, hd, hf, _⟩ := r.own (vs' := []) (ds' := []) e
    refine ⟨_, hs, .inl ⟨rfl, vs, SqL.of hl⟩, h1 tp He Hq ρ σ H _ r (wp0_mono (fun c hc => ?_) (wp0_bind.mp h))⟩
    intro x H1 g1 t1 rx
    split at hc
    · rename_i j
      cases rx.int
      obtain ⟨a', vs', hs', hl', hd', hf', up⟩ := (r.go g1 t1).own (vs' := []) (ds' := []) e
      split at hc
      · rename_i l
        simp only [Bool.and_eq_true, decide_eq_true_eq] at l
        split at hc
        · rename_i k ek
          split at hc
          · rename_i lk
            obtain ⟨y, hy⟩ : ∃ y, vs'[k]? = some y := ⟨vs'[k]'(by rw [hd'.len]; exact lk), List.getElem?_eq_getElem _⟩
            refine ⟨a', vs', j, k, y, ?_, rfl, hl', l.1, l.2, by rw [hd'.len]; exact ek, hy, ?_⟩
            · rw [hs] at hs'; cases hs'; rfl
            · exact hc σ _ Hq .refl (up _ _ (dp_erase k hd') (lf_erase k hf'))
          · exact hc.elim
        · exact hc.elim
      · exact hc.elim
    · exact hc.elim
  · exact h.elim
/-! ### defs -/
def spU (K : PySem.W.Frag) (f : List C → M C) : Sp := fun vs H Q _ => ∃ tp cs, TOk tp H ∧ RCs tp K H H vs cs ∧ (∀ c ∈ cs, ∀ o, c ≠ .own o) ∧ wp0 (f cs) (Post tp K H Q)
theorem RCs.lend : ∀ {vs : List V} {cs : List C}, RCs tp K H0 H vs cs → RCs tp K H1 H vs (cs.map C.lend)
  | [], [], _ => trivial
  | v :: vs, c :: cs, h => ⟨h.1.lend, RCs.lend h.2⟩
  | [], _ :: _, h => h.elim
  | _ :: _, [], h => h.elim
theorem RCs.len : ∀ {vs : List V} {cs : List C}, RCs tp K H0 H vs cs → vs.length = cs.length
  | [], [], _ => rfl
  | v :: vs, c :: cs, h => by rw [List.length_cons, List.length_cons, RCs.len h.2]
  | [], _ :: _, h => h.elim
  | _ :: _, [], h => h.elim
theorem RCs.get : ∀ {vs : List V} {cs : List C} {i : Nat} {c : C}, RCs tp K H0 H vs cs → cs[i]? = some c → ∃ v, vs[i]? = some v ∧ RC tp K H0 H v c
  | [], [], _, _, _, e => by simp at e
  | v :: vs, c :: cs, 0, _, h, e => by simp at e; subst e; exact ⟨v, rfl, h.1⟩
  | v :: vs, c :: cs, i + 1, _, h, e => by
    obtain ⟨u, h1, h2⟩ := RCs.get (i := i) h.2 (by simpa using e)
    exact ⟨u, by simpa using h1, h2⟩
  | [], _ :: _, _, _, h, _ => h.elim
  | _ :: _, [], _, _, h, _ => h.elim
def gFn (f : List C → M C) (gs : Ro → M (List C)) (ρ : Ro) : M C := (gs ρ).bind fun cs => f (cs.map C.lend)
theorem re_fn {f : List C → M C} {t : TA} {gs : Ro → M (List C)} (h1 : RA K t gs) : RE K (tFn (spU K f) t) (gFn f gs) := by
  intro tp He Hq ρ σ H Q r h
  refine h1 tp He Hq ρ σ H _ r (wp0_mono (fun cs hc => ?_) (wp0_bind.mp h))
  intro vs H1 g1 t1 rx
  refine ⟨tp, cs.map C.lend, t1, rx.lend, fun c m o z => ?_, wp0_mono (fun c hc => hc.after g1 t1) hc⟩
  obtain ⟨c', _, e⟩ := List.mem_map.mp m
  subst z
  cases c' <;> cases e
/-- a drawn number -/
def drawC : List C → M C
  | [.tape, .val (.int m)] => if decide (m ≤ 1000000000) = true then .draw m fun v => .ret (.val (.int v)) else .fail
  | _ => .fail
theorem re_draw {t : TA} {gs : Ro → M (List C)} (h1 : RA K t gs) : RE K (tFn (sp_law_draw K) t) (gCall drawC gs) := by
  intro tp He Hq ρ σ H Q r h
  refine h1 tp He Hq ρ σ H _ r (wp0_mono (fun cs hc => ?_) (wp0_bind.mp h))
  intro vs H1 g1 t1 rx
  unfold drawC at hc
  split at hc
  · rename_i m
    obtain ⟨v, w, rfl, q1, q2⟩ := rx.two
    cases q2.int
    obtain ⟨t, l, rfl, rfl⟩ := q1
    split at hc
    · rename_i lm
      refine ⟨t, l, m, rfl, t1 t l rfl, of_decide_eq_true lm, fun v H' T al h0 h2 => hc v h0 h2 _ H' (g1.trans fun b o e n => ?_) (fun t' l' e => by cases e; exact T) ⟨.int v, rfl⟩⟩
      rw [al b (fun z => n (by simp [z]))]
      exact e
    · exact hc.elim
  · exact hc.elim
def Res.out : Res → M C
  | .rt c => .ret c
  | .nx _ => .ret (.val .none)
  | _ => .fail
/-- a def: n parameters, k further names -/
def fnU (n k : Nat) (m : Ro → M Res) (cs : List C) : M C := if cs.length = n then (m (cs.map some ++ List.replicate k none)).bind Res.out else .fail
theorem start_rel {vs : List V} {cs : List C} {N : List Str} {k : Nat} (t : TOk tp H) (rc : RCs tp K H H vs cs) (no : ∀ c ∈ cs, ∀ o, c ≠ .own o) (hN : N.length - vs.length = k) :
    Rel tp K H H H (L2.start N vs) (cs.map some ++ List.replicate k none) := by
  have hl := rc.len
  have at1 : ∀ {i : Nat} {c : C}, (cs.map some ++ List.replicate k none)[i]? = some (some c) → cs[i]? = some c := fun {i c} e => by
    by_cases hi : i < cs.length
    · rw [List.getElem?_append_left (by simpa using hi), List.getElem?_map] at e
      cases q : cs[i]? with
      | none => rw [q] at e; cases e
      | some c' => rw [q] at e; cases e; rfl
    · rw [List.getElem?_append_right (by simpa using hi), List.getElem?_replicate] at e
      split at e <;> cases e
  refine ⟨?_, fun i c e => ?_, fun i j a o o' e1 => ?_, .refl, .refl, t, fun a l e => ?_⟩
  · unfold L2.start
    simp only [List.length_append, List.length_map, List.length_replicate]
    omega
  · obtain ⟨v, h1, h2⟩ := rc.get (at1 e)
    refine ⟨v, ?_, ?_⟩
    · unfold L2.start
      rw [List.getElem?_append_left (by simpa using (List.getElem?_eq_some_iff.mp h1).1), List.getElem?_map, h1]
      rfl
    · cases c with
      | val d => exact h2
      | own o => exact absurd rfl (no _ (List.mem_of_getElem? (at1 e)) o)
      | bor o => exact h2
      | tape => exact h2
  · exact absurd rfl (no _ (List.mem_of_getElem? (at1 e1)) o)
  · obtain ⟨xs, h⟩ := (t a l e).list
    exact .inr ⟨xs, h⟩
theorem Df.uni {P : Program} {w : World} {mg : Str → Option Value} {base : Heap} {x : Str} {st : Stmt} {N ps : List Str} {k n : Nat} {m : Ro → M Res} (A : At K mg x st)
    (bd : ∀ (kV doc pm : Value) (an : Option Addr) (cdv ct : Value) (us : List Value), us.length = ps.length → bindArgs (PySem.W.fnOf x x (defArgs st) (defBody st) (defScope st) .none kV doc pm an cdv ct) ⟨us, []⟩ = pure (ps.zip us))
    (S : FnScope N ps (defScope st)) (hn : N.length - ps.length = n)
    (body : ∀ (cdv : Value) (A : Around) (out : List Env) (f : Addr) (s : Shared) (H : Hp) (E : XK), Room k (A.deeper (envOfC x (defScope st) s.heap.objs.size f cdv)) → A.guards = some [] →
      ∃ t, PSs (cxG P w K mg base N x (defScope st) f cdv A out s H E) (defBody st) t ∧ RS K t m) :
    Df P w K mg base (k + 1) x ps (spU K (fnU ps.length n m)) := by
  refine Df.of A bd S (fun vs H Q E h => ?_) (fun cdv A out f s H vs Q E hr hg h => ?_)
  · obtain ⟨tp, cs, t, rc, no, h⟩ := h
    unfold fnU at h
    split at h
    · rename_i e
      rw [rc.len, e]
    · exact h.elim
  · obtain ⟨tp, cs, t, rc, no, h⟩ := h
    obtain ⟨t', h1, h2⟩ := body cdv A out f s H E hr hg
    refine ⟨t', h1, ?_⟩
    unfold fnU at h
    split at h
    · rename_i e
      refine h2 tp H H _ _ H _ (start_rel t rc no (by rw [rc.len, e]; exact hn)) (wp0_mono (fun q hq => ?_) (wp0_bind.mp h))
      cases q with
      | nx ρ' => exact fun σ' H' Hq' g' r' => hq .non H' (r'.sub.trans r'.gr) r'.tok ⟨.non, rfl⟩
      | rt c => exact hq
      | bk _ => exact hq.elim
      | ct _ => exact hq.elim
    · exact h.elim
/-- the law's own def: the tape is made, then the rest runs from it -/
theorem law_rel {a t l : Addr} {ns : List Int} {k : Nat} (T : TapeAt H t l) (g : Same H0 H) (n : H0 t = none) : Rel (some (t, l)) K H0 H0 H ([some (.ref a), some (.ref t)] ++ List.replicate k none) ([none, some .tape] ++ List.replicate k none) := by
  have at1 : ∀ {i : Nat} {c : C}, (([none, some .tape] : Ro) ++ List.replicate k none)[i]? = some (some c) → i = 1 ∧ c = .tape := fun {i c} e => by
    match i, e with
    | 0, e => cases e
    | 1, e => cases e; exact ⟨rfl, rfl⟩
    | i + 2, e =>
      rw [List.getElem?_append_right (by simp), List.getElem?_replicate] at e
      split at e <;> cases e
  refine ⟨by simp, fun i c e => ?_, fun i j b o o' e1 => ?_, .refl, .of g, fun t' l' e => by cases e; exact T, fun t' l' e => by cases e; exact .inl n⟩
  · obtain ⟨rfl, rfl⟩ := at1 e
    exact ⟨.ref t, rfl, t, l, rfl, rfl⟩
  · obtain ⟨_, z⟩ := at1 e1
    cases z
theorem law_go {t : TS} {m : Ro → M Res} {H : Hp} {a : Addr} {k : Nat} {D : Ends} {ns : List Int} (h : RS K t m) (hS : SqL K H a (ns.map V.int)) (hl : ns.length ≤ 63)
    (pure_ : wp0 (m ([none, some .tape] ++ List.replicate k none)) fun r => r = .rt (.val (.bool true))) (q : ∀ H', D.rt (.bl true) H') :
    tSeq (tAsg (tFn (sp_law_tape K) (tCons (tVar 0) tNil)) (gName 1)) t D ([some (.ref a), none] ++ List.replicate k none) H := by
  refine ⟨_, rfl, a, ns, rfl, hS, hl, fun tt l H1 sm T nt nl => ?_⟩
  refine h (some (tt, l)) H H _ _ H1 D (law_rel (ns := ns) T sm nt) (wp0_mono (fun r e => ?_) pure_)
  subst e
  intro v H' _ _ rc
  cases rc.bl
  exact q H'
end
end Cs
namespace Cs
open PySem PySem.Spec PyProof.Rows L2
theorem u65 {k : Nat} {A : Around} (r : Room k A) : A.units + 65 < cLine := by have := r.un; omega
end Cs

set_option maxRecDepth 100000
set_option maxHeartbeats 4000000
/-! isinstance, is of bools, list(range ..), reversed -/
namespace Cs
open PySem PySem.Spec PyProof.Rows L2
section
variable {tp : Option (Addr × Addr)} {K : PySem.W.Frag} {H H' H'' H0 H1 He : Hp} {Hq : Hp} {σ : L2.St} {ρ : Ro}
theorem isiK (K : PySem.W.Frag) {X : Cx} (h : X.K = K := by rfl) : CallR X (.builtin "isinstance") (rIsi K) := h ▸ call_isi
def tyD : PyData → Option String
  | .none => some "NoneType"
  | .bool _ => some "bool"
  | .int _ => some "int"
  | .str _ => some "str"
  | _ => none
def isiT (T : String) : Option String → M C
  | some s => (match kitB s T with
    | some b => .ret (.val (.bool b))
    | none => .fail)
  | none => .fail
def oIsi (T : String) : C → M C
  | .val d => isiT T (tyD d)
  | _ => .fail
theorem kit_bool_int : kitB "bool" "int" = some true := by decide +kernel
theorem kit_int_int : kitB "int" "int" = some true := by decide +kernel
theorem kit_int_bool : kitB "int" "bool" = some false := by decide +kernel
theorem kit_bool_bool : kitB "bool" "bool" = some true := by decide +kernel
theorem kit_none_int : kitB "NoneType" "int" = some false := by decide +kernel
theorem kit_str_str : kitB "str" "str" = some true := by decide +kernel
theorem kit_none_bool : kitB "NoneType" "bool" = some false := by decide +kernel
theorem re_isi {T : String} {ta : TE} {g : Ro → M C} (h1 : RE K ta g) : RE K (tCB (rIsi K) (tCons ta (tCons (tC (.ty T)) tNil))) (gUn (oIsi T) g) := by
  intro tp He Hq ρ σ H Q r h
  refine h1 tp He Hq ρ σ H _ r (wp0_mono (fun c hc => ?_) (wp0_bind.mp h))
  intro x H1 g1 t1 rx
  cases c with
  | val d =>
    have key : ∀ {s : String}, TyOf K H1 x (.type s) → wp0 (isiT T (some s)) (Post tp K H Q) → rIsi K [x, .ty T] H1 Q := fun {s} ty h => by
      unfold isiT at h
      dsimp only at h
      split at h
      · rename_i b e
        exact ⟨x, .ty T, .type s, .type T, b, rfl, .ty T, .base ty, kit_ty e, Post.bl h g1 t1⟩
      · exact h.elim
    obtain ⟨hd, _⟩ := rx
    cases hd with
    | non => exact key .non hc
    | bl b => exact key (.bl b) hc
    | int i => exact key (.int i) hc
    | str s => exact key (.str s) hc
    | lst _ _ => exact hc.elim
    | tup _ _ => exact hc.elim
  | own o => exact hc.elim
  | bor o => exact hc.elim
  | tape => exact hc.elim
/-! is -/
def rIsU (n : Bool) : R2 := fun x y H Q => (y = .non ∧ Q (.bl (n ^^ decide (x = .non))) H) ∨ ∃ a b, x = .bl a ∧ y = .bl b ∧ Q (.bl (n ^^ decide (a = b))) H
theorem opIs {X : Cx} : OpR X (compareOp .Is) (rIsU false) := by
  intro pins s σ H x y v u Q I rx ry h
  rcases h with ⟨e, q⟩ | ⟨a, b, e1, e2, q⟩
  · rw [Bool.false_xor] at q
    exact op_isN pins s σ H x y v u Q I rx ry ⟨e, q⟩
  · rw [Bool.false_xor] at q
    exact op_is_bl pins s σ H x y v u Q I rx ry ⟨a, b, e1, e2, q⟩
theorem opIsNot {X : Cx} : OpR X (compareOp .IsNot) (rIsU true) := by
  intro pins s σ H x y v u Q I rx ry h
  rcases h with ⟨e, q⟩ | ⟨a, b, e1, e2, q⟩
  · rw [Bool.true_xor] at q
    exact op_notN pins s σ H x y v u Q I rx ry ⟨e, q⟩
  · rw [Bool.true_xor] at q
    exact op_isnot_bl pins s σ H x y v u Q I rx ry ⟨a, b, e1, e2, q⟩
def oIsX (n : Bool) : C → C → M C
  | a, .val .none => .ret (.val (.bool (n ^^ a.isN)))
  | .val (.bool a), .val (.bool b) => .ret (.val (.bool (n ^^ decide (a = b))))
  | _, _ => .fail
theorem os_isX {n : Bool} : OpS K (rIsU n) (oIsX n) := by
  intro tp H0 H x y cx cy Q g t rx ry h
  unfold oIsX at h
  split at h
  · cases ry.non
    exact .inl ⟨rfl, by rw [rx.isN]; exact Post.bl h g t⟩
  · rename_i a b
    cases rx.bl; cases ry.bl
    exact .inr ⟨a, b, rfl, rfl, Post.bl h g t⟩
  · exact h.elim
/-! list(range(..)), tuple(range(..)) -/
def RR (K : PySem.W.Frag) (t : L2.St → Hp → (Int → Int → Hp → Prop) → Prop) (g : Ro → M (Int × Int)) : Prop := ∀ tp He Hq ρ σ H (Q : Int → Int → Hp → Prop), Rel tp K He Hq H σ ρ → wp0 (g ρ) (fun p => ∀ H', GrT tp H H' → TOk tp H' → Q p.1 p.2 H') → t σ H Q
def gR1 (g : Ro → M C) (ρ : Ro) : M (Int × Int) := (g ρ).bind fun c => match c with
  | .val (.int j) => .ret (0, j)
  | _ => .fail
theorem rr_1 {ta : TE} {g : Ro → M C} (h1 : RE K ta g) : RR K (tRg1 ta) (gR1 g) := by
  intro tp He Hq ρ σ H Q r h
  refine h1 tp He Hq ρ σ H _ r (wp0_mono (fun c hc => ?_) (wp0_bind.mp h))
  intro x H1 g1 t1 rx
  split at hc
  · cases rx.int
    exact ⟨_, rfl, hc H1 g1 t1⟩
  · exact hc.elim
def gR2 (g1 g2 : Ro → M C) (ρ : Ro) : M (Int × Int) := (g1 ρ).bind fun c => (g2 ρ).bind fun d => match c, d with
  | .val (.int i), .val (.int j) => .ret (i, j)
  | _, _ => .fail
theorem rr_2 {ta tb : TE} {g1 g2 : Ro → M C} (h1 : RE K ta g1) (h2 : RE K tb g2) : RR K (tRg2 ta tb) (gR2 g1 g2) := by
  intro tp He Hq ρ σ H Q r h
  refine h1 tp He Hq ρ σ H _ r (wp0_mono (fun c hc => ?_) (wp0_bind.mp h))
  intro x H1 e1 t1 rx
  refine h2 tp He Hq ρ σ H1 _ (r.go e1 t1) (wp0_mono (fun d hd => ?_) (wp0_bind.mp hc))
  intro y H2 e2 t2 ry
  split at hd
  · cases rx.int; cases ry.int
    exact ⟨_, _, rfl, rfl, hd H2 (e1.trans e2) t2⟩
  · exact hd.elim
theorem dp_rgV (a b : Int) : VlAll K H (rgV a b) (rngD a 1 (b - a).toNat) := by
  unfold rgV rngD
  generalize List.range (b - a).toNat = l
  induction l with
  | nil => exact .nil
  | cons i l ih =>
    rw [List.map_cons, List.map_cons, Int.mul_one]
    exact .cons (.int _) ih
def rgOk (a b : Int) : Bool := rngOk a && (rngOk b && lenOk (b - a).toNat)
theorem rgOk_of {a b : Int} (h : rgOk a b = true) : RgOk a b := by
  simp only [rgOk, Bool.and_eq_true] at h
  obtain ⟨h1, h2⟩ := rngOk_of h.1
  obtain ⟨h3, h4⟩ := rngOk_of h.2.1
  exact ⟨h1, h2, h3, h4, by have := of_decide_eq_true h.2.2; omega⟩
def gLstRg (g : Ro → M (Int × Int)) (ρ : Ro) : M C := (g ρ).bind fun p => if rgOk p.1 p.2 = true then .ret (.own (.lst (rngD p.1 1 (p.2 - p.1).toNat))) else .fail
def gTupRg (g : Ro → M (Int × Int)) (ρ : Ro) : M C := (g ρ).bind fun p => if rgOk p.1 p.2 = true then .ret (.val (.tuple (rngD p.1 1 (p.2 - p.1).toNat))) else .fail
theorem re_lstRg {te : L2.St → Hp → (Int → Int → Hp → Prop) → Prop} {g : Ro → M (Int × Int)} (h1 : RR K te g) : RE K (tLstRg te) (gLstRg g) := by
  intro tp He Hq ρ σ H Q r h
  refine h1 tp He Hq ρ σ H _ r (wp0_mono (fun p hp => ?_) (wp0_bind.mp h))
  intro H1 g1 t1
  split at hp
  · rename_i l
    exact ⟨rgOk_of l, fun q hq => Post.lst hp g1 t1 hq (dp_rgV _ _) (lf_rng _ _ _)⟩
  · exact hp.elim
theorem re_tupRg {te : L2.St → Hp → (Int → Int → Hp → Prop) → Prop} {g : Ro → M (Int × Int)} (h1 : RR K te g) : RE K (tTupRg te) (gTupRg g) := by
  intro tp He Hq ρ σ H Q r h
  refine h1 tp He Hq ρ σ H _ r (wp0_mono (fun p hp => ?_) (wp0_bind.mp h))
  intro H1 g1 t1
  split at hp
  · rename_i l
    exact ⟨rgOk_of l, fun q hq => Post.tup hp g1 t1 hq (dp_rgV _ _) (lf_rng _ _ _)⟩
  · exact hp.elim
/-! range(a, b, c) -/
def rg3N (i j c : Int) : Nat := ((j - i + c - 1) / c).toNat
end
end Cs

set_option maxRecDepth 100000
set_option maxHeartbeats 4000000
/-! reckoning with plain programs -/
namespace Cs
open PySem PySem.Spec PyProof.Rows L2
variable {α β γ : Type}
@[irreducible] def wp (m : M α) (Q : α → Prop) : Prop := wp0 m Q
theorem wp_def {m : M α} {Q : α → Prop} : wp m Q = wp0 m Q := by unfold wp; rfl
theorem wp_out {m : M α} {Q : α → Prop} (h : wp m Q) : wp0 m Q := by rw [← wp_def]; exact h
theorem wp_mono {Q Q' : α → Prop} (h : ∀ a, Q a → Q' a) {m : M α} : wp m Q → wp m Q' := by rw [wp_def, wp_def]; exact wp0_mono h
theorem wp_bind {f : α → M β} {Q : β → Prop} {m : M α} : wp (m.bind f) Q ↔ wp m fun a => wp (f a) Q := by simp only [wp_def]; exact wp0_bind
theorem wp_failE {Q : α → Prop} : wp (.fail : M α) Q = False := by rw [wp_def]; rfl
theorem wp_retE {a : α} {Q : α → Prop} : wp (.ret a) Q = Q a := by rw [wp_def]; rfl
theorem wp_drawE {m : Int} {k : Int → M α} {Q : α → Prop} : wp (.draw m k) Q = ∀ v, 0 ≤ v → v < max m 1 → wp (k v) Q := by simp only [wp_def]; rfl
theorem wp_bindE {m : M α} {f : α → M β} {Q : β → Prop} : wp (m.bind f) Q = wp m fun a => wp (f a) Q := propext wp_bind
theorem wp_anyE {p : PyData → Prop} {k : PyData → M α} {Q : α → Prop} : wp (.any p k) Q = ∀ d, p d → wp (k d) Q := by simp only [wp_def]; rfl
theorem anyB (p : PyData → Prop) (k : PyData → M α) (f : α → M β) : (M.any p k).bind f = .any p fun v => (k v).bind f := (rfl)
theorem bind_bind (m : M α) (f : α → M β) (g : β → M γ) : (m.bind f).bind g = m.bind fun a => (f a).bind g := M.bind_assoc f g m
theorem retB (a : α) (f : α → M β) : (M.ret a).bind f = f a := (rfl)
theorem bindR (m : M α) : (m.bind fun a => .ret a) = m := by
  induction m with
  | ret a => rfl
  | fail => rfl
  | draw m k ih => exact congrArg (M.draw m) (funext ih)
  | any p k ih => exact congrArg (M.any p) (funext ih)
theorem failB (f : α → M β) : (M.fail : M α).bind f = .fail := (rfl)
theorem drawB (m : Int) (k : Int → M α) (f : α → M β) : (M.draw m k).bind f = .draw m fun v => (k v).bind f := (rfl)
/- only what is run next is looked at -/
theorem bind_cg {m m' : M α} {f : α → M β} (h : m = m') : m.bind f = m'.bind f := by rw [h]
theorem wp_cg {m m' : M α} {Q : α → Prop} (h : m = m') : wp m Q = wp m' Q := by rw [h]
theorem draw_cg {m m' : Int} {k : Int → M α} (h : m = m') : M.draw m k = M.draw m' k := by rw [h]
theorem ite_cg {c c' : Prop} [Decidable c] [Decidable c'] {x y : M α} (h : c = c') : (if c then x else y) = if c' then x else y := by
  by_cases hc : c
  · rw [if_pos hc, if_pos (h ▸ hc)]
  · rw [if_neg hc, if_neg (h ▸ hc)]
theorem wp_call {m : M α} {k : α → M β} {Q : β → Prop} (P : α → Prop) (h : wp m P) (q : ∀ a, P a → wp (k a) Q) : wp (m.bind k) Q := wp_bind.mpr (wp_mono q h)
theorem wp_eq {m : M α} {k : α → M β} {Q : β → Prop} {a : α} (h : wp m fun x => x = a) (q : wp (k a) Q) : wp (m.bind k) Q := wp_call _ h fun x e => e ▸ q
theorem wp_ite {c : Prop} [Decidable c] {a b : M α} {Q : α → Prop} (h1 : c → wp a Q) (h2 : ¬c → wp b Q) : wp (if c then a else b) Q := by
  by_cases hc : c
  · rw [if_pos hc]; exact h1 hc
  · rw [if_neg hc]; exact h2 hc
theorem iteB {c : Prop} [Decidable c] {a b : M α} {k : α → M β} : (if c then a else b).bind k = if c then a.bind k else b.bind k := by split <;> rfl
/-! ### the programs' parts, step by step -/
variable {ρ : Ro} {g ga gb gc : Ro → M C}
def kSeq (n : Ro → M Res) : Res → M Res
  | .nx ρ' => n ρ'
  | r => .ret r
theorem kSeq_nx {n : Ro → M Res} : kSeq n (.nx ρ) = n ρ := (rfl)
theorem kSeq_rt {n : Ro → M Res} {c : C} : kSeq n (.rt c) = .ret (.rt c) := (rfl)
theorem kSeq_bk {n : Ro → M Res} : kSeq n (.bk ρ) = .ret (.bk ρ) := (rfl)
theorem kSeq_ct {n : Ro → M Res} : kSeq n (.ct ρ) = .ret (.ct ρ) := (rfl)
theorem mSeq_eq {m n : Ro → M Res} : mSeq m n ρ = (m ρ).bind (kSeq n) := by
  unfold mSeq
  congr 1
theorem mNext_eq : mNext ρ = .ret (.nx ρ) := (rfl)
theorem mBreak_eq : mBreak ρ = .ret (.bk ρ) := (rfl)
theorem mCont_eq : mCont ρ = .ret (.ct ρ) := (rfl)
theorem mDrop_eq : mDrop g ρ = (g ρ).bind fun _ => .ret (.nx ρ) := (rfl)
theorem mRet_eq : mRet g ρ = (g ρ).bind fun c => .ret (.rt c) := (rfl)
theorem mRetN_eq : mRetN ρ = .ret (.rt (.val .none)) := (rfl)
theorem mAsg_eq {a : C → Ro → M Ro} : mAsg g a ρ = (g ρ).bind fun c => (a c ρ).bind fun ρ' => .ret (.nx ρ') := (rfl)
theorem mIf_eq {t : Ro → M Bool} {m n : Ro → M Res} : mIf t m n ρ = (t ρ).bind fun b => if b = true then m ρ else n ρ := (rfl)
/-! names -/
def gAt : Option (Option C) → M C
  | some (some (.own o)) => .ret (.bor o)
  | some (some c) => .ret c
  | _ => .fail
theorem gVar_eq {i : Nat} : gVar i ρ = gAt ρ[i]? := (rfl)
theorem gAt_v {d : PyData} : gAt (some (some (.val d))) = .ret (.val d) := (rfl)
theorem gAt_o {o : PO} : gAt (some (some (.own o))) = .ret (.bor o) := (rfl)
theorem gAt_b {o : PO} : gAt (some (some (.bor o))) = .ret (.bor o) := (rfl)
theorem gAt_t : gAt (some (some .tape)) = .ret .tape := (rfl)
def rAt : Option (Option C) → M Res
  | some (some c) => .ret (.rt c)
  | _ => .fail
theorem mRetV_eq {i : Nat} : mRetV i ρ = rAt ρ[i]? := (rfl)
theorem rAt_s {c : C} : rAt (some (some c)) = .ret (.rt c) := (rfl)
def aAt (ρ : Ro) (i : Nat) (c : C) : Option (Option C) → M Ro
  | some _ => (match c with
    | .val d => .ret (ρ.set i (some (.val d)))
    | .own o => .ret (ρ.set i (some (.own o)))
    | _ => .fail)
  | none => .fail
theorem asgR_eq {i : Nat} {c : C} : asgR i c ρ = aAt ρ i c ρ[i]? := (rfl)
theorem aAt_v {i : Nat} {d : PyData} {x : Option C} : aAt ρ i (.val d) (some x) = .ret (ρ.set i (some (.val d))) := (rfl)
theorem aAt_o {i : Nat} {d : PO} {x : Option C} : aAt ρ i (.own d) (some x) = .ret (ρ.set i (some (.own d))) := (rfl)
theorem get_0 {x : Option C} : (x :: ρ)[0]? = some x := (rfl)
theorem get_s {x : Option C} {i : Nat} : (x :: ρ)[i + 1]? = ρ[i]? := (rfl)
theorem set_0' {x y : Option C} : List.set (x :: ρ) 0 y = y :: ρ := (rfl)
theorem set_s' {x y : Option C} {i : Nat} : List.set (x :: ρ) (i + 1) y = x :: List.set ρ i y := (rfl)
/-! targets -/
theorem aNil_eq : aNil [] ρ = .ret ρ := (rfl)
theorem aCons_eq {a : C → Ro → M Ro} {as : List PyData → Ro → M Ro} {d : PyData} {ds : List PyData} : aCons a as (d :: ds) ρ = (a (.val d) ρ).bind fun ρ' => as ds ρ' := (rfl)
theorem aTup_eq {n : Nat} {as : List PyData → Ro → M Ro} {ds : List PyData} : aTup n as (.val (.tuple ds)) ρ = if ds.length = n then as ds ρ else .fail := (rfl)
def kPar (i j : Nat) (ρ : Ro) : List C → M Res
  | [c, d] => (asgR i c ρ).bind fun ρ1 => (match d with
    | .own _ => (.fail : M Res)
    | d => (asgR j d ρ1).bind fun ρ2 => .ret (.nx ρ2))
  | _ => .fail
theorem mPar_eq {i j : Nat} {gs : Ro → M (List C)} : mPar i j gs ρ = (gs ρ).bind (kPar i j ρ) := by
  unfold mPar
  congr 1
theorem kPar_v {i j : Nat} {c : C} {d : PyData} : kPar i j ρ [c, .val d] = (asgR i c ρ).bind fun ρ1 => (asgR j (.val d) ρ1).bind fun ρ2 => .ret (.nx ρ2) := (rfl)
/-! expressions -/
theorem gC_eq {d : PyData} : gC d ρ = .ret (.val d) := (rfl)
theorem gaNil_eq : gaNil ρ = .ret [] := (rfl)
theorem gaCons_eq {gs : Ro → M (List C)} : gaCons g gs ρ = (g ρ).bind fun c => (gs ρ).bind fun cs => .ret (c :: cs) := (rfl)
theorem gTupE_eq {gs : Ro → M (List C)} : gTupE gs ρ = (gs ρ).bind oTup := (rfl)
theorem gLst_eq {gs : Ro → M (List C)} : gLst gs ρ = (gs ρ).bind oLst := (rfl)
theorem gOp_eq {op : C → C → M C} : gOp op ga gb ρ = (ga ρ).bind fun a => (gb ρ).bind fun b => op a b := (rfl)
theorem gUn_eq {op : C → M C} : gUn op ga ρ = (ga ρ).bind op := (rfl)
theorem gCall_eq {op : List C → M C} {gs : Ro → M (List C)} : gCall op gs ρ = (gs ρ).bind op := (rfl)
theorem gFn_eq {f : List C → M C} {gs : Ro → M (List C)} : gFn f gs ρ = (gs ρ).bind fun cs => f (cs.map C.lend) := (rfl)
theorem map_nilC : List.map C.lend [] = [] := (rfl)
theorem map_consC {c : C} {cs : List C} : List.map C.lend (c :: cs) = c.lend :: List.map C.lend cs := (rfl)
theorem lend_v {d : PyData} : C.lend (.val d) = .val d := (rfl)
theorem lend_o {d : PO} : C.lend (.own d) = .bor d := (rfl)
theorem lend_b {d : PO} : C.lend (.bor d) = .bor d := (rfl)
theorem lend_t : C.lend .tape = .tape := (rfl)
theorem gTru_eq : gTru g ρ = (g ρ).bind oTru := (rfl)
theorem gTest_eq : gTest g ρ = (g ρ).bind oBl := (rfl)
theorem oBl_b {b : Bool} : oBl (.val (.bool b)) = .ret b := (rfl)
theorem oTru_v {d : PyData} : oTru (.val d) = truD d := (rfl)
theorem oTru_o {ds : List PyData} : oTru (.own (.lst ds)) = .ret (!ds.isEmpty) := (rfl)
theorem oTru_b {ds : List PyData} : oTru (.bor (.lst ds)) = .ret (!ds.isEmpty) := (rfl)
theorem truD_n : truD .none = .ret false := (rfl)
theorem truD_b {b : Bool} : truD (.bool b) = .ret b := (rfl)
theorem truD_i {i : Int} : truD (.int i) = .ret (i != 0) := (rfl)
theorem truD_t {ds : List PyData} : truD (.tuple ds) = .ret (!ds.isEmpty) := (rfl)
/-- b and m, a test; m is looked at -/
def mAnd (b : Bool) (m : M Bool) : M Bool := if b = true then m else .ret false
def mOr (b : Bool) (m : M Bool) : M Bool := if b = true then .ret true else m
theorem mAnd_r {b c : Bool} : mAnd b (.ret c) = .ret (b && c) := by cases b <;> rfl
theorem mOr_r {b c : Bool} : mOr b (.ret c) = .ret (b || c) := by cases b <;> rfl
theorem mAnd_t {m : M Bool} : mAnd true m = m := (rfl)
theorem mAnd_f {m : M Bool} : mAnd false m = .ret false := (rfl)
theorem mOr_t {m : M Bool} : mOr true m = .ret true := (rfl)
theorem mOr_f {m : M Bool} : mOr false m = m := (rfl)
theorem mAnd_ite {b : Bool} {m : M Bool} : mAnd b m = if b = true then m else .ret false := (rfl)
theorem mOr_ite {b : Bool} {m : M Bool} : mOr b m = if b = true then .ret true else m := (rfl)
theorem gAnd_eq {g1 g2 : Ro → M Bool} : gAnd g1 g2 ρ = (g1 ρ).bind fun b => mAnd b (g2 ρ) := (rfl)
theorem gOr_eq {g1 g2 : Ro → M Bool} : gOr g1 g2 ρ = (g1 ρ).bind fun b => mOr b (g2 ρ) := (rfl)
theorem gNot_eq {g1 : Ro → M Bool} : gNot g1 ρ = (g1 ρ).bind fun b => .ret (!b) := (rfl)
/-- as values -/
def mAndC (b : Bool) (m : M C) (c : C) : M C := if b = true then m else .ret c
def mOrC (b : Bool) (m : M C) (c : C) : M C := if b = true then .ret c else m
theorem mAndC_r {b q : Bool} : mAndC b (.ret (.val (.bool q))) (.val (.bool b)) = .ret (.val (.bool (b && q))) := by cases b <;> rfl
theorem mAndC_f {b q : Bool} : mAndC b (.ret (.val (.bool q))) (.val (.bool false)) = .ret (.val (.bool (b && q))) := by cases b <;> rfl
theorem mOrC_r {b q : Bool} : mOrC b (.ret (.val (.bool q))) (.val (.bool b)) = .ret (.val (.bool (b || q))) := by cases b <;> rfl
theorem mAndC_ite {b : Bool} {m : M C} {c : C} : mAndC b m c = if b = true then m else .ret c := (rfl)
theorem mOrC_ite {b : Bool} {m : M C} {c : C} : mOrC b m c = if b = true then .ret c else m := (rfl)
theorem gAndT_eq {g1 g2 : Ro → M C} : gAndT g1 g2 ρ = (g1 ρ).bind fun c => (oTru c).bind fun b => mAndC b (g2 ρ) c := (rfl)
theorem gOrT_eq {g1 g2 : Ro → M C} : gOrT g1 g2 ρ = (g1 ρ).bind fun c => (oTru c).bind fun b => mOrC b (g2 ρ) c := (rfl)
theorem gNotT_eq {g1 : Ro → M C} : gNotT g1 ρ = (g1 ρ).bind fun c => (oTru c).bind fun b => .ret (.val (.bool (!b))) := (rfl)
theorem gIfE_eq {t : Ro → M Bool} {g1 g2 : Ro → M C} : gIfE t g1 g2 ρ = (t ρ).bind fun b => if b = true then g1 ρ else g2 ρ := (rfl)
theorem gChain_eq {o1 o2 : C → C → M C} : gChain o1 o2 ga gb gc ρ = (ga ρ).bind fun a => (gb ρ).bind fun b => (o1 a.lend b.lend).bind fun r => (oBl r).bind fun k => mAndC k ((gc ρ).bind fun c => o2 b c) (.val (.bool false)) := (rfl)
theorem gNo_eq : gNo ρ = .ret none := (rfl)
theorem gSome_eq : gSome g ρ = (g ρ).bind oInt? := (rfl)
theorem oInt?_i {i : Int} : oInt? (.val (.int i)) = .ret (some i) := (rfl)
theorem gSl_eq {l u : Ro → M (Option Int)} : gSl g l u ρ = (g ρ).bind fun c => (l ρ).bind fun lo => (u ρ).bind fun hi => oSl c lo hi := (rfl)
theorem oSl_t {ds : List PyData} {lo hi : Option Int} : oSl (.val (.tuple ds)) lo hi = .ret (.val (.tuple (cutD ds lo hi))) := (rfl)
theorem oSl_b {ds : List PyData} {lo hi : Option Int} : oSl (.bor (.lst ds)) lo hi = .ret (.own (.lst (cutD ds lo hi))) := (rfl)
def kSl2 (lo : Option Int) : C → M C
  | .val (.tuple ds) => .ret (.val (.tuple (ev (ds.drop (HT.sIx ds.length 0 lo)))))
  | _ => .fail
theorem gSl2_eq {l : Ro → M (Option Int)} : gSl2 g l ρ = (g ρ).bind fun c => (l ρ).bind fun lo => kSl2 lo c := by
  unfold gSl2
  congr 1
theorem kSl2_t {lo : Option Int} {ds : List PyData} : kSl2 lo (.val (.tuple ds)) = .ret (.val (.tuple (ev (ds.drop (HT.sIx ds.length 0 lo))))) := (rfl)
theorem gIt_eq : gIt g ρ = (g ρ).bind itD := (rfl)
def kItV (s : Bool) : Option (Option C) → M (List PyData)
  | some (some c) => if s = true then itVs c else itV c
  | _ => .fail
theorem gItV_eq {s : Bool} {i : Nat} : gItV s i ρ = kItV s ρ[i]? := (rfl)
theorem kItV_v {s : Bool} {d : PyData} : kItV s (some (some (.val d))) = itV (.val d) := by cases s <;> cases d <;> rfl
theorem kItV_b {s : Bool} {d : PO} : kItV s (some (some (.bor d))) = itV (.bor d) := by cases s <;> cases d <;> rfl
theorem kItV_o {d : PO} : kItV false (some (some (.own d))) = itV (.own d) := (rfl)
theorem itV_t {ds : List PyData} : itV (.val (.tuple ds)) = .ret ds := (rfl)
theorem itV_s {z : Str} : itV (.val (.str z)) = .ret (signsD z) := (rfl)
theorem itV_b {ds : List PyData} : itV (.bor (.lst ds)) = .ret ds := (rfl)
theorem itV_o {ds : List PyData} : itV (.own (.lst ds)) = .ret ds := (rfl)
theorem itD_t {ds : List PyData} : itD (.val (.tuple ds)) = .ret ds := (rfl)
theorem itD_s {z : Str} : itD (.val (.str z)) = .ret (signsD z) := (rfl)
theorem itD_o {ds : List PyData} : itD (.own (.lst ds)) = .ret ds := (rfl)
theorem gItR1_eq {gs : Ro → M (List C)} : gItR1 gs ρ = (gs ρ).bind itR1 := (rfl)
theorem gItR2_eq {gs : Ro → M (List C)} : gItR2 gs ρ = (gs ρ).bind itR2 := (rfl)
theorem itR1_i {j : Int} : itR1 [.val (.int j)] = if rngOk j = true then .ret (rngD 0 1 j.toNat) else .fail := (rfl)
theorem itR2_i {i j : Int} : itR2 [.val (.int i), .val (.int j)] = if (rngOk i && rngOk j) = true then .ret (rngD i 1 (j - i).toNat) else .fail := (rfl)
theorem gLc_eq {its : Ro → M (List PyData)} {a : C → Ro → M Ro} {c : Ro → M Bool} {e : Ro → M C} {vs : List Nat} : gLc its a c e vs ρ = (its ρ).bind fun ds => if lenOk ds.length = true then lcL a c e ds (wipeR ρ vs) [] else .fail := (rfl)
theorem wipe_n : wipeR ρ [] = ρ := (rfl)
theorem wipe_c {i : Nat} {vs : List Nat} : wipeR ρ (i :: vs) = (wipeR ρ vs).set i none := (rfl)
theorem gYes_eq : gYes ρ = .ret true := (rfl)
def kR1 : C → M (Int × Int)
  | .val (.int j) => .ret (0, j)
  | _ => .fail
theorem gR1_eq : gR1 g ρ = (g ρ).bind kR1 := by
  unfold gR1
  congr 1
theorem kR1_i {j : Int} : kR1 (.val (.int j)) = .ret (0, j) := (rfl)
def kR2 : C → C → M (Int × Int)
  | .val (.int i), .val (.int j) => .ret (i, j)
  | _, _ => .fail
theorem gR2_eq : gR2 ga gb ρ = (ga ρ).bind fun c => (gb ρ).bind fun d => kR2 c d := by
  unfold gR2
  congr 1
theorem kR2_i {i j : Int} : kR2 (.val (.int i)) (.val (.int j)) = .ret (i, j) := (rfl)
theorem gLstRg_eq {q : Ro → M (Int × Int)} : gLstRg q ρ = (q ρ).bind fun p => if rgOk p.1 p.2 = true then .ret (.own (.lst (rngD p.1 1 (p.2 - p.1).toNat))) else .fail := (rfl)
theorem gTupRg_eq {q : Ro → M (Int × Int)} : gTupRg q ρ = (q ρ).bind fun p => if rgOk p.1 p.2 = true then .ret (.val (.tuple (rngD p.1 1 (p.2 - p.1).toNat))) else .fail := (rfl)
/-! loops -/
theorem mFor_eq {its : Ro → M (List PyData)} {a : C → Ro → M Ro} {b : Ro → M Res} : mFor its a b ρ = (its ρ).bind fun ds => forL a b ds ρ := (rfl)
def kForV (ρ : Ro) (i : Nat) (a : C → Ro → M Ro) (b : Ro → M Res) : Option (Option C) → M Res
  | some (some (.own (.lst ds))) => forL a b ds (ρ.set i (some (.bor (.lst ds))))
  | some (some c) => (itVs c).bind fun ds => forL a b ds ρ
  | _ => .fail
theorem mForV_eq {i : Nat} {a : C → Ro → M Ro} {b : Ro → M Res} : mForV i a b ρ = kForV ρ i a b ρ[i]? := (rfl)
theorem kForV_o {i : Nat} {a : C → Ro → M Ro} {b : Ro → M Res} {ds : List PyData} : kForV ρ i a b (some (some (.own (.lst ds)))) = forL a b ds (ρ.set i (some (.bor (.lst ds)))) := (rfl)
theorem kForV_b {i : Nat} {a : C → Ro → M Ro} {b : Ro → M Res} {ds : List PyData} : kForV ρ i a b (some (some (.bor (.lst ds)))) = forL a b ds ρ := (rfl)
theorem kForV_t {i : Nat} {a : C → Ro → M Ro} {b : Ro → M Res} {ds : List PyData} : kForV ρ i a b (some (some (.val (.tuple ds)))) = forL a b ds ρ := (rfl)
theorem kForV_s {i : Nat} {a : C → Ro → M Ro} {b : Ro → M Res} {z : Str} : kForV ρ i a b (some (some (.val (.str z)))) = forL a b (signsD z) ρ := (rfl)
def kFor (a : C → Ro → M Ro) (b : Ro → M Res) (ds : List PyData) : Res → M Res
  | .nx ρ' => forL a b ds ρ'
  | .ct ρ' => forL a b ds ρ'
  | .bk ρ' => .ret (.nx ρ')
  | .rt c => .ret (.rt c)
theorem kFor_nx {a : C → Ro → M Ro} {b : Ro → M Res} {ds : List PyData} : kFor a b ds (.nx ρ) = forL a b ds ρ := (rfl)
theorem kFor_ct {a : C → Ro → M Ro} {b : Ro → M Res} {ds : List PyData} : kFor a b ds (.ct ρ) = forL a b ds ρ := (rfl)
theorem kFor_bk {a : C → Ro → M Ro} {b : Ro → M Res} {ds : List PyData} : kFor a b ds (.bk ρ) = .ret (.nx ρ) := (rfl)
theorem kFor_rt {a : C → Ro → M Ro} {b : Ro → M Res} {ds : List PyData} {c : C} : kFor a b ds (.rt c) = .ret (.rt c) := (rfl)
theorem forL_nil {a : C → Ro → M Ro} {b : Ro → M Res} : forL a b [] ρ = .ret (.nx ρ) := (rfl)
theorem forL_cons {a : C → Ro → M Ro} {b : Ro → M Res} {d : PyData} {ds : List PyData} : forL a b (d :: ds) ρ = (a (.val d) ρ).bind fun ρ1 => (b ρ1).bind (kFor a b ds) := by
  show (a (.val d) ρ).bind _ = _
  congr 1
def ForPost (I : List PyData → Ro → Prop) (ds : List PyData) (Q : Res → Prop) : Res → Prop
  | .nx ρ' => I ds ρ'
  | .ct ρ' => I ds ρ'
  | .bk ρ' => Q (.nx ρ')
  | .rt c => Q (.rt c)
theorem ForPost_nx {I : List PyData → Ro → Prop} {ds : List PyData} {Q : Res → Prop} : ForPost I ds Q (.nx ρ) = I ds ρ := (rfl)
theorem ForPost_ct {I : List PyData → Ro → Prop} {ds : List PyData} {Q : Res → Prop} : ForPost I ds Q (.ct ρ) = I ds ρ := (rfl)
theorem ForPost_bk {I : List PyData → Ro → Prop} {ds : List PyData} {Q : Res → Prop} : ForPost I ds Q (.bk ρ) = Q (.nx ρ) := (rfl)
theorem ForPost_rt {I : List PyData → Ro → Prop} {ds : List PyData} {Q : Res → Prop} {c : C} : ForPost I ds Q (.rt c) = Q (.rt c) := (rfl)
theorem wp_for (I : List PyData → Ro → Prop) {a : C → Ro → M Ro} {b : Ro → M Res} {Q : Res → Prop} (hn : ∀ ρ, I [] ρ → Q (.nx ρ)) (hc : ∀ d ds ρ, I (d :: ds) ρ → wp ((a (.val d) ρ).bind b) (ForPost I ds Q)) : ∀ {ds : List PyData} {ρ : Ro}, I ds ρ → wp (forL a b ds ρ) Q
  | [], ρ, h => by rw [forL_nil, wp_retE]; exact hn ρ h
  | d :: ds, ρ, h => by
    rw [forL_cons, ← bind_bind]
    refine wp_call _ (hc d ds ρ h) fun r hr => ?_
    cases r with
    | nx ρ' => rw [kFor_nx]; exact wp_for I hn hc hr
    | ct ρ' => rw [kFor_ct]; exact wp_for I hn hc hr
    | bk ρ' => rw [kFor_bk, wp_retE]; exact hr
    | rt c => rw [kFor_rt, wp_retE]; exact hr
/-- a loop of n turns over a row of things -/
theorem wp_each {δ : Type} (enc : δ → PyData) (I : List δ → Ro → Prop) {a : C → Ro → M Ro} {b : Ro → M Res} {Q : Res → Prop} (hn : ∀ ρ, I [] ρ → Q (.nx ρ)) (hc : ∀ d ds ρ, I (d :: ds) ρ → wp ((a (.val (enc d)) ρ).bind b) (ForPost (fun es ρ => ∃ xs, es = xs.map enc ∧ I xs ρ) (ds.map enc) Q)) {ds : List δ} {ρ : Ro} (h : I ds ρ) : wp (forL a b (ds.map enc) ρ) Q := by
  apply wp_for (fun es ρ => ∃ xs, es = xs.map enc ∧ I xs ρ) ?A ?B ⟨ds, rfl, h⟩
  case A =>
    rintro ρ ⟨xs, e, h⟩
    cases xs with
    | nil => exact hn ρ h
    | cons _ _ => cases e
  case B =>
    rintro d es ρ ⟨xs, e, h⟩
    cases xs with
    | nil => cases e
    | cons x xs =>
      rw [List.map_cons] at e
      obtain ⟨e1, e2⟩ := List.cons.inj e
      subst e1; subst e2
      exact hc x xs ρ h
theorem wp_turns (I : Nat → Ro → Prop) {a : C → Ro → M Ro} {b : Ro → M Res} {Q : Res → Prop} {lo c : Int} {n : Nat} (hn : ∀ ρ, I n ρ → Q (.nx ρ)) (hc : ∀ (i : Nat) ds ρ, i < n → I i ρ → wp ((a (.val (.int (lo + (i : Nat) * c))) ρ).bind b) (ForPost (fun _ ρ => I (i + 1) ρ) ds Q)) {ρ : Ro} (h : I 0 ρ) : wp (forL a b (rngD lo c n) ρ) Q := by
  have key : ∀ (k i : Nat) (ρ : Ro), i + k = n → I i ρ → wp (forL a b ((List.range' i k).map fun i => .int (lo + (i : Nat) * c)) ρ) Q := by
    intro k
    induction k with
    | zero =>
      intro i ρ e h
      have e2 : i = n := by omega
      rw [List.range'_zero, List.map_nil, forL_nil, wp_retE]
      exact hn ρ (e2 ▸ h)
    | succ k ih =>
      intro i ρ e h
      rw [List.range'_succ, List.map_cons, forL_cons, ← bind_bind]
      refine wp_call _ (hc i [] ρ (by omega) h) fun r hr => ?_
      cases r with
      | nx ρ' => rw [kFor_nx]; exact ih (i + 1) ρ' (by omega) hr
      | ct ρ' => rw [kFor_ct]; exact ih (i + 1) ρ' (by omega) hr
      | bk ρ' => rw [kFor_bk, wp_retE]; exact hr
      | rt c => rw [kFor_rt, wp_retE]; exact hr
  unfold rngD
  rw [List.range_eq_range']
  exact key n 0 ρ (by omega) h
theorem forL_any {δ : Type} (enc : δ → PyData) (p : δ → Bool) (S : Ro → Prop) (c : C) {a : C → Ro → M Ro} {b : Ro → M Res} : ∀ (xs : List δ) (ρ : Ro), S ρ →
    (∀ x ∈ xs, ∀ ρ, S ρ → ∃ ρ1, a (.val (enc x)) ρ = .ret ρ1 ∧ (p x = true → b ρ1 = .ret (.rt c)) ∧ (p x = false → ∃ ρ2, S ρ2 ∧ b ρ1 = .ret (.nx ρ2))) →
    (xs.any p = true ∧ forL a b (xs.map enc) ρ = .ret (.rt c)) ∨ (xs.any p = false ∧ ∃ ρ', S ρ' ∧ forL a b (xs.map enc) ρ = .ret (.nx ρ'))
  | [], ρ, h, _ => .inr ⟨rfl, ρ, h, rfl⟩
  | x :: xs, ρ, h, st => by
    obtain ⟨ρ1, h1, h2, h3⟩ := st x List.mem_cons_self ρ h
    rw [List.map_cons, List.any_cons, forL_cons, h1, retB]
    cases hp : p x with
    | true => exact .inl ⟨rfl, by rw [h2 hp]; rfl⟩
    | false =>
      obtain ⟨ρ2, h4, h5⟩ := h3 hp
      rw [h5, retB, kFor_nx, Bool.false_or]
      exact forL_any enc p S c xs ρ2 h4 fun y hy => st y (List.mem_cons_of_mem _ hy)
/-! [e for x in xs if c] -/
def kLc (a : C → Ro → M Ro) (c : Ro → M Bool) (e : Ro → M C) (ds : List PyData) (ρ : Ro) (acc : List PyData) : C → M C
  | .val y => lcL a c e ds ρ (acc ++ [y])
  | _ => .fail
theorem kLc_v {a : C → Ro → M Ro} {c : Ro → M Bool} {e : Ro → M C} {ds acc : List PyData} {y : PyData} : kLc a c e ds ρ acc (.val y) = lcL a c e ds ρ (acc ++ [y]) := (rfl)
theorem lcL_nil {a : C → Ro → M Ro} {c : Ro → M Bool} {e : Ro → M C} {acc : List PyData} : lcL a c e [] ρ acc = .ret (.own (.lst acc)) := (rfl)
theorem lcL_cons {a : C → Ro → M Ro} {c : Ro → M Bool} {e : Ro → M C} {d : PyData} {ds acc : List PyData} : lcL a c e (d :: ds) ρ acc = (a (.val d) ρ).bind fun ρ1 => (c ρ1).bind fun b => if b = true then (e ρ1).bind (kLc a c e ds ρ acc) else lcL a c e ds ρ acc := by
  show (a (.val d) ρ).bind _ = _
  congr 1
/-- each thing x is kept if p x and gives f x -/
theorem lcL_fm {δ : Type} (enc : δ → PyData) (p : δ → Bool) (f : δ → PyData) {a : C → Ro → M Ro} {c : Ro → M Bool} {e : Ro → M C} : ∀ (xs : List δ) (acc : List PyData), (∀ x ∈ xs, ∃ ρ1, a (.val (enc x)) ρ = .ret ρ1 ∧ c ρ1 = .ret (p x) ∧ (p x = true → e ρ1 = .ret (.val (f x)))) →
    lcL a c e (xs.map enc) ρ acc = .ret (.own (.lst (acc ++ (xs.filter p).map f)))
  | [], acc, _ => by rw [List.map_nil, lcL_nil, List.filter_nil, List.map_nil, List.append_nil]
  | x :: xs, acc, h => by
    obtain ⟨ρ1, h1, h2, h3⟩ := h x List.mem_cons_self
    rw [List.map_cons, lcL_cons, h1, retB, h2, retB]
    by_cases hp : p x = true
    · rw [if_pos hp, h3 hp, retB, kLc_v, lcL_fm enc p f xs _ fun y hy => h y (List.mem_cons_of_mem _ hy), List.filter_cons_of_pos hp, List.map_cons, List.append_assoc]
      rfl
    · rw [if_neg hp, lcL_fm enc p f xs _ fun y hy => h y (List.mem_cons_of_mem _ hy), List.filter_cons_of_neg hp]
theorem lcL_map {δ : Type} (enc : δ → PyData) (f : δ → PyData) {a : C → Ro → M Ro} {c : Ro → M Bool} {e : Ro → M C} (xs : List δ) (acc : List PyData) (h : ∀ x ∈ xs, ∃ ρ1, a (.val (enc x)) ρ = .ret ρ1 ∧ c ρ1 = .ret true ∧ e ρ1 = .ret (.val (f x))) :
    lcL a c e (xs.map enc) ρ acc = .ret (.own (.lst (acc ++ xs.map f))) := by
  rw [lcL_fm enc (fun _ => true) f xs acc fun x hx => by
    obtain ⟨ρ1, h1, h2, h3⟩ := h x hx
    exact ⟨ρ1, h1, h2, fun _ => h3⟩]
  rw [List.filter_eq_self.mpr fun _ _ => rfl]
/-- the same, with draws -/
theorem wp_lc {δ : Type} (enc : δ → PyData) (P : List PyData → Prop) {a : C → Ro → M Ro} {c : Ro → M Bool} {e : Ro → M C} {Q : C → Prop} (hq : ∀ acc, P acc → Q (.own (.lst acc))) : ∀ (xs : List δ) (acc : List PyData), P acc →
    (∀ x ∈ xs, ∀ acc, P acc → wp ((a (.val (enc x)) ρ).bind fun ρ1 => (c ρ1).bind fun b => if b = true then (e ρ1).bind fun y => .ret (some y) else .ret none) fun o => (o = none ∧ P acc) ∨ ∃ y, o = some (.val y) ∧ P (acc ++ [y])) → wp (lcL a c e (xs.map enc) ρ acc) Q
  | [], acc, h, _ => by rw [List.map_nil, lcL_nil, wp_retE]; exact hq acc h
  | x :: xs, acc, h, st => by
    rw [List.map_cons, lcL_cons]
    have hx := st x List.mem_cons_self acc h
    rw [wp_bindE] at hx ⊢
    refine wp_mono (fun ρ1 h1 => ?_) hx
    rw [wp_bindE] at h1 ⊢
    refine wp_mono (fun b h2 => ?_) h1
    by_cases hb : b = true
    · rw [if_pos hb] at h2 ⊢
      rw [wp_bindE] at h2 ⊢
      refine wp_mono (fun y h3 => ?_) h2
      rw [wp_retE] at h3
      rcases h3 with ⟨z, _⟩ | ⟨y', e1, h4⟩
      · cases z
      · cases e1
        rw [kLc_v]
        exact wp_lc enc P hq xs _ h4 fun y hy => st y (List.mem_cons_of_mem _ hy)
    · rw [if_neg hb] at h2 ⊢
      rw [wp_retE] at h2
      rcases h2 with ⟨_, h4⟩ | ⟨y', e1, h4⟩
      · exact wp_lc enc P hq xs _ h4 fun y hy => st y (List.mem_cons_of_mem _ hy)
      · cases e1
/-! lists that change -/
def kApp (i : Nat) (ρ : Ro) (ds : List PyData) : C → M Res
  | .val d => if lenOk (ds.length + 1) = true then .ret (.nx (setOwn i (ds ++ [d]) ρ)) else .fail
  | _ => .fail
def appAt (i : Nat) (g : Ro → M C) (ρ : Ro) : Option (Option C) → M Res
  | some (some (.own (.lst ds))) => (g ρ).bind (kApp i ρ ds)
  | _ => .fail
theorem mApp_eq {i : Nat} : mApp i g ρ = appAt i g ρ ρ[i]? := by
  unfold mApp
  generalize ρ[i]? = o
  match o with
  | some (some (.own (.lst ds))) => congr 1
  | some (some (.own (.dT _))) => rfl
  | some (some (.own (.dK _))) => rfl
  | some (some (.own (.lT _))) => rfl
  | some (some (.val _)) => rfl
  | some (some (.bor _)) => rfl
  | some (some .tape) => rfl
  | some none => rfl
  | none => rfl
theorem appAt_o {i : Nat} {ds : List PyData} : appAt i g ρ (some (some (.own (.lst ds)))) = (g ρ).bind (kApp i ρ ds) := (rfl)
theorem kApp_v {i : Nat} {ds : List PyData} {d : PyData} : kApp i ρ ds (.val d) = if lenOk (ds.length + 1) = true then .ret (.nx (ρ.set i (some (.own (.lst (ds ++ [d])))))) else .fail := (rfl)
/-! defs -/
theorem fnU_eq {n k : Nat} {m : Ro → M Res} {cs : List C} : fnU n k m cs = if cs.length = n then (m (cs.map some ++ List.replicate k none)).bind Res.out else .fail := (rfl)
theorem fnU_0 {n k : Nat} {m : Ro → M Res} {cs : List C} (h : cs.length = n) : fnU n k m cs = (m (cs.map some ++ List.replicate k none)).bind Res.out := if_pos h
theorem rp_0 : (List.replicate 0 none : Ro) = [] := (rfl)
theorem rp_s {k : Nat} : (List.replicate (k + 1) none : Ro) = none :: List.replicate k none := (rfl)
theorem ap_n {r : Ro} : ([] : Ro) ++ r = r := (rfl)
theorem ap_c {x : Option C} {r s : Ro} : (x :: r) ++ s = x :: (r ++ s) := (rfl)
theorem ms_n : List.map some ([] : List C) = [] := (rfl)
theorem ms_c {c : C} {cs : List C} : List.map some (c :: cs) = some c :: List.map some cs := (rfl)
theorem out_rt {c : C} : Res.out (.rt c) = .ret c := (rfl)
theorem out_nx : Res.out (.nx ρ) = .ret (.val .none) := (rfl)
/-! ### operators at values -/
theorem oAdd_i {i j : Int} : oAdd (.val (.int i)) (.val (.int j)) = .ret (.val (.int (i + j))) := (rfl)
theorem oAdd_s {i j : Str} : oAdd (.val (.str i)) (.val (.str j)) = if lenOk (i.length + j.length) = true then .ret (.val (.str (i ++ j))) else .fail := (rfl)
theorem oAdd_t {i j : List PyData} : oAdd (.val (.tuple i)) (.val (.tuple j)) = if lenOk (i.length + j.length) = true then .ret (.val (.tuple (i ++ j))) else .fail := (rfl)
theorem oAdd_oo {i j : List PyData} : oAdd (.own (.lst i)) (.own (.lst j)) = if lenOk (i.length + j.length) = true then .ret (.own (.lst (i ++ j))) else .fail := (rfl)
theorem oAdd_bo {i j : List PyData} : oAdd (.bor (.lst i)) (.own (.lst j)) = if lenOk (i.length + j.length) = true then .ret (.own (.lst (i ++ j))) else .fail := (rfl)
theorem oAdd_bb {i j : List PyData} : oAdd (.bor (.lst i)) (.bor (.lst j)) = if lenOk (i.length + j.length) = true then .ret (.own (.lst (i ++ j))) else .fail := (rfl)
theorem oAdd_ob {i j : List PyData} : oAdd (.own (.lst i)) (.bor (.lst j)) = if lenOk (i.length + j.length) = true then .ret (.own (.lst (i ++ j))) else .fail := (rfl)
theorem oInt_v {f : Int → Int → PyData} {c : Int → Int → Bool} {i j : Int} : oInt f c (.val (.int i)) (.val (.int j)) = if c i j = true then .ret (.val (f i j)) else .fail := (rfl)
theorem oMul_i {i j : Int} : oMul (.val (.int i)) (.val (.int j)) = if cMul i j = true then .ret (.val (.int (i * j))) else .fail := (rfl)
theorem oNeg_i {i : Int} : oNeg (.val (.int i)) = .ret (.val (.int (-i))) := (rfl)
theorem oEqD_s {n : Bool} {i j : Str} : oEqD n (some (.str i)) (some (.str j)) = .ret (.val (.bool (n ^^ decide (i = j)))) := (rfl)
theorem oEqD_d {n : Bool} {d e : PyData} (h1 : SeqAt.shaped d = true) (h2 : SeqAt.shaped e = true) : oEqD n (some d) (some e) = .ret (.val (.bool (n ^^ PyData.eqv d e))) := by
  unfold oEqD
  split
  · rename_i i j e1 e2
    cases e1; cases e2
    simp only [PyData.eqv]
    rfl
  · rename_i d' e' _ e1 e2
    cases e1; cases e2
    rw [if_pos (by rw [h1, h2]; rfl)]
  · rename_i a b
    exact absurd rfl (b d e rfl)
theorem oEq_i {i j : Int} : oEq (.val (.int i)) (.val (.int j)) = .ret (.val (.bool (decide (i = j)))) := by
  show oEqD false (some (.int i)) (some (.int j)) = _
  rw [oEqD_d rfl rfl]
  simp only [PyData.eqv, Bool.false_xor]
  rfl
theorem oNe_i {i j : Int} : oNe (.val (.int i)) (.val (.int j)) = .ret (.val (.bool (!decide (i = j)))) := by
  show oEqD true (some (.int i)) (some (.int j)) = _
  rw [oEqD_d rfl rfl]
  simp only [PyData.eqv, Bool.true_xor]
  rfl
theorem oEq_b {i j : Bool} : oEq (.val (.bool i)) (.val (.bool j)) = .ret (.val (.bool (decide (i = j)))) := by
  show oEqD false (some (.bool i)) (some (.bool j)) = _
  rw [oEqD_d rfl rfl]
  cases i <;> cases j <;> rfl
theorem oNe_b {i j : Bool} : oNe (.val (.bool i)) (.val (.bool j)) = .ret (.val (.bool (!decide (i = j)))) := by
  show oEqD true (some (.bool i)) (some (.bool j)) = _
  rw [oEqD_d rfl rfl]
  cases i <;> cases j <;> rfl
theorem oEq_s {i j : Str} : oEq (.val (.str i)) (.val (.str j)) = .ret (.val (.bool (decide (i = j)))) := by
  show oEqD false (some (.str i)) (some (.str j)) = _
  rw [oEqD_s, Bool.false_xor]
theorem oNe_s {i j : Str} : oNe (.val (.str i)) (.val (.str j)) = .ret (.val (.bool (!decide (i = j)))) := by
  show oEqD true (some (.str i)) (some (.str j)) = _
  rw [oEqD_s, Bool.true_xor]
/-! subscripts -/
theorem oIx_t {ds : List PyData} {i : Int} : oIx (.val (.tuple ds)) (.val (.int i)) = atD ds i := (rfl)
theorem oIx_s {ds : Str} {i : Int} : oIx (.val (.str ds)) (.val (.int i)) = atS ds i := (rfl)
theorem oIx_o {ds : List PyData} {i : Int} : oIx (.own (.lst ds)) (.val (.int i)) = atD ds i := (rfl)
theorem oIx_b {ds : List PyData} {i : Int} : oIx (.bor (.lst ds)) (.val (.int i)) = atD ds i := (rfl)
theorem atD_get {ds : List PyData} {i : Nat} {d : PyData} (h : ds[i]? = some d) : atD ds (i : Int) = .ret (.val d) := by
  obtain ⟨hl, _⟩ := List.getElem?_eq_some_iff.mp h
  have : atI ds (i : Int) = some d := by
    unfold atI
    have e : ixN ds.length (i : Int) = some i := by
      unfold ixN
      simp only [Int.natCast_nonneg, Int.toNat_natCast, if_true]
      first
        | rfl
        | simp [hl]
        | (split <;> first | rfl | omega | simp_all)
    rw [e]
    exact h
  unfold atD
  rw [this]
theorem atD_int {ds : List PyData} {i : Int} {d : PyData} (h0 : 0 ≤ i) (h : ds[i.toNat]? = some d) : atD ds i = .ret (.val d) := by
  have := atD_get h
  rwa [Int.toNat_of_nonneg h0] at this
theorem atD_m1 {ds : List PyData} {d : PyData} (h : ds[ds.length - 1]? = some d) : atD ds (-1) = .ret (.val d) := by
  obtain ⟨hl, _⟩ := List.getElem?_eq_some_iff.mp h
  have : atI ds (-1) = some d := by
    unfold atI
    have e : ixN ds.length (-1) = some (ds.length - 1) := by
      unfold ixN
      have h1 : ¬ (0 : Int) ≤ -1 := by omega
      first
        | (rw [if_neg h1]; simp; omega)
        | (simp; omega)
        | (split <;> simp_all <;> omega)
    rw [e]
    exact h
  unfold atD
  rw [this]
section
variable {a0 a1 a2 a3 a4 a5 a6 a7 a8 a9 : PyData} {ds : List PyData}
theorem atD_0 : atD (a0 :: ds) 0 = .ret (.val a0) := atD_get (i := 0) rfl
theorem atD_1 : atD (a0 :: a1 :: ds) 1 = .ret (.val a1) := atD_get (i := 1) rfl
theorem atD_2 : atD (a0 :: a1 :: a2 :: ds) 2 = .ret (.val a2) := atD_get (i := 2) rfl
theorem atD_3 : atD (a0 :: a1 :: a2 :: a3 :: ds) 3 = .ret (.val a3) := atD_get (i := 3) rfl
theorem atD_4 : atD (a0 :: a1 :: a2 :: a3 :: a4 :: ds) 4 = .ret (.val a4) := atD_get (i := 4) rfl
theorem atD_5 : atD (a0 :: a1 :: a2 :: a3 :: a4 :: a5 :: ds) 5 = .ret (.val a5) := atD_get (i := 5) rfl
theorem atD_6 : atD (a0 :: a1 :: a2 :: a3 :: a4 :: a5 :: a6 :: ds) 6 = .ret (.val a6) := atD_get (i := 6) rfl
theorem atD_7 : atD (a0 :: a1 :: a2 :: a3 :: a4 :: a5 :: a6 :: a7 :: ds) 7 = .ret (.val a7) := atD_get (i := 7) rfl
theorem atD_8 : atD (a0 :: a1 :: a2 :: a3 :: a4 :: a5 :: a6 :: a7 :: a8 :: ds) 8 = .ret (.val a8) := atD_get (i := 8) rfl
end
/-! displays -/
theorem datas_n : datas [] = some [] := (rfl)
theorem datas_v {d : PyData} {cs : List C} : datas (.val d :: cs) = (datas cs).map (d :: ·) := (rfl)
theorem mp_some {δ ε : Type} {f : δ → ε} {x : δ} : Option.map f (some x) = some (f x) := (rfl)
def kTup : Option (List PyData) → M C
  | some ds => if lenOk ds.length = true then .ret (.val (.tuple ds)) else .fail
  | none => .fail
def kLst : Option (List PyData) → M C
  | some ds => if lenOk ds.length = true then .ret (.own (.lst ds)) else .fail
  | none => .fail
theorem oTup_eq {cs : List C} : oTup cs = kTup (datas cs) := (rfl)
theorem oLst_eq {cs : List C} : oLst cs = kLst (datas cs) := (rfl)
theorem kTup_s {ds : List PyData} : kTup (some ds) = if lenOk ds.length = true then .ret (.val (.tuple ds)) else .fail := (rfl)
theorem kLst_s {ds : List PyData} : kLst (some ds) = if lenOk ds.length = true then .ret (.own (.lst ds)) else .fail := (rfl)
theorem len_n : ([] : List PyData).length = 0 := (rfl)
theorem len_c {d : PyData} {ds : List PyData} : (d :: ds).length = ds.length + 1 := (rfl)
/-! built in -/
theorem o1_v {f : PyData → M C} {d : PyData} : o1 f [.val d] = f d := (rfl)
theorem o1_o {f : PyData → M C} {ds : List PyData} : o1 f [.own (.lst ds)] = f (.list ds) := (rfl)
theorem o1_b {f : PyData → M C} {ds : List PyData} : o1 f [.bor (.lst ds)] = f (.list ds) := (rfl)
theorem lenD_t {ds : List PyData} : lenD (.tuple ds) = .ret (.val (.int ds.length)) := (rfl)
theorem lenD_l {ds : List PyData} : lenD (.list ds) = .ret (.val (.int ds.length)) := (rfl)
theorem lenD_s {z : Str} : lenD (.str z) = if lenOk z.length = true then .ret (.val (.int z.length)) else .fail := (rfl)
theorem absD_i {i : Int} : absD (.int i) = .ret (.val (.int (i.natAbs : Int))) := by
  show M.ret (C.val (.int (if i < 0 then -i else i))) = _
  rw [show (if i < 0 then -i else i) = (i.natAbs : Int) by split <;> omega]
theorem intD_i {i : Int} : intD (.int i) = .ret (.val (.int i)) := (rfl)
theorem intD_b {b : Bool} : intD (.bool b) = .ret (.val (.int (if b then 1 else 0))) := (rfl)
theorem oMax2_i {i j : Int} : oMax2 [.val (.int i), .val (.int j)] = .ret (.val (.int (max i j))) := (rfl)
theorem oMin2_i {i j : Int} : oMin2 [.val (.int i), .val (.int j)] = .ret (.val (.int (min i j))) := (rfl)
theorem oGcd_i {i j : Int} : oGcd [.val (.int i), .val (.int j)] = .ret (.val (.int ((Nat.gcd i.natAbs j.natAbs : Nat) : Int))) := (rfl)
theorem oListC_t {ds : List PyData} : oListC [.val (.tuple ds)] = .ret (.own (.lst ds)) := (rfl)
theorem oListC_o {ds : List PyData} : oListC [.own (.lst ds)] = .ret (.own (.lst ds)) := (rfl)
theorem oListC_b {ds : List PyData} : oListC [.bor (.lst ds)] = .ret (.own (.lst ds)) := (rfl)
theorem oTupC_t {ds : List PyData} : oTupC [.val (.tuple ds)] = .ret (.val (.tuple ds)) := (rfl)
theorem oTupC_o {ds : List PyData} : oTupC [.own (.lst ds)] = .ret (.val (.tuple ds)) := (rfl)
theorem oTupC_b {ds : List PyData} : oTupC [.bor (.lst ds)] = .ret (.val (.tuple ds)) := (rfl)
theorem repr_ok {d : PyData} (h : RepOk d) : repD1 d = .ret (.val (.str d.shown)) := by
  refine if_pos ?_
  obtain ⟨h1, h2, h3⟩ := h
  unfold repOk
  rw [h1, decide_eq_true h2, decide_eq_true (by rw [show sizeLine = 16777216 by decide] at h3; exact h3)]
  rfl
theorem bigD_l {f : List Bool → Bool} {bs : List Bool} : bigD f (.list (bs.map .bool)) = .ret (.val (.bool (f bs))) := by
  unfold bigD
  dsimp only
  rw [blsOf_map]
theorem isi_bi : isiT "int" (some "bool") = .ret (.val (.bool true)) := by unfold isiT; dsimp only; rw [kit_bool_int]
theorem isi_ii : isiT "int" (some "int") = .ret (.val (.bool true)) := by unfold isiT; dsimp only; rw [kit_int_int]
theorem isi_ib : isiT "bool" (some "int") = .ret (.val (.bool false)) := by unfold isiT; dsimp only; rw [kit_int_bool]
theorem isi_bb : isiT "bool" (some "bool") = .ret (.val (.bool true)) := by unfold isiT; dsimp only; rw [kit_bool_bool]
theorem isi_ni : isiT "int" (some "NoneType") = .ret (.val (.bool false)) := by unfold isiT; dsimp only; rw [kit_none_int]
theorem isi_ss : isiT "str" (some "str") = .ret (.val (.bool true)) := by unfold isiT; dsimp only; rw [kit_str_str]
theorem isi_nb : isiT "bool" (some "NoneType") = .ret (.val (.bool false)) := by unfold isiT; dsimp only; rw [kit_none_bool]
theorem oIsi_v {T : String} {d : PyData} : oIsi T (.val d) = isiT T (tyD d) := (rfl)
theorem tyD_b {b : Bool} : tyD (.bool b) = some "bool" := (rfl)
theorem tyD_i {b : Int} : tyD (.int b) = some "int" := (rfl)
theorem tyD_s {b : Str} : tyD (.str b) = some "str" := (rfl)
theorem tyD_n : tyD .none = some "NoneType" := (rfl)
theorem oIsX_n {n : Bool} {a : C} : oIsX n a (.val .none) = .ret (.val (.bool (n ^^ a.isN))) := by
  cases a with
  | val d => cases d <;> rfl
  | own _ => rfl
  | bor _ => rfl
  | tape => rfl
theorem oIsX_b {n a b : Bool} : oIsX n (.val (.bool a)) (.val (.bool b)) = .ret (.val (.bool (n ^^ decide (a = b)))) := (rfl)
theorem isN_n : C.isN (.val .none) = true := (rfl)
theorem isN_i {i : Int} : C.isN (.val (.int i)) = false := (rfl)
theorem isN_b {i : Bool} : C.isN (.val (.bool i)) = false := (rfl)
theorem isN_s {i : Str} : C.isN (.val (.str i)) = false := (rfl)
theorem isN_t {i : List PyData} : C.isN (.val (.tuple i)) = false := (rfl)
/-! draws -/
theorem wp_drawn {m : Int} {k : C → M α} {Q : α → Prop} (hm : m ≤ 1000000000) (q : ∀ v, 0 ≤ v → v < max m 1 → wp (k (.val (.int v))) Q) : wp ((drawC [.tape, .val (.int m)]).bind k) Q := by
  have e : drawC [.tape, .val (.int m)] = .draw m fun v => .ret (.val (.int v)) := if_pos (decide_eq_true hm)
  rw [e, drawB, wp_drawE]
  exact q
/-- a drawn one out of a row -/
theorem wp_pick {ds : List PyData} {i : Int} {k : C → M α} {Q : α → Prop} (h0 : 0 ≤ i) (h1 : i < ds.length) (q : ∀ d, d ∈ ds → wp (k (.val d)) Q) : wp ((atD ds i).bind k) Q := by
  have hl : i.toNat < ds.length := by omega
  rw [atD_int h0 (List.getElem?_eq_getElem hl), retB]
  exact q _ (List.getElem_mem hl)
def rng (k : Int) (i : Int) : Bool := decide (-k ≤ i) && decide (i ≤ k)
def smB (k : Int) : PyData → Bool
  | .int i => rng k i
  | _ => false
theorem wp_pickI (m : Int) {ds : List PyData} {i : Int} {k : C → M α} {Q : α → Prop} (hs : ds.all (smB m) = true) (h0 : 0 ≤ i) (h1 : i < ds.length) (q : ∀ j : Int, -m ≤ j → j ≤ m → wp (k (.val (.int j))) Q) : wp ((atD ds i).bind k) Q :=
  wp_pick h0 h1 fun d hd => by
    have := List.all_eq_true.mp hs d hd
    cases d with
    | int j =>
      simp only [smB, rng, Bool.and_eq_true, decide_eq_true_eq] at this
      exact q j this.1 this.2
    | _ => cases this
/-! bounds -/
theorem small_log {i : Int} {k : Nat} (hk : k ≠ 0) (h : i.natAbs < 2 ^ k) : i.natAbs.log2 < k := by
  by_cases h0 : i.natAbs = 0
  · rw [h0]; simp; omega
  · exact (Nat.log2_lt h0).mpr h
theorem cMul_ok {i j : Int} (k l : Nat) (hk : k ≠ 0) (hl : l ≠ 0) (h : k + l ≤ 1000000) (hi : i.natAbs < 2 ^ k) (hj : j.natAbs < 2 ^ l) : cMul i j = true := by
  have h1 := small_log hk hi
  have h2 := small_log hl hj
  exact decide_eq_true (by omega)
theorem cDiv_ok {i j : Int} (k : Nat) (hk : k ≠ 0) (h : k ≤ 9000) (h0 : 0 < j) (hj : j.natAbs < 2 ^ k) : cDiv i j = true := by
  have h2 := small_log hk hj
  unfold cDiv
  rw [decide_eq_true h0, decide_eq_true (by omega)]
  rfl
theorem cMod_ok {i j : Int} (h0 : 0 < j) : cMod i j = true := decide_eq_true h0
theorem rngOk_ok {i : Int} (h1 : -4611686018427387904 ≤ i) (h2 : i < 4611686018427387904) : rngOk i = true := by
  unfold rngOk
  rw [decide_eq_true h1, decide_eq_true h2]
  rfl
theorem lenOk_ok {n : Nat} (h : n ≤ 16777216) : lenOk n = true := decide_eq_true h
theorem rngD_len {lo c : Int} {n : Nat} : (rngD lo c n).length = n := by unfold rngD; rw [List.length_map, List.length_range]
end Cs

set_option maxRecDepth 100000
set_option maxHeartbeats 4000000
/-! a word of one's own at a join -/
namespace Cs
open PySem PySem.Spec PyProof.Rows L2
def Jn (P : Ro → Prop) (Q : Res → Prop) : Res → Prop
  | .nx ρ => P ρ
  | .rt c => Q (.rt c)
  | .bk ρ => Q (.bk ρ)
  | .ct ρ => Q (.ct ρ)
theorem wp_seqJ (P : Ro → Prop) {m n : Ro → M Res} {ρ : Ro} {Q : Res → Prop} (h1 : wp (m ρ) (Jn P Q)) (h2 : ∀ ρ', P ρ' → wp (n ρ') Q) : wp (mSeq m n ρ) Q := by
  rw [mSeq_eq]
  refine wp_call _ h1 fun r hr => ?_
  cases r with
  | nx ρ' => rw [kSeq_nx]; exact h2 _ hr
  | rt c => rw [kSeq_rt, wp_retE]; exact hr
  | bk ρ' => rw [kSeq_bk, wp_retE]; exact hr
  | ct ρ' => rw [kSeq_ct, wp_retE]; exact hr
theorem out_ok {c : C} {Q : C → Prop} (h : Q c) : wp (Res.out (.rt c)) Q := by rw [out_rt, wp_retE]; exact h
/-- behind a turn of a loop -/
def Fp (P : Ro → Prop) (Q : Res → Prop) : Res → Prop
  | .nx ρ => P ρ
  | .ct ρ => P ρ
  | .bk ρ => Q (.nx ρ)
  | .rt c => Q (.rt c)
theorem wp_over {δ : Type} (enc : δ → PyData) (I : List δ → Ro → Prop) {a : C → Ro → M Ro} {b : Ro → M Res} {Q : Res → Prop} (hn : ∀ ρ, I [] ρ → Q (.nx ρ)) (hc : ∀ d ds ρ, I (d :: ds) ρ → wp ((a (.val (enc d)) ρ).bind b) (Fp (I ds) Q)) : ∀ {ds : List δ} {ρ : Ro}, I ds ρ → wp (forL a b (ds.map enc) ρ) Q
  | [], ρ, h => by rw [List.map_nil, forL_nil, wp_retE]; exact hn ρ h
  | d :: ds, ρ, h => by
    rw [List.map_cons, forL_cons, ← bind_bind]
    refine wp_call _ (hc d ds ρ h) fun r hr => ?_
    cases r with
    | nx ρ' => rw [kFor_nx]; exact wp_over enc I hn hc hr
    | ct ρ' => rw [kFor_ct]; exact wp_over enc I hn hc hr
    | bk ρ' => rw [kFor_bk, wp_retE]; exact hr
    | rt c => rw [kFor_rt, wp_retE]; exact hr
/-- a def's run, its result named -/
theorem wp_fn {n k : Nat} {m : Ro → M Res} {cs : List C} {Q : C → Prop} (h : cs.length = n) (q : wp (m (cs.map some ++ List.replicate k none)) (fun r => wp (Res.out r) Q)) : wp (fnU n k m cs) Q := by
  rw [fnU_0 h]
  exact wp_bind.mpr q
end Cs

set_option maxRecDepth 100000
set_option maxHeartbeats 1000000
/-! reversed(e), a global text, in -/
namespace Cs
open PySem PySem.Spec PyProof.Rows L2
section
variable {tp : Option (Addr × Addr)} {K : PySem.W.Frag} {H H' H'' H0 H1 He Hq : Hp} {σ : L2.St} {ρ : Ro}
def revD : C → M (List PyData)
  | .val (.tuple ds) => .ret ds.reverse
  | _ => .fail
def gRev (g : Ro → M C) (ρ : Ro) : M (List PyData) := (g ρ).bind revD
theorem ri_rev {te : TE} {g : Ro → M C} {s : Bool} (h1 : RE K te g) : RI K s (RT.iRevA K te) (gRev g) := by
  intro tp He Hq ρ σ H Q r h
  refine h1 tp He Hq ρ σ H _ r (wp0_mono (fun c hc => ?_) (wp0_bind.mp h))
  intro x H1 g1 t1 rx
  unfold revD at hc
  split at hc
  · rename_i ds
    obtain ⟨a, vs, rfl, q1, q2, q3⟩ := rx.tup
    exact ⟨a, vs, rfl, .inr ⟨q1, hc _ H1 [] g1 t1 (lf_rev q3) (wk_revT q1 q2 q3) (fun _ m => by simp at m) (fun _ _ _ _ m => by simp at m)⟩⟩
  · exact hc.elim
theorem gRev_eq {g : Ro → M C} : gRev g ρ = (g ρ).bind revD := (rfl)
theorem revD_t {ds : List PyData} : revD (.val (.tuple ds)) = .ret ds.reverse := (rfl)
end
theorem pe_globS {X : Cx} {x z : Str} {pos : Pos} (hg : Gl X x) (hm : ∃ t, X.mg x = some (.str z t)) (hd : (x == ("__debug__" : Str)) = false := by decide) : PE X (.Name x pos) (tC (.str z)) := by
  obtain ⟨t, hm⟩ := hm
  exact pe_glob hg hm ⟨t, rfl⟩ hd
/-! in, of data -/
theorem oIn_l {d : PyData} {ds : List PyData} (h1 : SeqAt.shaped d = true) (h2 : SeqAt.shaped (.list ds) = true) (hs : ∀ z, d ≠ .str z) : oIn (.val d) (.bor (.lst ds)) = .ret (.val (.bool (ds.any fun z => PyData.eqv z d))) := by
  have e : oIn (.val d) (.bor (.lst ds)) = oInD false d ds := by
    show oInX false (some d) (some (.list ds)) = _
    cases d <;> first | rfl | exact absurd rfl (hs _)
  rw [e]
  unfold oInD
  rw [if_pos (by rw [h1, h2]; rfl), Bool.false_xor]
end Cs

set_option maxRecDepth 100000
set_option maxHeartbeats 1000000
/-! what is never reached; isinstance of tuples and lists -/
namespace Cs
open PySem PySem.Spec PyProof.Rows L2
section
variable {tp : Option (Addr × Addr)} {K : PySem.W.Frag} {H H' H'' H0 H1 He Hq : Hp} {σ : L2.St} {ρ : Ro}
def tFe : TE := fun _ _ _ => False
def tFt : TT := fun _ _ _ => False
def tFs : TS := fun _ _ _ => False
def gF (_ : Ro) : M C := .fail
def gFt (_ : Ro) : M Bool := .fail
def mF (_ : Ro) : M Res := .fail
theorem pe_F {X : Cx} {e : Expr} : PE X e tFe := ⟨fun _ _ _ _ _ _ h => h.elim⟩
theorem pt_F {X : Cx} {e : Expr} : PT X e tFt := ⟨fun _ _ _ _ _ _ h => h.elim⟩
theorem ps_F {X : Cx} {e : Stmt} : PS X e tFs := ⟨fun _ _ _ _ _ _ h => h.elim⟩
theorem pss_F {X : Cx} {e : List Stmt} : PSs X e tFs := ⟨fun _ _ _ _ _ _ h => h.elim⟩
theorem re_F : RE K tFe gF := fun _ _ _ _ _ _ _ _ h => h.elim
theorem rt_F : RT K tFt gFt := fun _ _ _ _ _ _ _ _ h => h.elim
theorem rs_F : RS K tFs mF := fun _ _ _ _ _ _ _ _ h => h.elim
theorem gF_eq : gF ρ = .fail := (rfl)
theorem gFt_eq : gFt ρ = .fail := (rfl)
theorem mF_eq : mF ρ = .fail := (rfl)
theorem mOrCt {m : M C} {c : C} : mOrC true m c = .ret c := (rfl)
theorem mOrCf {m : M C} {c : C} : mOrC false m c = m := (rfl)
theorem mAndCt {m : M C} {c : C} : mAndC true m c = m := (rfl)
theorem mAndCf {m : M C} {c : C} : mAndC false m c = .ret c := (rfl)
/-! isinstance of anything -/
def tyX : PyData → Option String
  | .none => some "NoneType"
  | .bool _ => some "bool"
  | .int _ => some "int"
  | .str _ => some "str"
  | .tuple _ => some "tuple"
  | _ => none
def oIsiX (T : String) : C → M C
  | .val d => isiT T (tyX d)
  | _ => .fail
theorem re_isiX {T : String} {ta : TE} {g : Ro → M C} (h1 : RE K ta g) : RE K (tCB (rIsi K) (tCons ta (tCons (tC (.ty T)) tNil))) (gUn (oIsiX T) g) := by
  intro tp He Hq ρ σ H Q r h
  refine h1 tp He Hq ρ σ H _ r (wp0_mono (fun c hc => ?_) (wp0_bind.mp h))
  intro x H1 g1 t1 rx
  cases c with
  | val d =>
    have key : ∀ {s : String}, TyX K H1 x (.type s) → wp0 (isiT T (some s)) (Post tp K H Q) → rIsi K [x, .ty T] H1 Q := fun {s} ty h => by
      unfold isiT at h
      dsimp only at h
      split at h
      · rename_i b e
        exact ⟨x, .ty T, .type s, .type T, b, rfl, .ty T, ty, kit_ty e, Post.bl h g1 t1⟩
      · exact h.elim
    obtain ⟨hd, _⟩ := rx
    cases hd with
    | non => exact key (.base .non) hc
    | bl b => exact key (.base (.bl b)) hc
    | int i => exact key (.base (.int i)) hc
    | str s => exact key (.base (.str s)) hc
    | lst _ _ => exact hc.elim
    | tup hs _ => exact key (s := "tuple") (.base (.tup hs)) hc
  | own o => exact hc.elim
  | bor o => exact hc.elim
  | tape => exact hc.elim
theorem kitX_tuple_str : kitB "tuple" "str" = some false := by decide +kernel
theorem kitX_tuple_bool : kitB "tuple" "bool" = some false := by decide +kernel
theorem kitX_tuple_int : kitB "tuple" "int" = some false := by decide +kernel
theorem kitX_tuple_tuple : kitB "tuple" "tuple" = some true := by decide +kernel
theorem kitX_str_tuple : kitB "str" "tuple" = some false := by decide +kernel
theorem kitX_str_bool : kitB "str" "bool" = some false := by decide +kernel
theorem kitX_str_int : kitB "str" "int" = some false := by decide +kernel
theorem kitX_bool_str : kitB "bool" "str" = some false := by decide +kernel
theorem kitX_bool_tuple : kitB "bool" "tuple" = some false := by decide +kernel
theorem kitX_int_str : kitB "int" "str" = some false := by decide +kernel
theorem kitX_int_tuple : kitB "int" "tuple" = some false := by decide +kernel
theorem kitX_none_str : kitB "NoneType" "str" = some false := by decide +kernel
theorem kitX_none_tuple : kitB "NoneType" "tuple" = some false := by decide +kernel
theorem oIsiX_v {T : String} {d : PyData} : oIsiX T (.val d) = isiT T (tyX d) := (rfl)
theorem tyX_b {b : Bool} : tyX (.bool b) = some "bool" := (rfl)
theorem tyX_i {b : Int} : tyX (.int b) = some "int" := (rfl)
theorem tyX_s {b : Str} : tyX (.str b) = some "str" := (rfl)
theorem tyX_n : tyX .none = some "NoneType" := (rfl)
theorem tyX_t {b : List PyData} : tyX (.tuple b) = some "tuple" := (rfl)
theorem isiX_ts : isiT "str" (some "tuple") = .ret (.val (.bool false)) := by unfold isiT; dsimp only; rw [kitX_tuple_str]
theorem isiX_tb : isiT "bool" (some "tuple") = .ret (.val (.bool false)) := by unfold isiT; dsimp only; rw [kitX_tuple_bool]
theorem isiX_ti : isiT "int" (some "tuple") = .ret (.val (.bool false)) := by unfold isiT; dsimp only; rw [kitX_tuple_int]
theorem isiX_tt : isiT "tuple" (some "tuple") = .ret (.val (.bool true)) := by unfold isiT; dsimp only; rw [kitX_tuple_tuple]
theorem isiX_st : isiT "tuple" (some "str") = .ret (.val (.bool false)) := by unfold isiT; dsimp only; rw [kitX_str_tuple]
theorem isiX_sb : isiT "bool" (some "str") = .ret (.val (.bool false)) := by unfold isiT; dsimp only; rw [kitX_str_bool]
theorem isiX_si : isiT "int" (some "str") = .ret (.val (.bool false)) := by unfold isiT; dsimp only; rw [kitX_str_int]
theorem isiX_bs : isiT "str" (some "bool") = .ret (.val (.bool false)) := by unfold isiT; dsimp only; rw [kitX_bool_str]
theorem isiX_bt : isiT "tuple" (some "bool") = .ret (.val (.bool false)) := by unfold isiT; dsimp only; rw [kitX_bool_tuple]
theorem isiX_is : isiT "str" (some "int") = .ret (.val (.bool false)) := by unfold isiT; dsimp only; rw [kitX_int_str]
theorem isiX_it : isiT "tuple" (some "int") = .ret (.val (.bool false)) := by unfold isiT; dsimp only; rw [kitX_int_tuple]
theorem isiX_ns : isiT "str" (some "NoneType") = .ret (.val (.bool false)) := by unfold isiT; dsimp only; rw [kitX_none_str]
theorem isiX_nt : isiT "tuple" (some "NoneType") = .ret (.val (.bool false)) := by unfold isiT; dsimp only; rw [kitX_none_tuple]
end
end Cs

set_option maxRecDepth 100000
set_option maxHeartbeats 1000000
/-! sorted of a tuple of ints; lists unpacked -/
namespace Cs
open PySem PySem.Spec PyProof.Rows L2
section
variable {prog : Program} {w : World} {A : Around} {E : Value → Shared → Prop} {s : Shared}
theorem collect_tupl {l : Addr} {vs : List Value} {Q : List Value → Shared → Prop} (hl : s.heap.IsTuple l vs.toArray)
    (h : Q vs { s with heap := (s.heap.push (seqObj "list" #[] 0)).update s.heap.objs.size (Obj.mapSeq (· ++ vs.toArray)) }) (hsz : vs.length ≤ sizeLine := by size_fits) :
    wpAny (model prog w) A (collect (.ref l)) Q E s := by
  obtain ⟨o, ho, hc, n, hd⟩ := id hl
  unfold collect
  refine wpAny_bind (wpAny_runValue (codeAny_builtin entry_proto_collect' ?_))
  show wpAny _ _ (do again (.builtin "list.__iadd__" ⟨[← newList [], .ref l], []⟩)) _ _ s
  refine wpAny_bind (wpAny_newList (wpAny_pure ⟨Code.quiet_builtin _ (by decide +kernel), codeAny_builtin entry_list_iadd' ?_⟩))
  show wpAny _ _ (Builtin.List.listExtendWith (.ref s.heap.objs.size) (.ref l) (.ref s.heap.objs.size)) _ _ { s with heap := s.heap.push (seqObj "list" #[] 0) }
  unfold Builtin.List.listExtendWith
  have ho' : (s.heap.push (seqObj "list" #[] 0)).get? l = some o := Heap.get?_push_of_some _ ho
  refine wpAny_bind (wpAny_typeOf (T := "tuple") ⟨o, ho', hc⟩ ?_)
  have ht : (Value.type "tuple" == Value.type "tuple") = true := by rfl
  rw [if_pos (by rw [ht]; simp)]
  refine wpAny_bind (listItems_at ho' hd ?_)
  refine wpAny_bind (listItems_at (xs := #[]) (n := 0) (Heap.get?_push_size _ rfl) rfl ?_)
  rw [if_neg (by simp)]
  refine wpAny_bind (listUpdate_at (xs := #[]) (n := 0) (Heap.get?_push_size _ rfl) rfl ?_ (Nat.zero_le _) (by show (#[] ++ vs.toArray).size ≤ sizeLine + 1; simp only [Array.size_append, List.size_toArray, List.length_nil]; omega))
  refine wpAny_pure ?_
  show wpAny (model prog w) A (do
      let o ← load s.heap.objs.size
      match o.data with
      | .seq xs _ => pure xs.toList
      | _ => unsupported "internal:collect") Q E { s with heap := (s.heap.push (seqObj "list" #[] 0)).update s.heap.objs.size (Obj.mapSeq (· ++ vs.toArray)) }
  refine wpAny_bind (wpAny_load (get?_update_seq (Heap.get?_push_size _ rfl) _) ?_)
  show wpAny _ _ (pure ((#[] : Array Value) ++ vs.toArray).toList) Q E _
  rw [show ((#[] : Array Value) ++ vs.toArray).toList = vs by simp]
  exact wpAny_pure h
theorem sorted_tupl {l : Addr} {vs : List Value} {ns : List Int} {Q : Value → Shared → Prop} (hl : s.heap.IsTuple l vs.toArray) (hI : IntsAre vs ns) (h64 : vs.length < 64)
    (h : ∀ (out : Array Value) (ns' : List Int), IntsAre out.toList ns' → ns'.Perm ns → ns'.Pairwise (· ≤ ·) → Q (.ref (s.heap.objs.size + 1)) { s with heap := sortedAll s.heap vs out }) :
    wpAny (model prog w) A (call (.builtin "sorted") [.ref l]) Q E s := by
  refine Calls.call_function_entry kind_sorted plain_sorted entry_sorted (args_sorted1 _) ?_
  unfold Builtin.«sorted»
  refine wpAny_bind (m := checkCount "sorted" 1 1 _) (wpAny_pure ?_)
  refine wpAny_bind (collect_tupl hl ?_ (small64 h64))
  refine wpAny_bind (wpAny_newList ?_)
  have hsz : ((s.heap.push (seqObj "list" #[] 0)).update s.heap.objs.size (Obj.mapSeq (· ++ vs.toArray))).objs.size = s.heap.objs.size + 1 := by
    rw [Heap.size_update, size_push']
  have hoL : (((s.heap.push (seqObj "list" #[] 0)).update s.heap.objs.size (Obj.mapSeq (· ++ vs.toArray))).push (seqObj "list" vs.toArray 0)).get? (s.heap.objs.size + 1) = some (seqObj "list" vs.toArray 0) := by
    rw [← hsz]; exact Heap.get?_push_size _ rfl
  show wpAny _ _ _ _ _ { s with heap := ((s.heap.push (seqObj "list" #[] 0)).update s.heap.objs.size (Obj.mapSeq (· ++ vs.toArray))).push (seqObj "list" vs.toArray 0) }
  rw [hsz]
  refine wpAny_bind (wpAny_holding (wpAny_call_entry slot_list_sort ⟨_, hoL, rfl⟩ entry_list_sort (list_sort_tree hoL hI h64 fun out ns' a1 a2 a3 => ⟨_, rfl, ?_⟩) (args_list_sort _)))
  exact wpAny_pure ⟨_, rfl, h out ns' a1 a2 a3⟩
end
def rSortU (K : PySem.W.Frag) : List V → Hp → VK → Prop := fun vs H Q => ∃ (a : Addr) (ns : List Int), vs = [V.ref a] ∧ (SqL K H a (ns.map V.int) ∨ SqT K H a (ns.map V.int)) ∧ ns.length < 64 ∧
  ∀ (ns' : List Int) (p : Addr), ns'.Perm ns → ns'.Pairwise (· ≤ ·) → H p = none → Q (.ref p) (upd H p (.lst (ns'.map V.int)))
theorem sortU (K : PySem.W.Frag) {X : Cx} (h : X.K = K := by rfl) : CallR X (.builtin "sorted") (rSortU K) := by
  subst h
  intro pins s σ H vs us Q I r h
  obtain ⟨a, ns, rfl, hs, h64, q⟩ := h
  rcases hs with hs | hs
  · exact cr_sorted pins s σ H _ us Q I r ⟨a, ns, rfl, hs, h64, q⟩
  · obtain ⟨its, rv, hl, _⟩ := I.tuple hs
    rw [Vals.ref1 r]
    have hi := rv.ints
    refine sorted_tupl (show s.heap.IsTuple a its.toArray from hl) hi (by rw [hi.length]; exact h64) fun out ns' h1 h2 h3 => ?_
    obtain ⟨ep, he'⟩ := PyProof.Rows.sortedAll_at s.heap its out
    have hlen : (ns'.map V.int).length ≤ sizeLine := by rw [List.length_map, h2.length_eq]; exact small64 h64
    exact ⟨.ref _, upd H (s.heap.objs.size + 1) (.lst (ns'.map V.int)), I.laid (t' := s.toks) (fun _ _ => PyProof.Rows.sortedAll_old) (Nat.le_succ _) ⟨hlen, out.toList, ep, vals_of_ints h1, he'⟩, rfl, q ns' _ h2 h3 (I.hok.fresh (Nat.le_succ _))⟩
section
variable {tp : Option (Addr × Addr)} {K : PySem.W.Frag} {H H' H'' H0 H1 He Hq : Hp} {σ : L2.St} {ρ : Ro}
def srtK : PyData → M C
  | .list ds => .ret (.own (.lst ds))
  | _ => .fail
def srtI (ns : List Int) : M C := if ns.length < 64 then .any (fun d => ∃ ns' : List Int, ns'.Perm ns ∧ ns'.Pairwise (· ≤ ·) ∧ d = .list (ns'.map .int)) srtK else .fail
def srtD : PyData → M C
  | .list ds => match intsOf ds with
    | some ns => srtI ns
    | none => .fail
  | .tuple ds => match intsOf ds with
    | some ns => srtI ns
    | none => .fail
  | _ => .fail
abbrev oSort := o1 srtD
theorem cs_sort : CallS K (rSortU K) oSort := by
  intro tp H0 H vs cs Q g t r h
  obtain ⟨v, d, rfl, hd, h⟩ := o1_ok r h
  have fin : ∀ {ns : List Int} {vs : List V} {a : Addr}, vs = ns.map V.int → (SqL K H a vs ∨ SqT K H a vs) → wp0 (srtI ns) (Post tp K H0 Q) → rSortU K [.ref a] H Q := by
    intro ns vs a e hs h
    subst e
    unfold srtI at h
    split at h
    · rename_i h64
      exact ⟨a, ns, rfl, hs, h64, fun ns' p hp hw hn => Post.lst (h _ ⟨ns', hp, hw, rfl⟩) g t hn (.ofInts ns') (lfAll_iff.mpr fun d m => by obtain ⟨i, _, rfl⟩ := List.mem_map.mp m; rfl)⟩
    · exact h.elim
  unfold srtD at h
  split at h
  · split at h
    · rename_i ns e
      cases hd with
      | lst hs ha => exact fin (intsOf_dp ha e) (.inl hs) h
    · exact h.elim
  · split at h
    · rename_i ns e
      cases hd with
      | tup hs ha => exact fin (intsOf_dp ha e) (.inr hs) h
    · exact h.elim
  · exact h.elim
theorem srtD_l {ns : List Int} : srtD (.list (ns.map .int)) = srtI ns := by unfold srtD; dsimp only; rw [intsOf_map]
theorem srtD_t {ns : List Int} : srtD (.tuple (ns.map .int)) = srtI ns := by unfold srtD; dsimp only; rw [intsOf_map]
/-! a list unpacked -/
def aUnl (n : Nat) (as : List PyData → Ro → M Ro) : C → Ro → M Ro
  | .own (.lst ds), ρ => if ds.length = n then as ds ρ else .fail
  | .bor (.lst ds), ρ => if ds.length = n then as ds ρ else .fail
  | _, _ => .fail
theorem rg_unl {n : Nat} {gs : TGs} {as : List PyData → Ro → M Ro} {sl : List Nat} (h2 : RGs K gs as sl) : RG K (gUnl K n gs) (aUnl n as) sl := by
  intro tp He Hq ρ σ Hb H v c Q r g t rc h
  unfold aUnl at h
  split at h
  · rename_i ds
    obtain ⟨a, e, _, _, vs, q1, q2, q3⟩ := rc
    split at h
    · rename_i l
      exact ⟨a, vs, e, SqL.of q1, by rw [q2.len]; exact l, h2 tp He Hq ρ σ H vs ds Q (r.go g t) q2 q3 h⟩
    · exact h.elim
  · rename_i ds
    obtain ⟨a, e, vs, q1, q2, q3⟩ := rc
    split at h
    · rename_i l
      exact ⟨a, vs, e, q1.sq, by rw [q2.len]; exact l, h2 tp He Hq ρ σ H vs ds Q (r.go g t) q2 q3 h⟩
    · exact h.elim
  · exact h.elim
theorem aUnl_o {n : Nat} {as : List PyData → Ro → M Ro} {ds : List PyData} : aUnl n as (.own (.lst ds)) ρ = if ds.length = n then as ds ρ else .fail := (rfl)
theorem aUnl_b {n : Nat} {as : List PyData → Ro → M Ro} {ds : List PyData} : aUnl n as (.bor (.lst ds)) ρ = if ds.length = n then as ds ρ else .fail := (rfl)
/-! zip of two tuples -/
def zipT (xs ys : List PyData) : List PyData := (xs.zip ys).map fun p => .tuple [p.1, p.2]
def zipD : List C → M (List PyData)
  | [.val (.tuple xs), .val (.tuple ys)] => .ret (zipT xs ys)
  | _ => .fail
def gZip (gs : Ro → M (List C)) (ρ : Ro) : M (List PyData) := (gs ρ).bind zipD
theorem gZip_eq {gs : Ro → M (List C)} : gZip gs ρ = (gs ρ).bind zipD := (rfl)
theorem zipD_t {xs ys : List PyData} : zipD [.val (.tuple xs), .val (.tuple ys)] = .ret (zipT xs ys) := (rfl)
theorem lf_zip {xs ys : List PyData} (f : lfAll xs = true) (g : lfAll ys = true) : lfAll (zipT xs ys) = true := rfl
theorem wk_zipT {a b : Addr} {vs us : List V} {xs ys : List PyData} (h : SqT K H1 a vs) (h' : SqT K H1 b us) (hd : VlAll K H1 vs xs) (hd' : VlAll K H1 us ys) (f : lfAll xs = true) (f' : lfAll ys = true) : Wk K H1 (RZ.ItzT K a b) [] (zipT xs ys) := by
  intro H' im kp
  have hs := im.sqT h
  have hs' := im.sqT h'
  have e1 := hd.imlf im xs _ f
  have e2 := hd'.imlf im ys _ f'
  refine ⟨⟨vs, us, hs, hs', ?_⟩, fun i d e => ?_⟩
  · rw [hd.len, hd'.len]
    unfold zipT
    rw [List.length_map, List.length_zip]
    omega
  · unfold zipT at e
    rw [List.getElem?_map] at e
    cases q : (xs.zip ys)[i]? with
    | none => rw [q] at e; cases e
    | some p =>
      rw [q] at e
      obtain ⟨x, y⟩ := p
      cases e
      obtain ⟨q1, q2⟩ := List.getElem?_zip_eq_some.mp q
      obtain ⟨v, v1, v2⟩ := e1.get q1
      obtain ⟨u, u1, u2⟩ := e2.get q2
      refine ⟨⟨vs, us, v, u, hs, hs', v1, u1⟩, fun z H'' yl => ?_⟩
      obtain ⟨T, x', y', rfl, hT, rfl, g1, g2⟩ := yl
      have := g1 vs hs
      rw [v1] at this
      cases this
      have := g2 us hs'
      rw [u1] at this
      cases this
      have fx := lfAll_get f q1
      have fy := lfAll_get f' q2
      have im2 : Im H' (upd H' T (.tup [v, u])) := Im.new hT
      exact ⟨Same.new hT, .tup upd_same (.cons (v2.imlf im2 x _ fx) (.cons (u2.imlf im2 y _ fy) .nil))⟩
theorem ri_zip {ta : TA} {gs : Ro → M (List C)} {s : Bool} (h1 : RA K ta gs) : RI K s (RZ.iZipA K ta) (gZip gs) := by
  intro tp He Hq ρ σ H Q r h
  refine h1 tp He Hq ρ σ H _ r (wp0_mono (fun c hc => ?_) (wp0_bind.mp h))
  intro vs H1 g1 t1 rx
  unfold zipD at hc
  split at hc
  · rename_i xs ys
    obtain ⟨v, u, rfl, r1, r2⟩ := rx.two
    obtain ⟨a, vs, rfl, q1, q2, q3⟩ := r1.tup
    obtain ⟨b, us, rfl, p1, p2, p3⟩ := r2.tup
    exact ⟨a, b, vs, us, rfl, .inr ⟨q1, p1, hc _ H1 [] g1 t1 (lf_zip q3 p3) (wk_zipT q1 p1 q2 p2 q3 p3) (fun _ m => by simp at m) (fun _ _ _ _ m => by simp at m)⟩⟩
  · exact hc.elim
/-! < of ints, bools, texts -/
def rLtU : R2 := fun x y H Q => rI0 (fun i j => .bl (decide (i < j))) x y H Q ∨ (∃ i j, x = .str i ∧ y = .str j ∧ Q (.bl (decide (i.cps.toList < j.cps.toList))) H) ∨ ∃ p q, x = .bl p ∧ y = .bl q ∧ Q (.bl (!p && q)) H
theorem opLtU {X : Cx} : OpR X (compareOp .Lt) rLtU := by
  intro pins s σ H x y v u Q I rx ry h
  rcases h with h | ⟨i, j, rfl, rfl, q⟩ | ⟨p, r, rfl, rfl, q⟩
  · exact op_lt pins s σ H x y v u Q I rx ry h
  · exact op_lt_str pins s σ H _ _ v u Q I rx ry ⟨i, j, rfl, rfl, q⟩
  · cases rx
    cases ry
    refine PyProof.Rows.lt_bool ?_
    have e : decide (b2i p < b2i r) = (!p && r) := by cases p <;> cases r <;> decide
    rw [e]
    exact ⟨.bl (!p && r), H, I, rfl, q⟩
def oLtU : C → C → M C
  | .val (.int i), .val (.int j) => .ret (.val (.bool (decide (i < j))))
  | .val (.str i), .val (.str j) => .ret (.val (.bool (decide (i.cps.toList < j.cps.toList))))
  | .val (.bool p), .val (.bool q) => .ret (.val (.bool (!p && q)))
  | _, _ => .fail
theorem os_ltU : OpS K rLtU oLtU := by
  intro tp H0 H x y cx cy Q g t rx ry h
  unfold oLtU at h
  split at h
  · rename_i i j
    cases rx.int; cases ry.int
    exact .inl ⟨i, j, rfl, rfl, Post.bl h g t⟩
  · rename_i i j
    cases rx.str; cases ry.str
    exact .inr (.inl ⟨i, j, rfl, rfl, Post.bl h g t⟩)
  · rename_i i j
    cases rx.bl; cases ry.bl
    exact .inr (.inr ⟨i, j, rfl, rfl, Post.bl h g t⟩)
  · exact h.elim
theorem oLtU_i {i j : Int} : oLtU (.val (.int i)) (.val (.int j)) = .ret (.val (.bool (decide (i < j)))) := (rfl)
theorem oLtU_s {i j : Str} : oLtU (.val (.str i)) (.val (.str j)) = .ret (.val (.bool (decide (i.cps.toList < j.cps.toList)))) := (rfl)
theorem oLtU_b {i j : Bool} : oLtU (.val (.bool i)) (.val (.bool j)) = .ret (.val (.bool (!i && j))) := (rfl)
end
/-! index -/
def rIndexT (K : PySem.W.Frag) : V → List V → Hp → VK → Prop := fun x xs H Q => ∃ (a : Addr) (y : V) (d : PyData) (ds : List PyData) (j : Nat) (z : PyData), x = V.ref a ∧ xs = [y] ∧ Dp K H (V.ref a) (.tuple ds) ∧ Dp K H y d ∧
  SeqAt.shaped (.list ds) = true ∧ SeqAt.shaped d = true ∧ ds[j]? = some z ∧ PyData.eqv z d = true ∧ (∀ (m : Nat) (z' : PyData), m < j → ds[m]? = some z' → PyData.eqv z' d = false) ∧ Q (.int (j : Nat)) H
theorem mt_indexT {X : Cx} (hu : X.A.units + 65 < cLine) : MtR X "tuple.index" (rIndexT X.K) := by
  intro pins s σ H x xs v us Q I rx rxs h
  obtain ⟨a, y, d, ds, j, z, rfl, rfl, hl, hy, sl, sd, hz, hzj, hno, q⟩ := h
  cases rx
  cases rxs with
  | cons ry rt =>
    rename_i uy ut
    cases rt
    obtain ⟨bs, r1⟩ := Dp.reads I d y uy hy ry
    have hxs : PyData.canLayAll0 ds = true := SeqAt.canLay_of_shaped sl
    have hroom : X.A.units + 1 + min (PyData.depthAll ds) d.depth < cLine := room_in_shaped sd hu
    cases hl with
    | tup hs ha =>
      obtain ⟨its, rv, ⟨⟨cls, dd, data, sls⟩, ho, hc, n, hdt⟩, hlen⟩ := I.tuple hs
      simp only at hc hdt
      subst hc hdt
      obtain ⟨as, h4⟩ := Dp.readsAll I ds _ its ha rv
      have hn : its.length = ds.length := SeqAt.ReadsAll.length ds its as h4
      have hmap : its.map (SeqAt.readOf s.heap) = ds := SeqAt.readsAll_map ds its as hxs h4
      have hvl := rv.length
      have hsl := sizeLine_eq
      obtain ⟨hjd, _⟩ := List.getElem?_eq_some_iff.mp hz
      have hjl : j < its.length := by omega
      have hj : j < its.toArray.size := by simpa using hjl
      have at_ : ∀ (m : Nat) (hm : m < its.toArray.size) (z' : PyData), ds[m]? = some z' → SeqAt.readOf s.heap its.toArray[m] = z' := by
        intro m hm z' hz'
        have hml : m < its.length := by simpa using hm
        rw [← hmap, List.getElem?_map, List.getElem?_eq_getElem hml] at hz'
        have e1 : SeqAt.readOf s.heap its[m] = z' := Option.some.inj (show some (SeqAt.readOf s.heap its[m]) = some z' from hz')
        simpa using e1
      refine call_meets PySem.F.slot_tuple_index ⟨_, ho, rfl⟩ PySem.F.entry_tuple_index (PySem.F.args_tuple_index_2 _ _)
        (TI.tuple_indexAt a its.toArray n dd sls uy (fun u => PyData.eqv (SeqAt.readOf s.heap u) d) j hj ?_ ?_) ⟨ho, SeqAt.items_eqAt (vs := its.toArray) (show ReadsAll s.heap its.toArray.toList ds as from h4) r1 hxs (SeqAt.canLay_of_shaped sd) hroom, ?_⟩
      · show PyData.eqv (SeqAt.readOf s.heap its.toArray[j]) d = true
        rw [at_ j hj z hz]
        exact hzj
      · intro m hm hmj
        have hmd : m < ds.length := by omega
        have hz' : ds[m]? = some ds[m] := List.getElem?_eq_getElem hmd
        show PyData.eqv (SeqAt.readOf s.heap its.toArray[m]) d = false
        rw [at_ m hm _ hz']
        exact hno m _ hmj hz'
      · exact ⟨.int (j : Nat), H, I.tok _, ⟨_, rfl⟩, q⟩
theorem mtIxT (K : PySem.W.Frag) {X : Cx} (hu : X.A.units + 65 < cLine) (h : X.K = K := by rfl) : MtR X "tuple.index" (rIndexT K) := h ▸ mt_indexT hu
theorem mtIxL (K : PySem.W.Frag) {X : Cx} (hu : X.A.units + 65 < cLine) (h : X.K = K := by rfl) : MtR X "list.index" (rIndexD K) := h ▸ mt_indexD hu
section
variable {tp : Option (Addr × Addr)} {K : PySem.W.Frag} {H H' H'' H0 H1 He Hq : Hp} {σ : L2.St} {ρ : Ro}
/-- the first place of an equal one -/
def idx (d : PyData) (ds : List PyData) : Option Nat := ds.findIdx? fun z => PyData.eqv z d
theorem idx_some {d : PyData} {ds : List PyData} {j : Nat} (h : idx d ds = some j) : ∃ z, ds[j]? = some z ∧ PyData.eqv z d = true ∧ ∀ (m : Nat) (z' : PyData), m < j → ds[m]? = some z' → PyData.eqv z' d = false := by
  unfold idx at h
  obtain ⟨hj, h1, h2⟩ := List.findIdx?_eq_some_iff_getElem.mp h
  refine ⟨ds[j], List.getElem?_eq_getElem hj, h1, fun m z' hm hz => ?_⟩
  obtain ⟨hm', e⟩ := List.getElem?_eq_some_iff.mp hz
  have := h2 m hm
  rw [e] at this
  simpa using this
def idxD (d : PyData) (ds : List PyData) : M C := if (SeqAt.shaped d && SeqAt.shaped (.list ds)) = true then (match idx d ds with
  | some j => .ret (.val (.int (j : Nat)))
  | none => .fail) else .fail
def idxA (ds : List PyData) : List C → M C
  | [.val d] => idxD d ds
  | _ => .fail
def kIdxL (gs : Ro → M (List C)) (ρ : Ro) : C → M C
  | .bor (.lst ds) => (gs ρ).bind (idxA ds)
  | .own (.lst ds) => (gs ρ).bind (idxA ds)
  | .val (.list ds) => (gs ρ).bind (idxA ds)
  | _ => .fail
theorem RC.lbor {v : V} {ds : List PyData} (h : RC tp K H0 H v (.val (.list ds))) (t : TOk tp H) : RC tp K H0 H v (.bor (.lst ds)) := by
  obtain ⟨a, vs, rfl, ⟨o, q1⟩, q2⟩ := h.frz
  refine ⟨a, rfl, vs, ⟨.inr ⟨o, q1⟩, fun e => ?_⟩, q2, rfl⟩
  cases tp with
  | none => cases e
  | some w =>
    obtain ⟨b, l⟩ := w
    have : b = a := by simpa using e
    subst this
    obtain ⟨xs, z⟩ := (t b l rfl).list
    rw [q1] at z
    cases z
def gIdxL (go : Ro → M C) (gs : Ro → M (List C)) (ρ : Ro) : M C := (go ρ).bind (kIdxL gs ρ)
theorem gIdxL_eq {go : Ro → M C} {gs : Ro → M (List C)} : gIdxL go gs ρ = (go ρ).bind (kIdxL gs ρ) := (rfl)
theorem kIdxL_b {gs : Ro → M (List C)} {ds : List PyData} : kIdxL gs ρ (.bor (.lst ds)) = (gs ρ).bind (idxA ds) := (rfl)
theorem kIdxL_o {gs : Ro → M (List C)} {ds : List PyData} : kIdxL gs ρ (.own (.lst ds)) = (gs ρ).bind (idxA ds) := (rfl)
theorem idxA_v {ds : List PyData} {d : PyData} : idxA ds [.val d] = idxD d ds := (rfl)
theorem RCs.one' {vs : List V} {c : C} (h : RCs tp K H0 H vs [c]) : ∃ v, vs = [v] ∧ RC tp K H0 H v c := by
  cases vs with
  | nil => exact h.elim
  | cons v vs => cases vs with
    | nil => exact ⟨v, rfl, h.1⟩
    | cons _ _ => exact h.2.elim
theorem idxD_ok {d : PyData} {ds : List PyData} {Q : VK} (g : GrT tp H0 H) (t : TOk tp H) (h : wp0 (idxD d ds) (Post tp K H0 Q)) : SeqAt.shaped (.list ds) = true ∧ SeqAt.shaped d = true ∧ ∃ (j : Nat) (z : PyData), ds[j]? = some z ∧ PyData.eqv z d = true ∧ (∀ (m : Nat) (z' : PyData), m < j → ds[m]? = some z' → PyData.eqv z' d = false) ∧ Q (.int (j : Nat)) H := by
  unfold idxD at h
  split at h
  · rename_i e
    simp only [Bool.and_eq_true] at e
    split at h
    · rename_i j e2
      obtain ⟨z, z1, z2, z3⟩ := idx_some e2
      exact ⟨e.2, e.1, j, z, z1, z2, z3, Post.int h g t⟩
    · exact h.elim
  · exact h.elim
theorem re_idxL {to : TE} {t : TA} {go : Ro → M C} {gs : Ro → M (List C)} (h1 : RE K to go) (h2 : RA K t gs) : RE K (tBM K "list" (rIndexD K) to t) (gIdxL go gs) := by
  intro tp He Hq ρ σ H Q r h
  refine h1 tp He Hq ρ σ H _ r (wp0_mono (fun c hc => ?_) (wp0_bind.mp h))
  intro x H1 g1 t1 rx
  have key : ∀ {ds : List PyData}, RC tp K H H1 x (.bor (.lst ds)) → wp0 ((gs ρ).bind (idxA ds)) (Post tp K H Q) → tyV K "list" x H1 ∧ t σ H1 fun xs H2 => rIndexD K x xs H2 Q := fun {ds} rx hc => by
    obtain ⟨a, rfl, vs, q1, q2, q3⟩ := rx
    refine ⟨.inl ⟨rfl, vs, q1.sq⟩, ?_⟩
    refine h2 tp He Hq ρ σ H1 _ (r.go g1 t1) (wp0_mono (fun cs hcs => ?_) (wp0_bind.mp hc))
    intro xs H2 g2 t2 rcs
    unfold idxA at hcs
    split at hcs
    · rename_i d
      obtain ⟨y, rfl, ry⟩ := rcs.one'
      have rx2 : RC tp K H H2 (V.ref a) (.bor (.lst ds)) := RC.gr (⟨a, rfl, vs, q1, q2, q3⟩ : RC tp K H H1 (V.ref a) (.bor (.lst ds))) g2 t1
      obtain ⟨s1, s2, j, z, z1, z2, z3, q⟩ := idxD_ok (g1.trans g2) t2 hcs
      exact ⟨a, y, d, ds, j, z, rfl, rfl, rx2.dp rfl, ry.1.dp _ _, s1, s2, z1, z2, z3, q⟩
    · exact hcs.elim
  cases c with
  | own o =>
    cases o with
    | lst ds => exact key rx.lend hc
    | dT _ => exact hc.elim
    | dK _ => exact hc.elim
    | lT _ => exact hc.elim
  | bor o =>
    cases o with
    | lst ds => exact key rx hc
    | dT _ => exact hc.elim
    | dK _ => exact hc.elim
    | lT _ => exact hc.elim
  | val d =>
    cases d with
    | list ds => exact key (rx.lbor t1) hc
    | _ => exact hc.elim
  | tape => exact hc.elim
/-! a tuple of the module's top -/
def KTup (K : PySem.W.Frag) (a : Addr) (ds : List PyData) : Prop := ∃ (o : Obj) (its : Array Value) (n : Nat) (vs : List V), K.lookup a = some o ∧ o.cls = .type "tuple" ∧ o.dict = none ∧ o.data = .seq its n ∧ its.size ≤ sizeLine ∧ Vals vs its.toList ∧ (∀ H, VlAll K H vs ds) ∧ lfAll ds = true
theorem KTup.dp {a : Addr} {ds : List PyData} (h : KTup K a ds) (H : Hp) : Dp K H (.ref a) (.tuple ds) := by
  obtain ⟨o, its, n, vs, h1, h2, h3, h4, h5, h6, h7, h8⟩ := h
  exact .tup (.inr ⟨o, its, n, h1, h2, h4, h5, h6⟩) ((h7 H).dp _ _)
theorem pe_ktup {X : Cx} {x : Str} {a : Addr} {pos : Pos} (hg : Gl X x) (hm : X.mg x = some (.ref a)) (hd : (x == ("__debug__" : Str)) = false := by decide) : PE X (.Name x pos) (tC (.ref a)) := pe_glob hg hm rfl hd
def gIdxK (ds : List PyData) (gs : Ro → M (List C)) (ρ : Ro) : M C := (gs ρ).bind (idxA ds)
theorem gIdxK_eq {ds : List PyData} {gs : Ro → M (List C)} : gIdxK ds gs ρ = (gs ρ).bind (idxA ds) := (rfl)
theorem re_idxK {a : Addr} {ds : List PyData} {t : TA} {gs : Ro → M (List C)} (hk : KTup K a ds) (h2 : RA K t gs) : RE K (tBM K "tuple" (rIndexT K) (tC (.ref a)) t) (gIdxK ds gs) := by
  intro tp He Hq ρ σ H Q r h
  refine ⟨?_, ?_⟩
  · obtain ⟨o, its, n, vs, h1, h2, h3, _⟩ := hk
    exact .inr (.inl ⟨rfl, o, h1, h2, h3⟩)
  · refine h2 tp He Hq ρ σ H _ r (wp0_mono (fun cs hcs => ?_) (wp0_bind.mp h))
    intro xs H2 g2 t2 rcs
    unfold idxA at hcs
    split at hcs
    · rename_i d
      obtain ⟨y, rfl, ry⟩ := rcs.one'
      obtain ⟨s1, s2, j, z, z1, z2, z3, q⟩ := idxD_ok g2 t2 hcs
      exact ⟨a, y, d, ds, j, z, rfl, rfl, hk.dp H2, ry.1.dp _ _, s1, s2, z1, z2, z3, q⟩
    · exact hcs.elim
/-! index of a sign in a text -/
def sixD (z : Str) : List C → M C
  | [.val (.str b)] => match Builtin.Str.occurrences z b 0 z.length 1 with
    | i :: _ => .ret (.val (.int (i : Nat)))
    | [] => .fail
  | _ => .fail
def kSix (gs : Ro → M (List C)) (ρ : Ro) : C → M C
  | .val (.str z) => (gs ρ).bind (sixD z)
  | _ => .fail
def gSix (go : Ro → M C) (gs : Ro → M (List C)) (ρ : Ro) : M C := (go ρ).bind (kSix gs ρ)
theorem gSix_eq {go : Ro → M C} {gs : Ro → M (List C)} : gSix go gs ρ = (go ρ).bind (kSix gs ρ) := (rfl)
theorem kSix_s {gs : Ro → M (List C)} {z : Str} : kSix gs ρ (.val (.str z)) = (gs ρ).bind (sixD z) := (rfl)
def rSix : V → List V → Hp → VK → Prop := fun x xs H Q => ∃ a b i rest, x = .str a ∧ xs = [.str b] ∧ Builtin.Str.occurrences a b 0 a.length 1 = i :: rest ∧ Q (.int (i : Nat)) H
theorem mtSix {X : Cx} : MtR X "str.index" rSix := mt_sindex
theorem re_six {to : TE} {t : TA} {go : Ro → M C} {gs : Ro → M (List C)} (h1 : RE K to go) (h2 : RA K t gs) : RE K (tBM K "str" rSix to t) (gSix go gs) := by
  intro tp He Hq ρ σ H Q r h
  refine h1 tp He Hq ρ σ H _ r (wp0_mono (fun c hc => ?_) (wp0_bind.mp h))
  intro x H1 g1 t1 rx
  unfold kSix at hc
  split at hc
  · rename_i z
    cases rx.str
    refine ⟨rfl, ?_⟩
    refine h2 tp He Hq ρ σ H1 _ (r.go g1 t1) (wp0_mono (fun cs hcs => ?_) (wp0_bind.mp hc))
    intro xs H2 g2 t2 rcs
    unfold sixD at hcs
    split at hcs
    · rename_i b
      obtain ⟨y, rfl, ry⟩ := rcs.one'
      cases ry.str
      split at hcs
      · rename_i i rest e
        exact ⟨z, b, i, rest, rfl, rfl, e, Post.int hcs (g1.trans g2) t2⟩
      · exact hcs.elim
    · exact hcs.elim
  · exact hc.elim
/-! x += e of ints -/
def kAug (i : Nat) (f : Int → Int → Int) (a : Int) (ρ : Ro) : C → M Res
  | .val (.int b) => (asgR i (.val (.int (f a b))) ρ).bind fun ρ' => .ret (.nx ρ')
  | _ => .fail
def augAt (i : Nat) (f : Int → Int → Int) (g : Ro → M C) (ρ : Ro) : Option (Option C) → M Res
  | some (some (.val (.int a))) => (g ρ).bind (kAug i f a ρ)
  | _ => .fail
def mAugI (i : Nat) (f : Int → Int → Int) (g : Ro → M C) (ρ : Ro) : M Res := augAt i f g ρ ρ[i]?
theorem mAugI_eq {i : Nat} {f : Int → Int → Int} {g : Ro → M C} : mAugI i f g ρ = augAt i f g ρ ρ[i]? := (rfl)
theorem augAt_i {i : Nat} {f : Int → Int → Int} {g : Ro → M C} {a : Int} : augAt i f g ρ (some (some (.val (.int a)))) = (g ρ).bind (kAug i f a ρ) := (rfl)
theorem kAug_i {i : Nat} {f : Int → Int → Int} {a b : Int} : kAug i f a ρ (.val (.int b)) = (asgR i (.val (.int (f a b))) ρ).bind fun ρ' => .ret (.nx ρ') := (rfl)
theorem rs_augI {i : Nat} {f : Int → Int → Int} {te : TE} {g : Ro → M C} (h1 : RE K te g) : RS K (tAug i te (ipI f)) (mAugI i f g) := by
  intro tp He Hq ρ σ H D r h
  unfold mAugI augAt at h
  split at h
  · rename_i a e
    obtain ⟨v, h2, h3⟩ := r.at_ i _ e
    have h3' : RC tp K H H v (.val (.int a)) := h3
    cases h3'.int
    refine ⟨_, h2, ?_⟩
    refine h1 tp He Hq ρ σ H _ r (wp0_mono (fun c hc => ?_) (wp0_bind.mp h))
    intro y H1 g1 t1 ry
    unfold kAug at hc
    split at hc
    · rename_i b
      cases ry.int
      refine ⟨a, b, rfl, rfl, ?_⟩
      exact rg_name tp He Hq ρ σ H H1 (.int (f a b)) (.val (.int (f a b))) D.nx r g1 t1 ⟨.int _, rfl⟩ (wp0_mono (fun ρ' hρ σ' _ rel => hρ σ' H1 Hq .refl rel) (wp0_bind.mp hc))
    · exact hc.elim
  · exact h.elim
end
/-- a def that calls itself, at no depth -/
theorem Df.rec0 {K : PySem.W.Frag} {P : Program} {w : World} {mg : Str → Option Value} {base : Heap} {x : Str} {st : Stmt} {N ps : List Str} {k : Nat} (A : At K mg x st)
    (bd : ∀ (kV doc pm : Value) (an : Option Addr) (cdv ct : Value) (us : List Value), us.length = ps.length → bindArgs (PySem.W.fnOf x x (defArgs st) (defBody st) (defScope st) .none kV doc pm an cdv ct) ⟨us, []⟩ = pure (ps.zip us))
    (S : FnScope N ps (defScope st)) : Df P w K mg base (k + 1) x ps (spU K (fun _ => .fail)) := by
  refine Df.of A bd S (fun vs H Q E h => ?_) (fun cdv A out f s H vs Q E hr hg h => ?_)
  · obtain ⟨tp, cs, t, rc, no, h⟩ := h
    exact h.elim
  · obtain ⟨tp, cs, t, rc, no, h⟩ := h
    exact h.elim
end Cs

set_option maxRecDepth 100000
set_option maxHeartbeats 1000000
/-! defs with keyword-only parameters -/
namespace Cs
open PySem PySem.Spec PyProof.Rows L2
def AtK (K : PySem.W.Frag) (mg : Str → Option Value) (x : Str) (st : Stmt) (kws : List (Str × V)) : Prop := ∃ (f : Addr) (fd : FuncData), mg x = some (.ref f) ∧ Fun K x x st f fd ∧ FunD K x x (defArgs st) (defBody st) (defScope st) [] kws f fd
def DfK (P : Program) (w : World) (K : PySem.W.Frag) (mg : Str → Option Value) (base : Heap) (k : Nat) (x : Str) (ps : List Str) (n : Nat) (kws : List (Str × V)) (sp : Sp) : Prop :=
  ∃ (f : Addr) (fd : FuncData) (ds : List Value), mg x = some (.ref f) ∧ PySem.W.keepIn K (.ref f) = true ∧ Vals (kws.map (·.2)) ds ∧ Binds K fd ps ds ∧ KBn K fd ps n (kws.map (·.1)) (fun us ws => us ++ ws) (fun vs zs => vs ++ zs) ∧ FnG P w K mg base k f fd ps sp
section
variable {P : Program} {w : World} {K : PySem.W.Frag} {mg : Str → Option Value} {base : Heap}
theorem DfK.uni {x : Str} {st : Stmt} {N ps : List Str} {kws : List (Str × V)} {k n m : Nat} {mm : Ro → M Res} (A : AtK K mg x st kws) (hk : kws ≠ []) (hn : n + kws.length = ps.length)
    (h0 : ∀ (D : Addr) (doc pm : Value) (an : Option Addr) (cdv ct : Value) (us ks : List Value), us.length = n → ks.length = kws.length →
      KwChain D ((kws.map (·.1)).zip ks) (bindArgs (PySem.W.fnOf x x (defArgs st) (defBody st) (defScope st) .none (.ref D) doc pm an cdv ct) ⟨us, []⟩) (ps.zip (us ++ ks)))
    (h1 : ∀ (kV doc pm : Value) (an : Option Addr) (cdv ct : Value) (us ws : List Value), us.length = n → ws.length = kws.length → bindArgs (PySem.W.fnOf x x (defArgs st) (defBody st) (defScope st) .none kV doc pm an cdv ct) ⟨us, (kws.map (·.1)).zip ws⟩ = pure (ps.zip (us ++ ws)))
    (S : FnScope N ps (defScope st)) (hm : N.length - ps.length = m)
    (body : ∀ (cdv : Value) (A : Around) (out : List Env) (f : Addr) (s : Shared) (H : Hp) (E : XK), Room k (A.deeper (envOfC x (defScope st) s.heap.objs.size f cdv)) → A.guards = some [] →
      ∃ t, PSs (cxG P w K mg base N x (defScope st) f cdv A out s H E) (defBody st) t ∧ RS K t mm) :
    DfK P w K mg base (k + 1) x ps n kws (spU K (fnU ps.length m mm)) := by
  obtain ⟨f, fd, hmg, F, FD⟩ := A
  obtain ⟨ds, vd, bd⟩ := FD.binds0 n hk hn h0
  have G : FnG P w K mg base (k + 1) f fd ps (spU K (fnU ps.length m mm)) := by
    refine FnG.of F S (fun vs H Q E h => ?_) (fun cdv A out s H vs Q E hr hg h => ?_)
    · obtain ⟨tp, cs, t, rc, no, h⟩ := h
      unfold fnU at h
      split at h
      · rename_i e
        rw [rc.len, e]
      · exact h.elim
    · obtain ⟨tp, cs, t, rc, no, h⟩ := h
      obtain ⟨t', q1, q2⟩ := body cdv A out f s H E hr hg
      refine ⟨t', q1, ?_⟩
      unfold fnU at h
      split at h
      · rename_i e
        refine q2 tp H H _ _ H _ (start_rel t rc no (by rw [rc.len, e]; exact hm)) (wp0_mono (fun q hq => ?_) (wp0_bind.mp h))
        cases q with
        | nx ρ' => exact fun σ' H' Hq' g' r' => hq .non H' (r'.sub.trans r'.gr) r'.tok ⟨.non, rfl⟩
        | rt c => exact hq
        | bk _ => exact hq.elim
        | ct _ => exact hq.elim
      · exact h.elim
  refine ⟨f, fd, ds, hmg, F.kp, vd, bd, ⟨fun s us ws X l1 l2 => ?_, fun r1 r2 => r1.append r2⟩, G⟩
  obtain ⟨oc, od, kV, doc, pm, an, cdv, ct, osl, rfl, _⟩ := F.ex
  rw [List.length_map] at l2
  exact .of_eq (h1 kV doc pm an cdv ct us ws l1 l2)
end
section
variable {X : Cx} {k n : Nat} {ps : List Str} {sp : Sp} {x : Str} {p pos : Pos} {e : Expr} {es : List Expr} {kw : List Keyword} {kws : List (Str × V)} {t tk : TA}
def tFnD (sp : Sp) (ds : List V) (t : TA) : TE := fun σ H Q => t σ H fun vs H1 => sp (vs ++ ds) H1 Q E0
theorem pe_dfD (D : DfK X.prog X.w X.K X.mg X.base k x ps n kws sp) (hr : Room k X.A) (hgd : X.A.guards = some []) (hg : Gl X x)
    (ha : PA X (e :: es) t) (hdb : (x == ("__debug__" : Str)) = false := by decide) (he : starEach (e :: es) X.env = (false, eval e X.env) :: starEach es X.env := by rfl) (hpl : (backTo pos (starEach es X.env)).any (·.1) = false := by rfl) :
    PE X (.Call (.Name x p) (e :: es) [] pos) (tFnD sp (kws.map (·.2)) t) := by
  obtain ⟨f, fd, ds, hm, hk, vd, hb, _, F⟩ := D
  refine ⟨fun pins s σ H Q I h => wpAny_Call_Name_kw (ld_glob I hg hm ?_ hdb)⟩
  refine PySem.W.callWith_K (h₀ := X.base) I.ok.mod.kin hk (thn (ha.run pos pins s σ H _ I h) fun us s1 ⟨vs, H1, I1, r, q⟩ => ⟨I1.kIn, ?_⟩) he hpl
  have r2 : Vals (vs ++ kws.map (·.2)) (us ++ ds) := r.append vd
  have hl : (us ++ ds).length = ps.length := by rw [← r2.length]; exact F.len _ _ _ _ q
  refine wpAny_call (codeAny_mono (F.go X.A X.stack s1 H1 ⟨us, []⟩ (us ++ ds) (vs ++ kws.map (·.2)) Q E0 hr hgd I1.env0 (hb s1 us I1.kIn hl) r2 q) fun r s' hq => ?_)
  match r, hq with
  | .ok (.ret u), hq => exact I1.after hq
  | .error e, hq => exact False.elim hq
  | .ok .next, hq => exact False.elim hq
  | .ok .brk, hq => exact False.elim hq
  | .ok .cont, hq => exact False.elim hq
def tFnK (sp : Sp) (n m : Nat) (t tk : TA) : TE := fun σ H Q => t σ H fun vs H1 => tk σ H1 fun zs H2 => vs.length = n ∧ zs.length = m ∧ sp (vs ++ zs) H2 Q E0
theorem pe_dfK (D : DfK X.prog X.w X.K X.mg X.base k x ps n kws sp) (hr : Room k X.A) (hgd : X.A.guards = some []) (hg : Gl X x)
    (ha : PA X (e :: es) t) (hkw : PK X kw tk) (hks : (backToKw pos (keywordEach kw X.env)).filterMap (·.1) = kws.map (·.1) := by rfl) (hall : (backToKw pos (keywordEach kw X.env)).all (·.1.isSome) = true := by rfl)
    (hdb : (x == ("__debug__" : Str)) = false := by decide) (he : starEach (e :: es) X.env = (false, eval e X.env) :: starEach es X.env := by rfl)
    (hpl : ((backTo pos (starEach (e :: es) X.env)).any (·.1) || (backToKw pos (keywordEach kw X.env)).any (·.1.isNone)) = false := by rfl) :
    PE X (.Call (.Name x p) (e :: es) kw pos) (tFnK sp n kws.length t tk) := by
  obtain ⟨f, fd, ds, hm, hk, vd, _, hb, F⟩ := D
  refine ⟨fun pins s σ H Q I h => wpAny_Call_Name_kw (ld_glob I hg hm ?_ hdb)⟩
  refine PySem.W.callWith_KW (h₀ := X.base) I.ok.mod.kin hk hall (thn (ha.run pos pins s σ H _ I h) fun us s1 ⟨vs, H1, I1, r, q⟩ => ?_) hpl he
  refine thn (hkw.run pos pins s1 σ H1 _ I1 q) fun ws s2 ⟨zs, H2, I2, rz, l1, l2, q2⟩ => ⟨I2.kIn, ?_⟩
  rw [hks]
  have r2 : Vals (vs ++ zs) (us ++ ws) := r.append rz
  refine wpAny_call (codeAny_mono (F.go X.A X.stack s2 H2 ⟨us, (kws.map (·.1)).zip ws⟩ (us ++ ws) (vs ++ zs) Q E0 hr hgd I2.env0 (hb.to s2 us ws I2.kIn (r.length.symm.trans l1) (rz.length.symm.trans (by rw [List.length_map]; exact l2))) r2 q2) fun r s' hq => ?_)
  match r, hq with
  | .ok (.ret u), hq => exact I2.after hq
  | .error e, hq => exact False.elim hq
  | .ok .next, hq => exact False.elim hq
  | .ok .brk, hq => exact False.elim hq
  | .ok .cont, hq => exact False.elim hq
end
section
variable {tp : Option (Addr × Addr)} {K : PySem.W.Frag} {H H' H'' H0 H1 He Hq : Hp} {σ : L2.St} {ρ : Ro}
theorem RCs.app : ∀ {vs us : List V} {cs es : List C}, RCs tp K H0 H vs cs → RCs tp K H0 H us es → RCs tp K H0 H (vs ++ us) (cs ++ es)
  | [], _, [], _, _, q => q
  | v :: vs, _, c :: cs, _, h, q => ⟨h.1, RCs.app h.2 q⟩
  | [], _, _ :: _, _, h, _ => h.elim
  | _ :: _, _, [], _, h, _ => h.elim
theorem RCs.vals : ∀ {vs : List V} {ds : List PyData}, VlAll K H vs ds → lfAll ds = true → RCs tp K H0 H vs (ds.map .val)
  | _, [], h, _ => by cases h; trivial
  | _, d :: ds, h, f => by
    simp only [lfAll, Bool.and_eq_true] at f
    cases h with
    | cons h1 h2 => exact ⟨⟨h1, rfl⟩, RCs.vals h2 rfl⟩
theorem no_lend {cs : List C} : ∀ c ∈ cs.map C.lend, ∀ o, c ≠ .own o := fun c m o z => by
  obtain ⟨c', _, e⟩ := List.mem_map.mp m
  subst z
  cases c' <;> cases e
def gFnD (f : List C → M C) (dds : List PyData) (gs : Ro → M (List C)) (ρ : Ro) : M C := (gs ρ).bind fun cs => f (cs.map C.lend ++ dds.map .val)
theorem gFnD_eq {f : List C → M C} {dds : List PyData} {gs : Ro → M (List C)} : gFnD f dds gs ρ = (gs ρ).bind fun cs => f (cs.map C.lend ++ dds.map .val) := (rfl)
theorem re_fnD {f : List C → M C} {ds : List V} {dds : List PyData} {t : TA} {gs : Ro → M (List C)} (hd : ∀ H, VlAll K H ds dds) (hf : lfAll dds = true) (h1 : RA K t gs) : RE K (tFnD (spU K f) ds t) (gFnD f dds gs) := by
  intro tp He Hq ρ σ H Q r h
  refine h1 tp He Hq ρ σ H _ r (wp0_mono (fun cs hc => ?_) (wp0_bind.mp h))
  intro vs H1 g1 t1 rx
  refine ⟨tp, cs.map C.lend ++ dds.map .val, t1, (rx.lend (H1 := H1)).app (.vals (hd H1) hf), fun c m o z => ?_, wp0_mono (fun c hc => hc.after g1 t1) hc⟩
  rcases List.mem_append.mp m with m | m
  · exact no_lend c m o z
  · obtain ⟨d, _, e⟩ := List.mem_map.mp m
    rw [z] at e
    cases e
def kFnK (n m : Nat) (f : List C → M C) (cs es : List C) : M C := if cs.length = n ∧ es.length = m then f (cs.map C.lend ++ es.map C.lend) else .fail
def gFnK (n m : Nat) (f : List C → M C) (gs ks : Ro → M (List C)) (ρ : Ro) : M C := (gs ρ).bind fun cs => (ks ρ).bind fun es => kFnK n m f cs es
theorem gFnK_eq {n m : Nat} {f : List C → M C} {gs ks : Ro → M (List C)} : gFnK n m f gs ks ρ = (gs ρ).bind fun cs => (ks ρ).bind fun es => kFnK n m f cs es := (rfl)
theorem kFnK_21 {f : List C → M C} {a b c : C} : kFnK 2 1 f [a, b] [c] = f [a.lend, b.lend, c.lend] := by unfold kFnK; rw [if_pos ⟨rfl, rfl⟩]; rfl
theorem re_fnK {n m : Nat} {f : List C → M C} {t tk : TA} {gs ks : Ro → M (List C)} (h1 : RA K t gs) (h2 : RA K tk ks) : RE K (tFnK (spU K f) n m t tk) (gFnK n m f gs ks) := by
  intro tp He Hq ρ σ H Q r h
  refine h1 tp He Hq ρ σ H _ r (wp0_mono (fun cs hc => ?_) (wp0_bind.mp h))
  intro vs H1 g1 t1 rx
  refine h2 tp He Hq ρ σ H1 _ (r.go g1 t1) (wp0_mono (fun es he => ?_) (wp0_bind.mp hc))
  intro zs H2 g2 t2 rz
  unfold kFnK at he
  split at he
  · rename_i l
    refine ⟨by rw [rx.len]; exact l.1, by rw [rz.len]; exact l.2, tp, cs.map C.lend ++ es.map C.lend, t2, ((rx.gr g2 t1).lend (H1 := H2)).app rz.lend, fun c m o z => ?_, wp0_mono (fun c hc => hc.after (g1.trans g2) t2) he⟩
    rcases List.mem_append.mp m with m | m
    · exact no_lend c m o z
    · exact no_lend c m o z
  · exact he.elim
end
end Cs

set_option maxRecDepth 100000
set_option maxHeartbeats 4000000
/-! Errors of one's own: made without an argument; isinstance of one that has a dict. -/
namespace L2
open PySem PySem.Spec PyProof.Rows
/-- the exception's dict: none, or one that is told -/
def DcOk (d : Option Addr) (H : Hp) : Prop := d = none ∨ ∃ dd fs, d = some dd ∧ H dd = some (.xd fs)
def rIsA (K : PySem.W.Frag) (a : Addr) (cls : Value) (d : Option Addr) : List V → Hp → VK → Prop := fun xs H Q => ∃ (D : Addr) (c : V) (cv : Value) (b : Bool), cls = .ref D ∧ ExcC K D ∧ xs = [.ref a, c] ∧ (∀ u, RelV c u → u = cv) ∧ PySem.W.kitOne K (.ref D) cv = some b ∧ DcOk d H ∧ Q (.bl b) H
theorem inst_of {X : Cx} {pins : List (Addr × Obj)} {σ : St} {H : Hp} {s : Shared} {a D : Addr} {oe : Obj} {d : Option Addr} (I : Inv X pins σ H s) (hget : s.heap.get? a = some oe) (hz : Zc (.ref D) d oe) (hf : ∃ vs, oe.data = .fields vs) (dc : DcOk d H) : ∃ od, PySem.W.InstAt s.heap a oe D od := by
  obtain ⟨vs, hv⟩ := hf
  rcases dc with rfl | ⟨dd, fs, rfl, ed⟩
  · refine ⟨none, ?_⟩
    obtain ⟨oc, od, oda, osl⟩ := oe
    obtain ⟨h1, h2⟩ := hz
    dsimp only at h1 h2 hv
    subst h1 h2 hv
    exact ⟨hget, rfl, rfl, trivial⟩
  · have hx : ObjOk X.prog X.w H s.heap dd (.xd fs) := I.hok dd _ ed
    obtain ⟨mA, hns, hr⟩ := hx
    obtain ⟨od, ho, hl⟩ := lookIn_ns hns
    exact ⟨some od, hget, hz.1, by unfold PySem.W.notCls; rw [hv] <;> rfl, by rw [hz.2]; exact ho⟩
theorem call_isA {X : Cx} {a : Addr} {oe : Obj} {cls : Value} {d : Option Addr} {pn : List (Addr × Obj)} (hz : Zc cls d oe) (hf : ∃ vs, oe.data = .fields vs) : CallR (X.suite a ((a, oe) :: pn)) (.builtin "isinstance") (rIsA X.K a cls d) := by
  intro pins s σ H xs us Q I r h
  obtain ⟨D, c, cv, b, rfl, C, rfl, hcv, e, dc, q⟩ := h
  cases r with
  | cons rx rr =>
    cases rr with
    | cons rt rr =>
      cases rr
      cases rx
      have ec := hcv _ rt
      subst ec
      obtain ⟨hget, _⟩ := I.pin (a, oe) (List.mem_append.mpr (.inl List.mem_cons_self))
      obtain ⟨od, J⟩ := inst_of I hget hz hf dc
      have hcl : (PySem.W.clsIn X.K D).isSome = true := by
        obtain ⟨cd, hc, _⟩ := PySem.W.any_some C.hd
        rw [hc]
        rfl
      exact PySem.W.kia_one (PySem.W.kitx_exc hcl C.hg C.hk C.hs C.ha C.hn C.ht C.hm) I.kIn J e (fun z => nomatch z) fun tk => ⟨.bl b, H, I.kept (t' := tk) fun _ _ z => z, rfl, q⟩
/-- e.f of the caught exception, of whatever class: the library's rule for the class that it turns out to have -/
def tXa (K : PySem.W.Frag) (a : Addr) (cls : Value) (d : Option Addr) (f : Str) (i : Nat) : TE := fun σ H Q => σ[i]? = some (some (.ref a)) ∧ ∃ (C dd : Addr) (fs : List (Str × V)) (v : V), cls = .ref C ∧ XfC K C ∧ PySem.W.findIn K (.ref C) f = some none ∧ d = some dd ∧ H dd = some (.xd fs) ∧ fs.lookup f = some v ∧ Q v H
theorem pe_xa {X : Cx} {a : Addr} {oe : Obj} {cls : Value} {d : Option Addr} {pn : List (Addr × Obj)} {e : Expr} {i : Nat} {pos : Pos} {n : Str}
    (hz : Zc cls d oe) (hf : ∃ vs, oe.data = .fields vs) (he : PE (X.suite a ((a, oe) :: pn)) e (tVar i)) (hb : attributeBase e n X.env (eval e X.env) = eval e X.env := by rfl) :
    PE (X.suite a ((a, oe) :: pn)) (.Attribute e n pos) (tXa X.K a cls d n i) :=
  ⟨fun pins s σ H Q I ⟨hσ, C, dd, fs, v, ec, T, hno, ed, ea, l, q⟩ => (pe_xf T hno hz hf he hb).run pins s σ H Q I ⟨.ref a, hσ, rfl, ec, dd, fs, v, ed, ea, l, q⟩⟩
section
variable {X : Cx} {pos : Pos}
/-- X(), X an own exception class without own __init__ -/
theorem pmk_own0 {C : Addr} {bmB : List Value} {B newId initId : String} {x : Str} {p : Pos} (F : ExcBaseFacts B newId initId bmB) (q : PySem.W.excIn X.K C bmB newId = true) (gC : X.mg x = some (.ref C))
    (kC : PySem.W.keepIn X.K (.ref C) = true) (r : Raises X (.ref C)) (hg : Gl X x) (hdb : (x == ("__debug__" : Str)) = false := by decide) :
    PMk X (.Call (.Name x p) [] [] pos) (fun _ H Q => Q (.ref C) none H) := by
  intro pins s σ H Q I h
  refine wpAny_Call_Name_kw (ld_glob I hg gC ?_ hdb)
  refine PySem.W.callWith_K0 I.kIn kC ?_
  obtain ⟨bm, N, nm, qn, bs, hdct, sn, sub, ab, col, dd, k0, k1, k2, k3, k5, mN, hC, hN, hni, T⟩ := exc_obj I.kIn q
  refine wpAny_call_exc_subT F T hC hN hni (fun h' e hm => ?_) (by show 0 ≤ sizeLine; omega)
  exact mk_of I hm r h (I.hok.gone hm.new)
end
/-- __init__ of a class with one field -/
def sp_init (K : PySem.W.Frag) (C : Addr) (f : Str) : Sp := fun vs H Q _ => ∃ (a : Addr) (v : V), vs = [.ref a, v] ∧ OexC K C ∧ PySem.W.findIn K (.ref C) f = some none ∧ H a = some (exo a C none) ∧
  ∀ dx, H dx = none → dx ≠ a → Q .non (upd (upd H dx (exd dx [(f, v)])) a (exo a C (some dx)))
theorem put_del {H : Hp} {a d : Addr} {u v w z : HO} (ha : H a = none) (n : d ≠ a) : upd (del (upd (upd (upd H a u) d v) a w) a) d z = upd H d z := by
  funext b
  by_cases hd : b = d
  · subst hd; rw [upd_same, upd_same]
  · rw [upd_ne hd, upd_ne hd]
    by_cases hb : b = a
    · subst hb; rw [del_same, ha]
    · rw [del_ne hb, upd_ne hb, upd_ne hd, upd_ne hb]
end L2

set_option maxRecDepth 100000
set_option maxHeartbeats 1000000
/-! tuples of whole numbers at the module's top -/
namespace Cs
open PySem PySem.Spec PyProof.Rows L2
def chkI : List Value → List Int → Bool
  | [], [] => true
  | .int i _ :: vs, n :: ns => (i == n) && chkI vs ns
  | _, _ => false
def ktupI (ns : List Int) (o : Obj) : Bool := match o with
  | ⟨.type c, none, .seq its _, _⟩ => (c == "tuple") && ((chkI its.toList ns) && decide (ns.length ≤ 1000))
  | _ => false
theorem chkI_vals : ∀ (vs : List Value) (ns : List Int), chkI vs ns = true → Vals (ns.map V.int) vs
  | vs, ns, h => by
    unfold chkI at h
    split at h
    · exact .nil
    · rename_i i t us n ms
      simp only [Bool.and_eq_true, beq_iff_eq] at h
      obtain ⟨rfl, h⟩ := h
      exact .cons ⟨t, rfl⟩ (chkI_vals us ms h)
    · cases h
theorem lf_intsK (ns : List Int) : lfAll (ns.map PyData.int) = true := lfAll_iff.mpr fun d m => by
  obtain ⟨i, _, rfl⟩ := List.mem_map.mp m
  rfl
theorem ktupI_of {K : PySem.W.Frag} {a : Addr} {o : Obj} {ns : List Int} (h : K.lookup a = some o) (b : ktupI ns o = true) : KTup K a (ns.map PyData.int) := by
  unfold ktupI at b
  split at b
  · rename_i c its n sl
    simp only [Bool.and_eq_true, beq_iff_eq, decide_eq_true_eq] at b
    obtain ⟨rfl, b1, b2⟩ := b
    have v := chkI_vals _ _ b1
    refine ⟨_, its, n, ns.map V.int, h, rfl, rfl, rfl, ?_, v, fun H => VlAll.ofInts ns, lf_intsK ns⟩
    have hl := v.length
    rw [List.length_map] at hl
    have : its.size = its.toList.length := by simp
    rw [this, ← hl, show sizeLine = 16777216 by decide]
    omega
  · cases b
end Cs
/-! reversed(xs), xs a name -/
namespace Cs
open PySem PySem.Spec PyProof.Rows L2
section
variable {tp : Option (Addr × Addr)} {K : PySem.W.Frag} {H H' H'' H0 H1 He Hq : Hp} {σ : L2.St} {ρ : Ro}
def mForRev (i : Nat) (a : C → Ro → M Ro) (b : Ro → M Res) (ρ : Ro) : M Res := match ρ[i]? with
  | some (some (.own (.lst ds))) => forL a b ds.reverse (ρ.set i (some (.bor (.lst ds))))
  | some (some (.val (.tuple ds))) => forL a b ds.reverse ρ
  | _ => .fail
theorem rs_forRev {i : Nat} {g : TG} {tb : TS} {a : C → Ro → M Ro} {b : Ro → M Res} {sl : List Nat} (hg : RG K g a sl) (hb : RS K tb b) : RS K (tFor (RT.iRevA K (tVar i)) g tb) (mForRev i a b) := by
  intro tp He Hq ρ σ H D r h
  unfold mForRev at h
  split at h
  · rename_i ds e
    obtain ⟨Hq2, p, g2, r2, hs, w, np, f, vs0, sq⟩ := r.freeze e
    have hl : i < ρ.length := (List.getElem?_eq_some_iff.mp e).1
    obtain ⟨v, h1, p', e2, vs, q1, q2, q3⟩ := r2.at_ i (.bor (.lst ds)) (List.getElem?_set_self hl)
    rw [hs] at h1
    cases h1
    cases e2
    have q1' := q1.gr r2.gr
    refine ⟨_, hs, p, vs, rfl, .inl ⟨q1'.sq, for_go hg hb r2 (lf_rev q3) (wk_revL q1.1 q2 q3) (fun q m => ?_) (wp0_mono (fun _ q => q.mono g2) h)⟩⟩
    have : q = p := by simpa using m
    subst this
    exact np
  · rename_i ds e
    refine rs_for (ri_rev (s := true) (re_var (i := i))) hg hb tp He Hq ρ σ H D r ?_
    unfold mFor gRev gVar
    rw [e]
    exact h
  · exact h.elim
theorem mForRev_own {i : Nat} {a : C → Ro → M Ro} {b : Ro → M Res} {ds : List PyData} (h : ρ[i]? = some (some (.own (.lst ds)))) : mForRev i a b ρ = forL a b ds.reverse (ρ.set i (some (.bor (.lst ds)))) := by unfold mForRev; rw [h]
theorem mForRev_tup {i : Nat} {a : C → Ro → M Ro} {b : Ro → M Res} {ds : List PyData} (h : ρ[i]? = some (some (.val (.tuple ds)))) : mForRev i a b ρ = forL a b ds.reverse ρ := by unfold mForRev; rw [h]
def kForRev (ρ : Ro) (i : Nat) (a : C → Ro → M Ro) (b : Ro → M Res) : Option (Option C) → M Res
  | some (some (.own (.lst ds))) => forL a b ds.reverse (ρ.set i (some (.bor (.lst ds))))
  | some (some (.val (.tuple ds))) => forL a b ds.reverse ρ
  | _ => .fail
theorem mForRev_eq {i : Nat} {a : C → Ro → M Ro} {b : Ro → M Res} : mForRev i a b ρ = kForRev ρ i a b ρ[i]? := (rfl)
theorem kForRev_o {i : Nat} {a : C → Ro → M Ro} {b : Ro → M Res} {ds : List PyData} : kForRev ρ i a b (some (some (.own (.lst ds)))) = forL a b ds.reverse (ρ.set i (some (.bor (.lst ds)))) := (rfl)
theorem kForRev_t {i : Nat} {a : C → Ro → M Ro} {b : Ro → M Res} {ds : List PyData} : kForRev ρ i a b (some (some (.val (.tuple ds)))) = forL a b ds.reverse ρ := (rfl)
end
end Cs

/-! range(i, j, c), c above 0 -/
namespace Cs
open PySem PySem.Spec PyProof.Rows L2
section
variable {tp : Option (Addr × Addr)} {K : PySem.W.Frag} {H H' H'' H0 H1 He Hq : Hp} {σ : L2.St} {ρ : Ro}
def stepN (i j c : Int) : Nat := if i < j then ((j - i - 1) / c + 1).toNat else 0
def r3Ok (i j c : Int) : Bool := decide (-1000000 ≤ i) && (decide (i ≤ 1000000) && (decide (-1000000 ≤ j) && (decide (j ≤ 1000000) && (decide (0 < c) && decide (c ≤ 1000)))))
theorem r3_rg {i j c : Int} (h : r3Ok i j c = true) : RgC i j c (stepN i j c) := by
  unfold r3Ok at h
  simp only [Bool.and_eq_true, decide_eq_true_eq] at h
  obtain ⟨h1, h2, h3, h4, h5, h6⟩ := h
  have q0 : i < j → 0 ≤ (j - i - 1) / c ∧ (j - i - 1) / c ≤ j - i - 1 := fun z => ⟨Int.ediv_nonneg (by omega) (by omega), Int.ediv_le_self _ (by omega)⟩
  have hs : Builtin.Range.rangeSize i j c = stepN i j c := by
    unfold Builtin.Range.rangeSize stepN
    rw [if_pos h5]
    split
    · rename_i z
      have := q0 z
      omega
    · rfl
  have hb : stepN i j c ≤ 2000001 := by
    unfold stepN
    split
    · rename_i z
      have := q0 z
      omega
    · omega
  have hr : i < j → (stepN i j c : Int) = (j - i - 1) / c + 1 := fun z => by
    unfold stepN
    rw [if_pos z]
    have := q0 z
    omega
  refine ⟨by omega, by omega, ?_, hs⟩
  unfold Builtin.Range.small
  rw [hs]
  have m1 : (0 : Int) ≤ (stepN i j c : Int) := by omega
  have m2 : (stepN i j c : Int) ≤ 2000001 := by omega
  generalize (stepN i j c : Int) = k at *
  simp only [Builtin.Range.rangeFitsLong, Bool.and_eq_true, Bool.or_eq_true, decide_eq_true_eq, beq_iff_eq, h5, if_true]
  omega
def itR3 : List C → M (List PyData)
  | [.val (.int i), .val (.int j), .val (.int c)] => if r3Ok i j c = true then .ret (rngD i c (stepN i j c)) else .fail
  | _ => .fail
def gItR3 (gs : Ro → M (List C)) (ρ : Ro) : M (List PyData) := (gs ρ).bind itR3
theorem RCs.three' {vs : List V} {c d e : C} (h : RCs tp K H0 H vs [c, d, e]) : ∃ u v w, vs = [u, v, w] ∧ RC tp K H0 H u c ∧ RC tp K H0 H v d ∧ RC tp K H0 H w e := by
  match vs, h with
  | [u, v, w], h => exact ⟨u, v, w, rfl, h.1, h.2.1, h.2.2.1⟩
theorem ri_rng3 {ta : TA} {gs : Ro → M (List C)} {s : Bool} (h1 : RA K ta gs) : RI K s (iRng3 ta) (gItR3 gs) := by
  intro tp He Hq ρ σ H Q r h
  refine h1 tp He Hq ρ σ H _ r (wp0_mono (fun cs hc => ?_) (wp0_bind.mp h))
  intro vs H1 g1 t1 rx
  unfold itR3 at hc
  split at hc
  · rename_i i j c
    obtain ⟨u, v, w, rfl, q, q', q''⟩ := rx.three'
    cases q.int; cases q'.int; cases q''.int
    split at hc
    · rename_i l
      exact ⟨i, j, c, stepN i j c, rfl, r3_rg l, hc _ H1 [] g1 t1 (lf_rng _ _ _) wk_rngC (fun _ m => by simp at m) (fun _ _ _ _ m => by simp at m)⟩
    · exact hc.elim
  · exact hc.elim
theorem gItR3_eq {gs : Ro → M (List C)} : gItR3 gs ρ = (gs ρ).bind itR3 := (rfl)
theorem itR3_i {i j c : Int} : itR3 [.val (.int i), .val (.int j), .val (.int c)] = if r3Ok i j c = true then .ret (rngD i c (stepN i j c)) else .fail := (rfl)
end
end Cs

set_option maxRecDepth 100000
set_option maxHeartbeats 4000000
/-! lists as data: freezing, reading; comprehensions with two clauses -/
namespace Cs
open PySem PySem.Spec PyProof.Rows L2
section
variable {tp : Option (Addr × Addr)} {K : PySem.W.Frag} {H H' H'' H0 H1 He : Hp} {Hq : Hp} {σ : L2.St} {ρ : Ro}
/-! ### from here on the list is data -/
def tFrzS (i : Nat) (t : TS) : TS := fun D σ H => t D σ H ∨ ∃ a u, σ[i]? = some (some (.ref a)) ∧ H a = some u ∧ Mut (some u) ∧ ∀ od, t D σ (upd H a (.frz od u))
theorem ps_frz {X : Cx} {i : Nat} {st : Stmt} {t : TS} (h : PS X st t) : PS X st (tFrzS i t) := by
  refine ⟨fun pins s σ H D I hw => ?_⟩
  rcases hw with hw | ⟨a, u, _, hd, mu, hw⟩
  · exact h.run pins s σ H D I hw
  · obtain ⟨od, I1⟩ := I.lock hd mu
    exact h.run pins s σ _ D I1 (hw od)
def tFrzE (t : TE) : TE := fun σ H Q => t σ H fun v H' => Q v H' ∨ ∃ a u, v = .ref a ∧ H' a = some u ∧ Mut (some u) ∧ ∀ od, Q v (upd H' a (.frz od u))
theorem pe_frz {X : Cx} {e : Expr} {t : TE} (h : PE X e t) : PE X e (tFrzE t) := by
  refine ⟨fun pins s σ H Q I hw => ?_⟩
  refine thn (h.run pins s σ H _ I hw) fun v s1 ⟨x, H1, I1, r, q⟩ => ?_
  rcases q with q | ⟨a, u, _, hd, mu, q⟩
  · exact ⟨x, H1, I1, r, q⟩
  · obtain ⟨od, I2⟩ := I1.lock hd mu
    exact ⟨x, _, I2, r, q od⟩
theorem TOk.frz {a : Addr} {o : HO} (t : TOk tp H) (n : TNe tp a) : TOk tp (upd H a o) := fun b l e => (t b l e).upd (n b l e).1 (n b l e).2
theorem Rel.frz {i : Nat} {ds : List PyData} (r : Rel tp K He Hq H σ ρ) (e : ρ[i]? = some (some (.own (.lst ds)))) : ∃ a vs, σ[i]? = some (some (.ref a)) ∧ H a = some (.lst vs) ∧
    ∀ od, Rel tp K He Hq (upd H a (.frz od (.lst vs))) σ (ρ.set i (some (.val (.list ds)))) := by
  obtain ⟨v, h1, a, e2, f, n, vs, h2, h3, h4⟩ := r.at_ i _ e
  subst e2
  refine ⟨a, vs, h1, h2, fun od => ?_⟩
  have im : Im H (upd H a (.frz od (.lst vs))) := Im.set h2
  have hl : i < ρ.length := (List.getElem?_eq_some_iff.mp e).1
  have back : ∀ {m : Nat} {o : PO}, (ρ.set i (some (.val (.list ds))))[m]? = some (some (.own o)) → i ≠ m ∧ ρ[m]? = some (some (.own o)) := fun {m o} em => by
    by_cases him : i = m
    · subst him; rw [List.getElem?_set_self hl] at em; cases em
    · rw [List.getElem?_set_ne him] at em; exact ⟨him, em⟩
  refine ⟨by rw [List.length_set, r.len], fun j c ej => ?_, fun j k b o o' e1 e2 e3 e4 => ?_, r.sub, fun b o eb nb => ?_, r.tok.frz n, r.he⟩
  · by_cases hij : i = j
    · subst hij
      rw [List.getElem?_set_self hl] at ej
      cases ej
      exact ⟨_, h1, .lst ⟨od, upd_same⟩ (h3.imlf im ds _ rfl), rfl⟩
    · rw [List.getElem?_set_ne hij] at ej
      obtain ⟨u, q1, q2⟩ := r.at_ j c ej
      refine ⟨u, q1, ?_⟩
      cases c with
      | val d => exact ⟨q2.1.imlf im d _ q2.2, q2.2⟩
      | own o =>
        obtain ⟨b, eb, fb, nb, q⟩ := q2
        have hne : b ≠ a := fun z => by
          subst z
          subst eb
          exact hij (r.dist i j b _ _ e ej h1 q1)
        refine ⟨b, eb, fb, nb, ?_⟩
        cases o with
        | lst es =>
          obtain ⟨us, p1, p2, p3⟩ := q
          exact ⟨us, by rw [upd_ne hne]; exact p1, p2.imlf im es _ p3, p3⟩
        | dT es =>
          obtain ⟨us, p1, p2, p3⟩ := q
          exact ⟨us, by rw [upd_ne hne]; exact p1, p2.imlf im es _ p3, p3⟩
        | dK es =>
          obtain ⟨us, p1, p2, p3⟩ := q
          exact ⟨us, by rw [upd_ne hne]; exact p1, p2.imlf im es _ p3, p3⟩
        | lT es =>
          exact q.elim
      | bor o => exact q2
      | tape => exact q2
  · exact r.dist j k b o o' (back e1).2 (back e2).2 e3 e4
  · have hne : b ≠ a := fun z => by subst z; rw [f] at eb; cases eb
    rw [upd_ne hne]
    exact r.gr b o eb nb
def kFrz (i : Nat) (m : Ro → M Res) (ρ : Ro) : Option (Option C) → M Res
  | some (some (.own (.lst ds))) => m (ρ.set i (some (.val (.list ds))))
  | _ => m ρ
def mFrz (i : Nat) (m : Ro → M Res) (ρ : Ro) : M Res := kFrz i m ρ ρ[i]?
theorem rs_frz {i : Nat} {t : TS} {m : Ro → M Res} (h1 : RS K t m) : RS K (tFrzS i t) (mFrz i m) := by
  intro tp He Hq ρ σ H D r h
  unfold mFrz kFrz at h
  split at h
  · rename_i ds e
    obtain ⟨a, vs, q1, q2, q3⟩ := r.frz e
    exact .inr ⟨a, _, q1, q2, trivial, fun od => h1 tp He Hq _ σ _ D (q3 od) h⟩
  · exact .inl (h1 tp He Hq ρ σ H D r h)
theorem mFrz_eq {i : Nat} {m : Ro → M Res} : mFrz i m ρ = kFrz i m ρ ρ[i]? := (rfl)
theorem kFrz_o {i : Nat} {m : Ro → M Res} {ds : List PyData} : kFrz i m ρ (some (some (.own (.lst ds)))) = m (ρ.set i (some (.val (.list ds)))) := (rfl)
theorem kFrz_v {i : Nat} {m : Ro → M Res} {d : PyData} : kFrz i m ρ (some (some (.val d))) = m ρ := (rfl)
theorem kFrz_b {i : Nat} {m : Ro → M Res} {o : PO} : kFrz i m ρ (some (some (.bor o))) = m ρ := (rfl)
theorem kFrz_n {i : Nat} {m : Ro → M Res} : kFrz i m ρ (some none) = m ρ := (rfl)
def frzC : C → M C
  | .own (.lst ds) => .ret (.val (.list ds))
  | c => .ret c
def gFrz (g : Ro → M C) (ρ : Ro) : M C := (g ρ).bind frzC
theorem re_frz {t : TE} {g : Ro → M C} (h1 : RE K t g) : RE K (tFrzE t) (gFrz g) := by
  intro tp He Hq ρ σ H Q r h
  refine h1 tp He Hq ρ σ H _ r (wp0_mono (fun c hc => ?_) (wp0_bind.mp h))
  intro v H1 g1 t1 rc
  unfold frzC at hc
  split at hc
  · rename_i ds
    obtain ⟨a, rfl, f, n, vs, q1, q2, q3⟩ := rc
    refine .inr ⟨a, _, rfl, q1, trivial, fun od => hc _ _ (fun b o e nb => ?_) (t1.frz n) ⟨.lst ⟨od, upd_same⟩ (q2.imlf (Im.set q1) ds _ rfl), rfl⟩⟩
    have hne : b ≠ a := fun z => by subst z; rw [f] at e; cases e
    rw [upd_ne hne]
    exact g1 b o e nb
  · exact .inl (hc v H1 g1 t1 rc)
theorem gFrz_eq {g : Ro → M C} : gFrz g ρ = (g ρ).bind frzC := (rfl)
theorem frzC_o {ds : List PyData} : frzC (.own (.lst ds)) = .ret (.val (.list ds)) := (rfl)
theorem frzC_v {d : PyData} : frzC (.val d) = .ret (.val d) := (rfl)
/-! steps over lists as data -/
theorem oIx_l {ds : List PyData} {i : Int} : oIx (.val (.list ds)) (.val (.int i)) = atD ds i := (rfl)
theorem oSl_l {ds : List PyData} {lo hi : Option Int} : oSl (.val (.list ds)) lo hi = .ret (.own (.lst (cutD ds lo hi))) := (rfl)
theorem itD_l {ds : List PyData} : itD (.val (.list ds)) = .ret ds := (rfl)
theorem itV_l {ds : List PyData} : itV (.val (.list ds)) = .ret ds := (rfl)
theorem oListC_l {ds : List PyData} : oListC [.val (.list ds)] = .ret (.own (.lst ds)) := (rfl)
theorem oTupC_l {ds : List PyData} : oTupC [.val (.list ds)] = .ret (.val (.tuple ds)) := (rfl)
theorem kIdxL_l {gs : Ro → M (List C)} {ds : List PyData} : kIdxL gs ρ (.val (.list ds)) = (gs ρ).bind (idxA ds) := (rfl)
theorem oAdd_lo {ds es : List PyData} : oAdd (.val (.list ds)) (.own (.lst es)) = if lenOk (ds.length + es.length) = true then .ret (.own (.lst (ds ++ es))) else .fail := (rfl)
theorem oAdd_ol {ds es : List PyData} : oAdd (.own (.lst ds)) (.val (.list es)) = if lenOk (ds.length + es.length) = true then .ret (.own (.lst (ds ++ es))) else .fail := (rfl)
theorem oAdd_ll {ds es : List PyData} : oAdd (.val (.list ds)) (.val (.list es)) = if lenOk (ds.length + es.length) = true then .ret (.own (.lst (ds ++ es))) else .fail := (rfl)
theorem oAdd_lb {ds es : List PyData} : oAdd (.val (.list ds)) (.bor (.lst es)) = if lenOk (ds.length + es.length) = true then .ret (.own (.lst (ds ++ es))) else .fail := (rfl)
theorem oAdd_bl {ds es : List PyData} : oAdd (.bor (.lst ds)) (.val (.list es)) = if lenOk (ds.length + es.length) = true then .ret (.own (.lst (ds ++ es))) else .fail := (rfl)
/-! ### sources that nothing changes -/
def RII (K : PySem.W.Frag) (wi : TI) (its : Ro → M (List PyData)) : Prop := ∀ tp He Hq ρ σ H (Q : It → Hp → Prop), Rel tp K He Hq H σ ρ →
  wp0 (its ρ) (fun ds => ∀ J H1, GrT tp H H1 → TOk tp H1 → Wk K H1 J [] ds → Q J H1) → wi σ H Q
def itI : C → M (List PyData)
  | .val (.tuple ds) => .ret ds
  | .val (.str z) => .ret (signsD z)
  | .val (.list ds) => .ret ds
  | _ => .fail
def gItI (g : Ro → M C) (ρ : Ro) : M (List PyData) := (g ρ).bind itI
theorem rii_seq {te : TE} {g : Ro → M C} (h1 : RE K te g) : RII K (iSeq K te) (gItI g) := by
  intro tp He Hq ρ σ H Q r h
  refine h1 tp He Hq ρ σ H _ r (wp0_mono (fun c hc => ?_) (wp0_bind.mp h))
  intro x H1 g1 t1 rx
  unfold itI at hc
  split at hc
  · rename_i ds
    obtain ⟨a, vs, rfl, q1, q2, q3⟩ := rx.tup
    exact .inr (.inl ⟨a, rfl, ⟨vs, q1⟩, hc _ H1 g1 t1 (wk_tup q1 q2 q3)⟩)
  · rename_i z
    cases rx.str
    exact .inr (.inr ⟨z, rfl, hc _ H1 g1 t1 wk_str⟩)
  · rename_i ds
    obtain ⟨a, vs, rfl, q1, q2⟩ := rx.frz
    exact .inl ⟨a, rfl, ⟨vs, q1.sq⟩, hc _ H1 g1 t1 (wk_frz q1 q2)⟩
  · exact hc.elim
theorem rii_rng1 {ta : TA} {gs : Ro → M (List C)} (h1 : RA K ta gs) : RII K (iRng1 ta) (gItR1 gs) := by
  intro tp He Hq ρ σ H Q r h
  refine h1 tp He Hq ρ σ H _ r (wp0_mono (fun cs hc => ?_) (wp0_bind.mp h))
  intro vs H1 g1 t1 rx
  unfold itR1 at hc
  split at hc
  · rename_i j
    obtain ⟨v, rfl, q⟩ := rx.one
    cases q.int
    split at hc
    · rename_i l
      obtain ⟨l1, l2⟩ := rngOk_of l
      exact ⟨j, rfl, l1, l2, hc _ H1 g1 t1 wk_rng⟩
    · exact hc.elim
  · exact hc.elim
theorem gItI_eq {g : Ro → M C} : gItI g ρ = (g ρ).bind itI := (rfl)
theorem itI_t {ds : List PyData} : itI (.val (.tuple ds)) = .ret ds := (rfl)
theorem itI_l {ds : List PyData} : itI (.val (.list ds)) = .ret ds := (rfl)
theorem itI_s {z : Str} : itI (.val (.str z)) = .ret (signsD z) := (rfl)
/-! ### two clauses -/
theorem wipeR_in {j : Nat} : ∀ {vs : List Nat} {ρ : Ro}, j ∈ vs → (wipeR ρ vs)[j]? = some none ∨ (wipeR ρ vs)[j]? = none
  | [], _, h => by simp at h
  | v :: vs, ρ, h => by
    unfold wipeR
    by_cases hv : v = j
    · subst hv
      by_cases hl : v < (wipeR ρ vs).length
      · exact .inl (List.getElem?_set_self hl)
      · exact .inr (List.getElem?_eq_none_iff.mpr (by rw [List.length_set]; omega))
    · rw [List.getElem?_set_ne hv]
      exact wipeR_in (by rcases List.mem_cons.mp h with z | z; exact absurd z.symm hv; exact z)
def lcI (a : C → Ro → M Ro) (c : Ro → M Bool) (e : Ro → M C) : List PyData → Ro → List PyData → (List PyData → M C) → M C
  | [], _, acc, k => k acc
  | d :: ds, ρ, acc, k => (a (.val d) ρ).bind fun ρ1 => (c ρ1).bind fun b => if b = true then (e ρ1).bind (fun x => match x with
    | .val y => if lenOk (acc.length + 1) = true then lcI a c e ds ρ (acc ++ [y]) k else .fail
    | _ => .fail) else lcI a c e ds ρ acc k
def lcL2 (a : C → Ro → M Ro) (c : Ro → M Bool) (its1 : Ro → M (List PyData)) (a1 : C → Ro → M Ro) (c1 : Ro → M Bool) (e : Ro → M C) (vs1 : List Nat) : List PyData → Ro → List PyData → M C
  | [], _, acc => .ret (.own (.lst acc))
  | d :: ds, ρ, acc => (a (.val d) ρ).bind fun ρ1 => (c ρ1).bind fun b => if b = true then (its1 ρ1).bind (fun es => lcI a1 c1 e es (wipeR ρ1 vs1) acc fun acc => lcL2 a c its1 a1 c1 e vs1 ds ρ acc) else lcL2 a c its1 a1 c1 e vs1 ds ρ acc
def gLc2 (its : Ro → M (List PyData)) (a : C → Ro → M Ro) (c : Ro → M Bool) (its1 : Ro → M (List PyData)) (a1 : C → Ro → M Ro) (c1 : Ro → M Bool) (e : Ro → M C) (vs vs1 : List Nat) (ρ : Ro) : M C := (its ρ).bind fun ds => lcL2 a c its1 a1 c1 e vs1 ds (wipeR ρ vs) []
/-- a target that takes data makes no list its own -/
def OV (a : C → Ro → M Ro) : Prop := ∀ (d : PyData) (ρ : Ro) (Q : Ro → Prop), wp0 (a (.val d) ρ) Q → wp0 (a (.val d) ρ) fun ρ1 => Q ρ1 ∧ ∀ (j : Nat) (o : PO), ρ1[j]? = some (some (.own o)) → ρ[j]? = some (some (.own o))
def OVs (a : List PyData → Ro → M Ro) : Prop := ∀ (ds : List PyData) (ρ : Ro) (Q : Ro → Prop), wp0 (a ds ρ) Q → wp0 (a ds ρ) fun ρ1 => Q ρ1 ∧ ∀ (j : Nat) (o : PO), ρ1[j]? = some (some (.own o)) → ρ[j]? = some (some (.own o))
theorem ov_name {i : Nat} : OV (asgR i) := by
  intro d ρ Q h
  unfold asgR at h ⊢
  split at h
  · refine ⟨h, fun j o e => ?_⟩
    by_cases hij : i = j
    · subst hij
      rw [List.getElem?_set_self (by have := (List.getElem?_eq_some_iff.mp e).1; rwa [List.length_set] at this)] at e
      cases e
    · rwa [List.getElem?_set_ne hij] at e
  · exact h.elim
theorem ovs_nil : OVs aNil := by
  intro ds ρ Q h
  unfold aNil at h ⊢
  split at h
  · exact ⟨h, fun _ _ e => e⟩
  · exact h.elim
theorem ovs_cons {a : C → Ro → M Ro} {as : List PyData → Ro → M Ro} (h1 : OV a) (h2 : OVs as) : OVs (aCons a as) := by
  intro ds ρ Q h
  unfold aCons at h ⊢
  split at h
  · rename_i d ds
    refine wp0_bind.mpr (wp0_mono (fun ρ1 q => ?_) (h1 d ρ _ (wp0_bind.mp h)))
    exact wp0_mono (fun ρ2 p => ⟨p.1, fun j o e => q.2 j o (p.2 j o e)⟩) (h2 ds ρ1 Q q.1)
  · exact h.elim
theorem ov_tup {n : Nat} {as : List PyData → Ro → M Ro} (h1 : OVs as) : OV (aTup n as) := by
  intro d ρ Q h
  cases d with
  | tuple ds =>
    by_cases l : ds.length = n
    · have e : aTup n as (.val (.tuple ds)) ρ = as ds ρ := by unfold aTup; exact if_pos l
      rw [e] at h ⊢
      exact h1 _ ρ Q h
    · have e : aTup n as (.val (.tuple ds)) ρ = .fail := by unfold aTup; exact if_neg l
      rw [e] at h
      exact h.elim
  | _ => exact (show wp0 (M.fail : M Ro) Q from h).elim
theorem re_lc2 {wi wi1 : TI} {g g1 : TG} {tt tt1 : TT} {te : TE} {its its1 : Ro → M (List PyData)} {a a1 : C → Ro → M Ro} {c c1 : Ro → M Bool} {e : Ro → M C} {sl sl1 vs vs1 : List Nat} {s : Bool} (hi : RI K s wi its) (hg : RG K g a sl) (hc : RT K tt c)
    (hov : OV a) (hi1 : RII K wi1 its1) (hg1 : RG K g1 a1 sl1) (hc1 : RT K tt1 c1) (he : RE K te e) (hs : ∀ j ∈ sl, j ∈ vs) (hs1 : ∀ j ∈ sl1, j ∈ vs1) : RE K (tLc2 wi g tt wi1 g1 tt1 te vs vs1) (gLc2 its a c its1 a1 c1 e vs vs1) := by
  intro tp He Hq ρ σ H Q r h
  refine hi tp He Hq ρ σ H _ r (wp0_mono (fun ds hd => ?_) (wp0_bind.mp h))
  intro J H1 pa gg1 t1 f w np _ D hD
  have r1 := r.go gg1 t1
  have tD : TNe tp D := t1.tne hD
  have upG : ∀ {H2 : Hp} {o : HO}, GrT tp H1 H2 → GrT tp H1 (upd H2 D o) := fun {H2 o} g b u e n => by
    have hne : b ≠ D := fun z => by subst z; rw [hD] at e; cases e
    rw [upd_ne hne]
    exact g b u e n
  have upT : ∀ {H2 : Hp} {o : HO}, TOk tp H2 → TOk tp (upd H2 D o) := fun {H2 o} t a l e => (t a l e).upd (tD a l e).1 (tD a l e).2
  have hs1' := hs
  refine ⟨fun i m H' => m = ds.length - i ∧ i ≤ ds.length ∧ ∃ acc vsa, H' D = some (.lst vsa) ∧ VlAll K H' vsa acc ∧ GrT tp H1 H' ∧ TOk tp H' ∧ wp0 (lcL2 a c its1 a1 c1 e vs1 (ds.drop i) (wipeR ρ vs) acc) (Post tp K H Q),
    ⟨ds.length, rfl, Nat.zero_le _, [], [], upd_same, .nil, upG .refl, upT t1, hd⟩, ?_⟩
  rintro i m H' ⟨rfl, hi', acc, vsa, eD, hda, g', t', h'⟩
  obtain ⟨st, go⟩ := w H' (g'.im t1) (fun p hp o e => g' p o e (np p hp))
  by_cases hlt : i < ds.length
  · obtain ⟨d, hd'⟩ : ∃ d, ds[i]? = some d := ⟨ds[i], List.getElem?_eq_getElem hlt⟩
    obtain ⟨go1, yl⟩ := go i d hd'
    have ed : ds.drop i = d :: ds.drop (i + 1) := by
      rw [List.drop_eq_getElem_cons hlt]
      have : ds[i] = d := by rw [List.getElem?_eq_getElem hlt] at hd'; exact Option.some.inj hd'
      rw [this]
    rw [ed] at h'
    refine .inr ⟨go1, fun H2 => ∃ acc vsa, H2 D = some (.lst vsa) ∧ VlAll K H2 vsa acc ∧ GrT tp H1 H2 ∧ TOk tp H2 ∧ wp0 (lcL2 a c its1 a1 c1 e vs1 (ds.drop (i + 1)) (wipeR ρ vs) acc) (Post tp K H Q),
      fun H2 ⟨acc, vsa, q⟩ => ⟨ds.length - (i + 1), by omega, rfl, hlt, acc, vsa, q⟩, fun x H2 y => ?_⟩
    obtain ⟨sm, dp⟩ := yl x H2 y
    have rw' := ((r1.go g' t').wipe vs)
    refine hg tp He Hq _ _ H' H2 x (.val d) _ rw' (.of sm) (t'.same sm) ⟨dp, rfl⟩ (wp0_mono (fun ρ1 h1 => ?_) (hov d _ _ (wp0_bind.mp (show wp0 ((a (.val d) (wipeR ρ vs)).bind _) _ from h'))))
    obtain ⟨h1, ownd⟩ := h1
    intro σ2 off r2
    have noD : ∀ (j : Nat) (o : PO), ρ1[j]? = some (some (.own o)) → σ2[j]? ≠ some (some (.ref D)) := fun j o ej hs => by
      have ej' := ownd j o ej
      have hjv : j ∉ vs := fun z => by
        have : (wipeR ρ vs)[j]? = some none ∨ (wipeR ρ vs)[j]? = none := wipeR_in z
        rcases this with q | q <;> (rw [q] at ej'; cases ej')
      rw [off.2 j (fun z => hjv (hs1' j z))] at hs
      obtain ⟨v, q1, b, eb, _, _, q⟩ := (r1.wipe vs).at_ j _ ej'
      rw [hs] at q1
      cases q1
      cases eb
      cases o with
      | lst es =>
        obtain ⟨us, p1, _⟩ := q
        rw [hD] at p1
        cases p1
      | dT es =>
        obtain ⟨us, p1, _⟩ := q
        rw [hD] at p1
        cases p1
      | dK es =>
        obtain ⟨us, p1, _⟩ := q
        rw [hD] at p1
        cases p1
      | lT es =>
        exact q.elim
    refine ⟨wipe_off off hs, ?_⟩
    refine hc tp He Hq ρ1 σ2 H2 _ r2 (wp0_mono (fun b hb => ?_) (wp0_bind.mp h1))
    intro H3 g3 t3
    have g13 : GrT tp H1 H3 := (g'.trans (.of sm)).trans g3
    have eD3 : H3 D = some (.lst vsa) := g3 D _ (sm D _ eD) tD.ne
    have im3 : Im H' H3 := (Im.same sm).trans (g3.im (t'.same sm))
    have hda3 := hda.imlf im3 acc _ rfl
    have r3 := r2.go g3 t3
    cases b with
    | false =>
      rw [if_neg Bool.false_ne_true] at hb ⊢
      exact ⟨acc, vsa, eD3, hda3, g13, t3, hb⟩
    | true =>
      rw [if_pos rfl] at hb ⊢
      refine hi1 tp He Hq ρ1 σ2 H3 _ r3 (wp0_mono (fun es hes => ?_) (wp0_bind.mp hb))
      intro J1 H4 g4 t4 w1
      have r4 := r3.go g4 t4
      have eD4 : H4 D = some (.lst vsa) := g4 D _ eD3 tD.ne
      have hda4 := hda3.imlf (g4.im t3) acc _ rfl
      refine ⟨fun j k H' => k = es.length - j ∧ j ≤ es.length ∧ ∃ acc vsa, H' D = some (.lst vsa) ∧ VlAll K H' vsa acc ∧ GrT tp H1 H' ∧ TOk tp H' ∧ Im H4 H' ∧ Rel tp K He Hq H' σ2 ρ1 ∧ wp0 (lcI a1 c1 e (es.drop j) (wipeR ρ1 vs1) acc fun acc => lcL2 a c its1 a1 c1 e vs1 (ds.drop (i + 1)) (wipeR ρ vs) acc) (Post tp K H Q),
        ⟨es.length, rfl, Nat.zero_le _, acc, vsa, eD4, hda4, g13.trans g4, t4, Im.refl _, r4, hes⟩, ?_⟩
      rintro j k H5 ⟨rfl, hj, acc, vsa, eD5, hda5, g5, t5, im5, r5, h5⟩
      obtain ⟨st1, go1'⟩ := w1 H5 im5 (fun p hp => by simp at hp)
      by_cases hlj : j < es.length
      · obtain ⟨d1, hd1⟩ : ∃ d, es[j]? = some d := ⟨es[j], List.getElem?_eq_getElem hlj⟩
        obtain ⟨goj, yl1⟩ := go1' j d1 hd1
        have ed1 : es.drop j = d1 :: es.drop (j + 1) := by
          rw [List.drop_eq_getElem_cons hlj]
          have : es[j] = d1 := by rw [List.getElem?_eq_getElem hlj] at hd1; exact Option.some.inj hd1
          rw [this]
        rw [ed1] at h5
        refine .inr ⟨goj, fun H2 => ∃ acc vsa, H2 D = some (.lst vsa) ∧ VlAll K H2 vsa acc ∧ GrT tp H1 H2 ∧ TOk tp H2 ∧ Im H4 H2 ∧ Rel tp K He Hq H2 σ2 ρ1 ∧ wp0 (lcI a1 c1 e (es.drop (j + 1)) (wipeR ρ1 vs1) acc fun acc => lcL2 a c its1 a1 c1 e vs1 (ds.drop (i + 1)) (wipeR ρ vs) acc) (Post tp K H Q),
          fun H2 ⟨acc, vsa, q⟩ => ⟨es.length - (j + 1), by omega, rfl, hlj, acc, vsa, q⟩, fun x1 H6 y1 => ?_⟩
        obtain ⟨sm1, dp1⟩ := yl1 x1 H6 y1
        refine hg1 tp He Hq _ _ H5 H6 x1 (.val d1) _ (r5.wipe vs1) (.of sm1) (t5.same sm1) ⟨dp1, rfl⟩ (wp0_mono (fun ρ6 h6 => ?_) (wp0_bind.mp (show wp0 ((a1 (.val d1) (wipeR ρ1 vs1)).bind _) _ from h5)))
        intro σ6 off6 r6
        refine ⟨wipe_off off6 hs1, ?_⟩
        refine hc1 tp He Hq ρ6 σ6 H6 _ r6 (wp0_mono (fun b hb => ?_) (wp0_bind.mp h6))
        intro H7 g7 t7
        have g57 : GrT tp H5 H7 := (GrT.of sm1).trans g7
        have im57 : Im H5 H7 := g57.im t5
        have eD7 : H7 D = some (.lst vsa) := g57 D _ eD5 tD.ne
        have hda7 := hda5.imlf im57 acc _ rfl
        cases b with
        | false =>
          rw [if_neg Bool.false_ne_true] at hb ⊢
          exact ⟨acc, vsa, eD7, hda7, g5.trans g57, t7, im5.trans im57, r5.go g57 t7, hb⟩
        | true =>
          rw [if_pos rfl] at hb ⊢
          refine he tp He Hq ρ6 σ6 H7 _ (r6.go g7 t7) (wp0_mono (fun z hz => ?_) (wp0_bind.mp hb))
          intro v H8 g8 t8 rc
          have g58 : GrT tp H5 H8 := g57.trans g8
          have im58 : Im H5 H8 := g58.im t5
          have eD8 : H8 D = some (.lst vsa) := g8 D _ eD7 tD.ne
          cases z with
          | val y =>
            have hda8 := hda5.imlf im58 acc _ rfl
            by_cases lo : lenOk (acc.length + 1) = true
            case neg => exact (show wp0 (M.fail : M C) _ by have hz' := hz; dsimp only at hz'; rwa [if_neg lo] at hz').elim
            · have hz : wp0 (lcI a1 c1 e (es.drop (j + 1)) (wipeR ρ1 vs1) (acc ++ [y]) fun acc => lcL2 a c its1 a1 c1 e vs1 (ds.drop (i + 1)) (wipeR ρ vs) acc) (Post tp K H Q) := by
                have hz' := hz
                dsimp only at hz'
                rwa [if_pos lo] at hz'
              have lo' := lenOk_le lo
              have r8 := r5.go g58 t8
              have DHq : Hq D = none := by
                cases q : Hq D with
                | none => rfl
                | some o => have := r1.gr D o q tD.ne; rw [hD] at this; cases this
              refine ⟨vsa, eD8, by rw [hda8.len]; omega, acc ++ [y], vsa ++ [v], upd_same, (hda8.app (.cons rc.1 .nil)).imlf (Im.set eD8) _ _ rfl, upG (g5.trans g58), upT t8, (im5.trans im58).trans (Im.set eD8), ?_, hz⟩
              refine ⟨r8.len, fun j c ej => ?_, r8.dist, r8.sub, fun b o eb nb => ?_, upT t8, r8.he⟩
              · obtain ⟨u, q1, q2⟩ := r8.at_ j c ej
                refine ⟨u, q1, ?_⟩
                have im : Im H8 (upd H8 D (.lst (vsa ++ [v]))) := Im.set eD8
                cases c with
                | val d => exact ⟨q2.1.imlf im d _ q2.2, q2.2⟩
                | own o =>
                  obtain ⟨b, eb, fb, nb, q⟩ := q2
                  have hne : b ≠ D := fun z => by
                    subst z
                    subst eb
                    exact noD j o ej q1
                  refine ⟨b, eb, fb, nb, ?_⟩
                  cases o with
                  | lst es =>
                    obtain ⟨us, p1, p2, p3⟩ := q
                    exact ⟨us, by rw [upd_ne hne]; exact p1, p2.imlf im es _ p3, p3⟩
                  | dT es =>
                    obtain ⟨us, p1, p2, p3⟩ := q
                    exact ⟨us, by rw [upd_ne hne]; exact p1, p2.imlf im es _ p3, p3⟩
                  | dK es =>
                    obtain ⟨us, p1, p2, p3⟩ := q
                    exact ⟨us, by rw [upd_ne hne]; exact p1, p2.imlf im es _ p3, p3⟩
                  | lT es =>
                    exact q.elim
                | bor o => exact q2
                | tape => exact q2
              · have hne : b ≠ D := fun z => by subst z; rw [DHq] at eb; cases eb
                rw [upd_ne hne]
                exact r8.gr b o eb nb
          | own o => exact hz.elim
          | bor o => exact hz.elim
          | tape => exact hz.elim
      · have e1 : j = es.length := by omega
        subst e1
        rw [List.drop_length] at h5
        exact .inl ⟨st1, acc, vsa, eD5, hda5, g5, t5, h5⟩
  · have e1 : i = ds.length := by omega
    subst e1
    rw [List.drop_length] at h'
    exact .inl ⟨st, (show Post tp K H Q (.own (.lst acc)) from h') _ H' (gg1.trans g') t' ⟨D, rfl, gg1.free t1 hD, tD, vsa, eD, hda, rfl⟩⟩
end
end Cs

set_option maxRecDepth 100000
set_option maxHeartbeats 4000000
/-! dicts: by keys that are ints and texts, by keys that are tuples of these -/
namespace Cs
open PySem PySem.Spec PyProof.Rows L2
def key1 : PyData → Option Key
  | .int i => some (.inl i)
  | .str x => some (.inr x)
  | _ => none
def keys1 : List PyData → Option (List Key)
  | [] => some []
  | d :: ds => match key1 d, keys1 ds with
    | some k, some ks => some (k :: ks)
    | _, _ => none
def keyT : PyData → Option (List Key)
  | .tuple ds => keys1 ds
  | _ => none
section
variable {κ : Type} [DecidableEq κ]
def valD (kvs : List (κ × PyData)) (k : κ) : Option PyData := (kvs.find? fun kv => decide (kv.1 = k)).map (·.2)
def putD (kvs : List (κ × PyData)) (k : κ) (v : PyData) : List (κ × PyData) :=
  if (kvs.any fun kv => decide (kv.1 = k)) = true then kvs.map (fun kv => if kv.1 = k then (kv.1, v) else kv) else kvs ++ [(k, v)]
end
section
variable {tp : Option (Addr × Addr)} {K : PySem.W.Frag} {H H' H'' H0 H1 He : Hp} {Hq : Hp} {σ : L2.St} {ρ : Ro}
theorem key1_vl {y : V} {d : PyData} {k : Key} (h : Vl K H y d) (e : key1 d = some k) : y = kV k := by
  cases h <;> cases e <;> rfl
theorem keys1_vl : ∀ {ds : List PyData} {ys : List V} {ks : List Key}, VlAll K H ys ds → keys1 ds = some ks → ys = ks.map kV
  | [], _, _, h, e => by cases h; cases e; rfl
  | d :: ds, _, ks, h, e => by
    cases h with
    | cons h1 h2 =>
      unfold keys1 at e
      split at e
      · rename_i k ks' e1 e2
        cases e
        rw [key1_vl h1 e1, keys1_vl h2 e2]
        rfl
      · cases e
theorem keyT_vl {y : V} {d : PyData} {ks : List Key} (h : Vl K H y d) (e : keyT d = some ks) : ∃ b, y = .ref b ∧ H b = some (.tup (ks.map kV)) := by
  cases h with
  | tup h1 h2 => exact ⟨_, rfl, by rw [← keys1_vl h2 e]; exact h1⟩
  | _ => cases e
section
variable {κ : Type} [DecidableEq κ]
theorem _root_.L2.KvR.get {vs : List (κ × V)} {ds : List (κ × PyData)} (k : κ) (h : KvR K H vs ds) : (valV vs k = none ∧ valD ds k = none) ∨ ∃ v d, valV vs k = some v ∧ valD ds k = some d ∧ Vl K H v d := by
  obtain ⟨h1, h2⟩ := h
  induction vs generalizing ds with
  | nil =>
    cases ds with
    | nil => exact .inl ⟨rfl, rfl⟩
    | cons _ _ => cases h1
  | cons p vs ih =>
    cases ds with
    | nil => cases h1
    | cons q ds =>
      rw [List.map_cons, List.map_cons] at h1 h2
      injection h1 with e1 e2
      cases h2 with
      | cons g1 g2 =>
        by_cases e : p.1 = k
        · refine .inr ⟨p.2, q.2, valV_pos e, ?_, g1⟩
          simp [valD, List.find?_cons, e1.symm.trans e]
        · have e' : ¬ q.1 = k := fun z => e (e1.trans z)
          have r1 : valV (p :: vs) k = valV vs k := valV_neg e
          have r2 : valD (q :: ds) k = valD ds k := by simp [valD, List.find?_cons, e']
          rw [r1, r2]
          exact ih e2 g2
theorem _root_.L2.KvR.any {vs : List (κ × V)} {ds : List (κ × PyData)} (h : KvR K H vs ds) (k : κ) : (vs.any fun kv => decide (kv.1 = k)) = ds.any fun kv => decide (kv.1 = k) := by
  have a : (vs.any fun kv => decide (kv.1 = k)) = (vs.map Prod.fst).any fun x => decide (x = k) := by rw [List.any_map]; rfl
  have b : (ds.any fun kv => decide (kv.1 = k)) = (ds.map Prod.fst).any fun x => decide (x = k) := by rw [List.any_map]; rfl
  rw [a, b, h.1]
theorem kv_repl {k : κ} {v : V} {d : PyData} (hv : Vl K H v d) : ∀ {vs : List (κ × V)} {ds : List (κ × PyData)}, KvR K H vs ds → KvR K H (vs.map fun kv => if kv.1 = k then (kv.1, v) else kv) (ds.map fun kv => if kv.1 = k then (kv.1, d) else kv)
  | [], [], h => h
  | [], _ :: _, h => by cases h.1
  | _ :: _, [], h => by cases h.1
  | p :: vs, q :: ds, ⟨h1, h2⟩ => by
    rw [List.map_cons, List.map_cons] at h1 h2
    injection h1 with e1 e2
    cases h2 with
    | cons g1 g2 =>
      obtain ⟨i1, i2⟩ := kv_repl (k := k) hv (vs := vs) (ds := ds) ⟨e2, g2⟩
      rw [List.map_cons, List.map_cons]
      by_cases e : p.1 = k
      · rw [if_pos e, if_pos (e1.symm.trans e)]
        exact ⟨by rw [List.map_cons, List.map_cons, i1, e1], .cons hv i2⟩
      · rw [if_neg e, if_neg fun z => e (e1.trans z)]
        exact ⟨by rw [List.map_cons, List.map_cons, i1, e1], .cons g1 i2⟩
theorem _root_.L2.KvR.put {vs : List (κ × V)} {ds : List (κ × PyData)} {k : κ} {v : V} {d : PyData} (h : KvR K H vs ds) (hv : Vl K H v d) : KvR K H (putK vs k v) (putD ds k d) := by
  unfold putK putD
  rw [h.any k]
  split
  · exact kv_repl hv h
  · exact ⟨by rw [List.map_append, List.map_append, h.1]; rfl, by rw [List.map_append, List.map_append]; exact h.2.app (.cons hv .nil)⟩
theorem _root_.L2.KvR.len {vs : List (κ × V)} {ds : List (κ × PyData)} (h : KvR K H vs ds) : vs.length = ds.length := by
  have := congrArg List.length h.1
  rwa [List.length_map, List.length_map] at this
end
/-! a dict, read -/
def C.kvT : C → Option (List (List Key × PyData))
  | .own (.dT ds) => some ds
  | .bor (.dT ds) => some ds
  | .bor (.lT ds) => some ds
  | _ => none
def C.kvK : C → Option (List (Key × PyData))
  | .own (.dK ds) => some ds
  | .bor (.dK ds) => some ds
  | _ => none
theorem RC.dT {v : V} {c : C} {ds : List (List Key × PyData)} (h : RC tp K H0 H v c) (e : c.kvT = some ds) : ∃ a vs, v = .ref a ∧ Rd H a (.dT vs) ∧ KvR K H vs ds := by
  cases c with
  | val d => cases e
  | tape => cases e
  | own o =>
    cases o with
    | lst _ => cases e
    | dK _ => cases e
    | lT _ => cases e
    | dT _ =>
      cases e
      obtain ⟨a, rfl, _, _, vs, h1, h2, _⟩ := h
      exact ⟨a, vs, rfl, .inl h1, h2⟩
  | bor o =>
    cases o with
    | lst _ => cases e
    | dK _ => cases e
    | lT _ =>
      cases e
      obtain ⟨a, rfl, vs, h1, h2, _⟩ := h
      exact ⟨a, vs, rfl, .inr h1.1, h2⟩
    | dT _ =>
      cases e
      obtain ⟨a, rfl, vs, h1, h2, _⟩ := h
      exact ⟨a, vs, rfl, h1.1, h2⟩
theorem RC.dK {v : V} {c : C} {ds : List (Key × PyData)} (h : RC tp K H0 H v c) (e : c.kvK = some ds) : ∃ a vs, v = .ref a ∧ Rd H a (.dK vs) ∧ KvR K H vs ds := by
  cases c with
  | val d => cases e
  | tape => cases e
  | own o =>
    cases o with
    | lst _ => cases e
    | dT _ => cases e
    | lT _ => cases e
    | dK _ =>
      cases e
      obtain ⟨a, rfl, _, _, vs, h1, h2, _⟩ := h
      exact ⟨a, vs, rfl, .inl h1, h2⟩
  | bor o =>
    cases o with
    | lst _ => cases e
    | dT _ => cases e
    | lT _ => cases e
    | dK _ =>
      cases e
      obtain ⟨a, rfl, vs, h1, h2, _⟩ := h
      exact ⟨a, vs, rfl, h1.1, h2⟩
/-- what the dict c holds at the key d; none: no dict, or no key that may be asked -/
def lkD (c : C) (d : PyData) : Option (Option PyData) := match c.kvT, c.kvK with
  | some ds, _ => (match keyT d with
    | some k => some (valD ds k)
    | none => none)
  | none, some ds => (match key1 d with
    | some k => some (valD ds k)
    | none => none)
  | none, none => none
theorem lkD_ok {x y : V} {c : C} {d : PyData} {o : Option PyData} (rx : RC tp K H0 H x c) (hy : Vl K H y d) (e : lkD c d = some o) :
    ∃ a o', x = .ref a ∧ DGet H a y o' ∧ ((o' = none ∧ o = none) ∨ ∃ v z, o' = some v ∧ o = some z ∧ Vl K H v z) := by
  unfold lkD at e
  split at e
  · rename_i ds _ e1
    split at e
    · rename_i k ek
      cases e
      obtain ⟨a, vs, rfl, r, h⟩ := rx.dT e1
      obtain ⟨b, rfl, hb⟩ := keyT_vl hy ek
      refine ⟨a, valV vs k, rfl, .inr ⟨vs, k, b, r, rfl, hb, rfl⟩, ?_⟩
      exact h.get k
    · cases e
  · rename_i ds _ e1
    split at e
    · rename_i k ek
      cases e
      obtain ⟨a, vs, rfl, r, h⟩ := rx.dK e1
      refine ⟨a, valV vs k, rfl, .inl ⟨vs, k, r, key1_vl hy ek, rfl⟩, ?_⟩
      exact h.get k
    · cases e
  · cases e
/-! d[k] -/
def oDGet : C → C → M C
  | c, .val d => (match lkD c d with
    | some (some z) => .ret (.val z)
    | _ => .fail)
  | _, _ => .fail
theorem re_dget {td ty : TE} {gd gy : Ro → M C} (h1 : RE K td gd) (h2 : RE K ty gy) : RE K (tDGet td ty) (gOp oDGet gd gy) := by
  intro tp He Hq ρ σ H Q r h
  refine h1 tp He Hq ρ σ H _ r (wp0_mono (fun c hc => ?_) (wp0_bind.mp h))
  intro x H1 g1 t1 rx
  refine h2 tp He Hq ρ σ H1 _ (r.go g1 t1) (wp0_mono (fun c' hc' => ?_) (wp0_bind.mp hc))
  intro y H2 g2 t2 ry
  have rx2 := rx.gr g2 t1
  unfold oDGet at hc'
  split at hc'
  · rename_i d
    split at hc'
    · rename_i z e
      obtain ⟨a, o', ex, dg, q⟩ := lkD_ok rx2 ry.1 e
      rcases q with ⟨_, z⟩ | ⟨v, z', e1, e2, hv⟩
      · cases z
      · cases e2
        subst e1
        exact ⟨a, v, ex, dg, hc' v H2 (g1.trans g2) t2 ⟨hv, rfl⟩⟩
    · exact hc'.elim
  · exact hc'.elim
/-! k in d -/
def oDIn (n : Bool) : C → C → M C
  | .val d, c => (match lkD c d with
    | some o => .ret (.val (.bool (n ^^ o.isSome)))
    | _ => .fail)
  | _, _ => .fail
theorem re_din {td ty : TE} {gd gy : Ro → M C} (h1 : RE K ty gy) (h2 : RE K td gd) : RE K (tDIn ty td) (gOp (oDIn false) gy gd) := by
  intro tp He Hq ρ σ H Q r h
  refine h1 tp He Hq ρ σ H _ r (wp0_mono (fun c hc => ?_) (wp0_bind.mp h))
  intro y H1 g1 t1 ry
  refine h2 tp He Hq ρ σ H1 _ (r.go g1 t1) (wp0_mono (fun c' hc' => ?_) (wp0_bind.mp hc))
  intro x H2 g2 t2 rx
  have ry2 := ry.gr g2 t1
  unfold oDIn at hc'
  split at hc'
  · rename_i d
    split at hc'
    · rename_i o e
      obtain ⟨a, o', ex, dg, q⟩ := lkD_ok rx ry2.1 e
      refine ⟨a, o', ex, dg, ?_⟩
      have : o'.isSome = o.isSome := by
        rcases q with ⟨e1, e2⟩ | ⟨v, z', e1, e2, _⟩ <;> (rw [e1, e2]; try rfl)
      rw [this]
      rw [Bool.false_xor] at hc'
      exact Post.bl hc' (g1.trans g2) t2
    · exact hc'.elim
  · exact hc'.elim
theorem re_dnotin {td ty : TE} {gd gy : Ro → M C} (h1 : RE K ty gy) (h2 : RE K td gd) : RE K (tDNotIn ty td) (gOp (oDIn true) gy gd) := by
  intro tp He Hq ρ σ H Q r h
  refine h1 tp He Hq ρ σ H _ r (wp0_mono (fun c hc => ?_) (wp0_bind.mp h))
  intro y H1 g1 t1 ry
  refine h2 tp He Hq ρ σ H1 _ (r.go g1 t1) (wp0_mono (fun c' hc' => ?_) (wp0_bind.mp hc))
  intro x H2 g2 t2 rx
  have ry2 := ry.gr g2 t1
  unfold oDIn at hc'
  split at hc'
  · rename_i d
    split at hc'
    · rename_i o e
      obtain ⟨a, o', ex, dg, q⟩ := lkD_ok rx ry2.1 e
      refine ⟨a, o', ex, dg, ?_⟩
      have : o'.isSome = o.isSome := by
        rcases q with ⟨e1, e2⟩ | ⟨v, z', e1, e2, _⟩ <;> (rw [e1, e2]; try rfl)
      rw [this]
      rw [Bool.true_xor] at hc'
      exact Post.bl hc' (g1.trans g2) t2
    · exact hc'.elim
  · exact hc'.elim
/-! d.get(k) -/
theorem RC.isD {x : V} {c : C} (rx : RC tp K H0 H x c) {d : PyData} {o : Option PyData} (e : lkD c d = some o) : ∃ a, x = .ref a ∧ IsD H a := by
  unfold lkD at e
  split at e
  · rename_i ds _ e1
    obtain ⟨a, vs, rfl, r, h⟩ := rx.dT e1
    exact ⟨a, rfl, .inr ⟨vs, r⟩⟩
  · rename_i ds _ e1
    obtain ⟨a, vs, rfl, r, h⟩ := rx.dK e1
    exact ⟨a, rfl, .inl ⟨vs, r⟩⟩
  · cases e
def C.isDict (c : C) : Bool := c.kvT.isSome || c.kvK.isSome
theorem RC.isDict {x : V} {c : C} (rx : RC tp K H0 H x c) (e : c.isDict = true) : ∃ a, x = .ref a ∧ IsD H a := by
  unfold C.isDict at e
  cases q : c.kvT with
  | some ds =>
    obtain ⟨a, vs, rfl, r, h⟩ := rx.dT q
    exact ⟨a, rfl, .inr ⟨vs, r⟩⟩
  | none =>
    cases q2 : c.kvK with
    | some ds =>
      obtain ⟨a, vs, rfl, r, h⟩ := rx.dK q2
      exact ⟨a, rfl, .inl ⟨vs, r⟩⟩
    | none => rw [q, q2] at e; cases e
def oDGet1 (c : C) : C → M C
  | .val d => (match lkD c d with
    | some o => .ret (.val (o.getD .none))
    | _ => .fail)
  | _ => .fail
def gDGet1 (gd gy : Ro → M C) (ρ : Ro) : M C := (gd ρ).bind fun c => if c.isDict = true then (gy ρ).bind (oDGet1 c) else .fail
theorem re_dget1 {td ty : TE} {gd gy : Ro → M C} (h1 : RE K td gd) (h2 : RE K ty gy) : RE K (tDGet1 td ty) (gDGet1 gd gy) := by
  intro tp He Hq ρ σ H Q r h
  refine h1 tp He Hq ρ σ H _ r (wp0_mono (fun c hc => ?_) (wp0_bind.mp h))
  intro x H1 g1 t1 rx
  split at hc
  · rename_i isd
    obtain ⟨a, rfl, ia⟩ := rx.isDict isd
    refine ⟨a, rfl, ia, ?_⟩
    refine h2 tp He Hq ρ σ H1 _ (r.go g1 t1) (wp0_mono (fun c' hc' => ?_) (wp0_bind.mp hc))
    intro y H2 g2 t2 ry
    have rx2 := rx.gr g2 t1
    unfold oDGet1 at hc'
    split at hc'
    · rename_i d
      split at hc'
      · rename_i o e
        obtain ⟨b, o', ex, dg, q⟩ := lkD_ok rx2 ry.1 e
        cases ex
        refine ⟨o', dg, ?_⟩
        rcases q with ⟨e1, e2⟩ | ⟨v, z', e1, e2, hv⟩
        · subst e1 e2
          exact hc' _ H2 (g1.trans g2) t2 ⟨.non, rfl⟩
        · subst e1 e2
          exact hc' _ H2 (g1.trans g2) t2 ⟨hv, rfl⟩
      · exact hc'.elim
    · exact hc'.elim
  · exact hc.elim
/-! {} -/
def gNewT (_ : Ro) : M C := .ret (.own (.dT []))
def gNewK (_ : Ro) : M C := .ret (.own (.dK []))
theorem re_newT : RE K tDNewT gNewT := by
  intro tp He Hq ρ σ H Q r h
  intro p hp
  exact (show Post tp K H Q (.own (.dT [])) from h) _ _ (.of (Same.new hp)) (r.tok.same (Same.new hp)) ⟨p, rfl, hp, r.tok.tne hp, [], upd_same, ⟨rfl, .nil⟩, trivial⟩
theorem re_newK : RE K tDNewK gNewK := by
  intro tp He Hq ρ σ H Q r h
  intro p hp
  exact (show Post tp K H Q (.own (.dK [])) from h) _ _ (.of (Same.new hp)) (r.tok.same (Same.new hp)) ⟨p, rfl, hp, r.tok.tne hp, [], upd_same, ⟨rfl, .nil⟩, trivial⟩
/-! d[k] = v -/
theorem Im.mut {t : Addr} {H : Hp} {u o : HO} (h : H t = some u) (m : Mut (some u)) : Im H (upd H t o) :=
  ⟨fun b xs e => by
    have hne : b ≠ t := fun z => by subst z; rw [h] at e; cases e; exact m
    rw [upd_ne hne]; exact e,
   fun b o u' e => by
    have hne : b ≠ t := fun z => by subst z; rw [h] at e; cases e; exact m
    rw [upd_ne hne]; exact e⟩
theorem OwnO.mut {a : Addr} {o : PO} (h : OwnO K H a o) : ∃ u, H a = some u ∧ Mut (some u) := by
  cases o with
  | lst ds => obtain ⟨vs, h1, _⟩ := h; exact ⟨_, h1, trivial⟩
  | dT ds => obtain ⟨vs, h1, _⟩ := h; exact ⟨_, h1, trivial⟩
  | dK ds => obtain ⟨vs, h1, _⟩ := h; exact ⟨_, h1, trivial⟩
  | lT _ => exact h.elim
theorem OwnO.upd {a b : Addr} {o : PO} {u w : HO} (h : OwnO K H b o) (hne : b ≠ a) (e : H a = some w) (m : Mut (some w)) : OwnO K (upd H a u) b o := by
  have im : Im H (L2.upd H a u) := Im.mut e m
  cases o with
  | lst ds =>
    obtain ⟨vs, h1, h2, h3⟩ := h
    exact ⟨vs, by rw [upd_ne hne]; exact h1, h2.imlf im ds _ h3, h3⟩
  | dT ds =>
    obtain ⟨vs, h1, h2, h3⟩ := h
    exact ⟨vs, by rw [upd_ne hne]; exact h1, h2.imlf im ds _ h3, h3⟩
  | dK ds =>
    obtain ⟨vs, h1, h2, h3⟩ := h
    exact ⟨vs, by rw [upd_ne hne]; exact h1, h2.imlf im ds _ h3, h3⟩
  | lT ds =>
    exact h.elim
/-- an object of one's own is replaced -/
theorem Rel.setO {i : Nat} {o : PO} (r : Rel tp K He Hq H σ ρ) (e : ρ[i]? = some (some (.own o))) : ∃ a, σ[i]? = some (some (.ref a)) ∧ OwnO K H a o ∧
    (∀ u o', OwnO K (upd H a u) a o' → Rel tp K He Hq (upd H a u) σ (ρ.set i (some (.own o')))) := by
  obtain ⟨v, h1, a, e2, f, n, q0⟩ := r.at_ i _ e
  subst e2
  refine ⟨a, h1, q0, fun u o' hn => ?_⟩
  obtain ⟨w, hw, mw⟩ := q0.mut
  have im : Im H (upd H a u) := Im.mut hw mw
  have hl : i < ρ.length := (List.getElem?_eq_some_iff.mp e).1
  refine ⟨by rw [List.length_set, r.len], fun j c ej => ?_, fun j k b oo oo' e1 e2 e3 e4 => ?_, r.sub, fun b o eb nb => ?_, fun t l et => (r.tok t l et).upd (n t l et).1 (n t l et).2, r.he⟩
  · by_cases hij : i = j
    · subst hij
      rw [List.getElem?_set_self hl] at ej
      cases ej
      exact ⟨_, h1, a, rfl, f, n, hn⟩
    · rw [List.getElem?_set_ne hij] at ej
      obtain ⟨u, q1, q2⟩ := r.at_ j c ej
      refine ⟨u, q1, ?_⟩
      cases c with
      | val d => exact ⟨q2.1.imlf im d _ q2.2, q2.2⟩
      | own o =>
        obtain ⟨b, eb, fb, nb, q⟩ := q2
        have hne : b ≠ a := fun z => by
          subst z
          subst eb
          exact hij (r.dist i j b _ _ e ej h1 q1)
        exact ⟨b, eb, fb, nb, q.upd hne hw mw⟩
      | bor o => exact q2
      | tape => exact q2
  · have own_of : ∀ {m : Nat} {o : PO}, (ρ.set i (some (.own o')))[m]? = some (some (.own o)) → ∃ o, ρ[m]? = some (some (.own o)) := fun {m o} em => by
      by_cases him : i = m
      · subst him; exact ⟨_, e⟩
      · rw [List.getElem?_set_ne him] at em; exact ⟨_, em⟩
    obtain ⟨o1, e1'⟩ := own_of e1
    obtain ⟨o2, e2'⟩ := own_of e2
    exact r.dist j k b o1 o2 e1' e2' e3 e4
  · have hne : b ≠ a := fun z => by subst z; rw [f] at eb; cases eb
    rw [upd_ne hne]
    exact r.gr b o eb nb
end
end Cs

set_option maxRecDepth 100000
set_option maxHeartbeats 4000000
/-! dicts: stored into, walked while they are locked -/
namespace Cs
open PySem PySem.Spec PyProof.Rows L2
section
variable {tp : Option (Addr × Addr)} {K : PySem.W.Frag} {H H' H'' H0 H1 H2 He : Hp} {Hq : Hp} {σ : L2.St} {ρ : Ro}
/-! d[k] = v -/
def kPutT (i : Nat) (ρ : Ro) (ds : List (List Key × PyData)) : C → C → M Res
  | .val d, .val kd => (match keyT kd with
    | some k => if lenOk (ds.length + 1) = true then .ret (.nx (ρ.set i (some (.own (.dT (putD ds k d)))))) else .fail
    | none => .fail)
  | _, _ => .fail
def kPutK (i : Nat) (ρ : Ro) (ds : List (Key × PyData)) : C → C → M Res
  | .val d, .val kd => (match key1 kd with
    | some k => if lenOk (ds.length + 1) = true then .ret (.nx (ρ.set i (some (.own (.dK (putD ds k d)))))) else .fail
    | none => .fail)
  | _, _ => .fail
def dputAt (i : Nat) (gv gk : Ro → M C) (ρ : Ro) : Option (Option C) → M Res
  | some (some (.own (.dT ds))) => (gv ρ).bind fun cv => (gk ρ).bind fun ck => kPutT i ρ ds cv ck
  | some (some (.own (.dK ds))) => (gv ρ).bind fun cv => (gk ρ).bind fun ck => kPutK i ρ ds cv ck
  | _ => .fail
def mDPut (i : Nat) (gv gk : Ro → M C) (ρ : Ro) : M Res := dputAt i gv gk ρ ρ[i]?
theorem rs_dput {i : Nat} {ty tv : TE} {gk gv : Ro → M C} (h1 : RE K tv gv) (h2 : RE K ty gk) : RS K (sDPut (tVar i) ty tv) (mDPut i gv gk) := by
  intro tp He Hq ρ σ H D r h
  have zl : sizeLine = 16777216 := by decide
  unfold mDPut dputAt at h
  split at h
  · rename_i ds e
    refine h1 tp He Hq ρ σ H _ r (wp0_mono (fun cv hcv => ?_) (wp0_bind.mp h))
    intro v H1 g1 t1 rv
    have r1 := r.go g1 t1
    obtain ⟨a, hs, _⟩ := r1.setO e
    refine ⟨.ref a, hs, ?_⟩
    refine h2 tp He Hq ρ σ H1 _ r1 (wp0_mono (fun ck hck => ?_) (wp0_bind.mp hcv))
    intro y H3 g3 t3 ry
    have r3 := r1.go g3 t3
    have rv3 := rv.gr g3 t1
    obtain ⟨a', hs', ⟨vs, q1, q2, _⟩, put⟩ := r3.setO e
    have : a' = a := by rw [hs] at hs'; cases hs'; rfl
    subst this
    unfold kPutT at hck
    split at hck
    · rename_i d kd
      split at hck
      · rename_i k ek
        split at hck
        · rename_i lo
          have lo' := lenOk_le lo
          obtain ⟨b, rfl, hb⟩ := keyT_vl ry.1 ek
          refine ⟨a', _, rfl, DPut.t q1 hb (by rw [q2.len]; omega), ?_⟩
          exact (show NxOk tp K He Hq D.nx _ from hck) σ _ Hq .refl (put _ _ ⟨_, upd_same, (q2.put rv3.1).imlf (Im.mut q1 trivial) _ _ trivial, trivial⟩)
        · exact hck.elim
      · exact hck.elim
    · exact hck.elim
  · rename_i ds e
    refine h1 tp He Hq ρ σ H _ r (wp0_mono (fun cv hcv => ?_) (wp0_bind.mp h))
    intro v H1 g1 t1 rv
    have r1 := r.go g1 t1
    obtain ⟨a, hs, _⟩ := r1.setO e
    refine ⟨.ref a, hs, ?_⟩
    refine h2 tp He Hq ρ σ H1 _ r1 (wp0_mono (fun ck hck => ?_) (wp0_bind.mp hcv))
    intro y H3 g3 t3 ry
    have r3 := r1.go g3 t3
    have rv3 := rv.gr g3 t1
    obtain ⟨a', hs', ⟨vs, q1, q2, _⟩, put⟩ := r3.setO e
    have : a' = a := by rw [hs] at hs'; cases hs'; rfl
    subst this
    unfold kPutK at hck
    split at hck
    · rename_i d kd
      split at hck
      · rename_i k ek
        split at hck
        · rename_i lo
          have lo' := lenOk_le lo
          have ey := key1_vl ry.1 ek
          subst ey
          refine ⟨a', _, rfl, DPut.k q1 (by rw [q2.len]; omega), ?_⟩
          exact (show NxOk tp K He Hq D.nx _ from hck) σ _ Hq .refl (put _ _ ⟨_, upd_same, (q2.put rv3.1).imlf (Im.mut q1 trivial) _ _ trivial, trivial⟩)
        · exact hck.elim
      · exact hck.elim
    · exact hck.elim
  · exact h.elim
/-! ### locked -/
mutual
theorem Vl.unl {a : Addr} {od : Obj} {w u : HO} (hw : H a = some (.frz od w)) (nl : ∀ xs, w ≠ .lst xs) : ∀ (d : PyData) (v : V), Vl K H v d → Vl K (upd H a u) v d
  | .none, _, h => by cases h; exact .non
  | .bool _, _, h => by cases h; exact .bl _
  | .int _, _, h => by cases h; exact .int _
  | .str _, _, h => by cases h; exact .str _
  | .list ds, _, h => by
    cases h with
    | lst hs ha =>
      obtain ⟨o, hs⟩ := hs
      refine .lst ⟨o, ?_⟩ (VlAll.unl hw nl ds _ ha)
      rw [upd_ne (fun z => by rw [z, hw] at hs; cases hs; exact nl _ rfl)]
      exact hs
  | .dict _, _, h => by cases h
  | .tuple ds, _, h => by
    cases h with
    | tup hs ha =>
      refine .tup ?_ (VlAll.unl hw nl ds _ ha)
      rw [upd_ne (fun z => by rw [z, hw] at hs; cases hs)]
      exact hs
theorem VlAll.unl {a : Addr} {od : Obj} {w u : HO} (hw : H a = some (.frz od w)) (nl : ∀ xs, w ≠ .lst xs) : ∀ (ds : List PyData) (vs : List V), VlAll K H vs ds → VlAll K (upd H a u) vs ds
  | [], _, h => by cases h; exact .nil
  | d :: ds, _, h => by
    cases h with
    | cons h1 h2 => exact .cons (Vl.unl hw nl d _ h1) (VlAll.unl hw nl ds _ h2)
end
theorem Rel.lockT {i : Nat} {ds : List (List Key × PyData)} (r : Rel tp K He Hq H σ ρ) (e : ρ[i]? = some (some (.own (.dT ds)))) : ∃ a vs, σ[i]? = some (some (.ref a)) ∧ H a = some (.dT vs) ∧ TNe tp a ∧
    ∀ od, ∃ Hq3, Rel tp K He Hq3 (upd H a (.frz od (.dT vs))) σ (ρ.set i (some (.bor (.lT ds)))) := by
  obtain ⟨v, h1, a, e2, f, n, vs, q1, q2, q3⟩ := r.at_ i _ e
  subst e2
  refine ⟨a, vs, h1, q1, n, fun od => ?_⟩
  have nown : ∀ (j : Nat) (o : PO), (ρ.set i none)[j]? = some (some (.own o)) → σ[j]? ≠ some (some (.ref a)) := fun j o ej hs => by
    obtain ⟨n1, e'⟩ := Rel.forgot ej
    exact n1 (r.dist i j a _ _ e e' h1 hs)
  have np : ∀ p ∈ [a], tp.map (·.1) ≠ some p := fun p m => by
    have : p = a := by simpa using m
    subst this
    exact n.ne
  have w : Wk K H ⟨fun _ _ => False, fun _ _ _ _ => False, fun _ _ => True⟩ [a] [] := fun H' _ _ => ⟨trivial, fun i d z => by simp at z⟩
  obtain ⟨Hq2, g2, r2, _, im, eqs⟩ := (r.forget (i := i)).more (pa := [a]) (fun p j o m ej => by
    have : p = a := by simpa using m
    subst this
    exact nown j o ej) np w
  have ea : Hq2 a = some (.dT vs) := (eqs a n.ne nown).trans q1
  have imH : Im H (upd H a (.frz od (.dT vs))) := Im.mut q1 trivial
  have imQ : Im Hq2 (upd Hq2 a (.frz od (.dT vs))) := Im.mut ea trivial
  have rdq : ∀ {b : Addr} {u : HO}, Rd Hq2 b u → Rd (upd Hq2 a (.frz od (.dT vs))) b u := fun {b u} h => by
    by_cases hb : b = a
    · subst hb
      rcases h with h | ⟨o, h⟩
      · rw [ea] at h; cases h; exact .inr ⟨od, upd_same⟩
      · rw [ea] at h; cases h
    · rcases h with h | ⟨o, h⟩
      · exact .inl (by rw [upd_ne hb]; exact h)
      · exact .inr ⟨o, by rw [upd_ne hb]; exact h⟩
  have borq : ∀ {b : Addr} {o : PO}, BorO tp K Hq2 b o → BorO tp K (upd Hq2 a (.frz od (.dT vs))) b o := fun {b o} h => by
    cases o with
    | lst es => obtain ⟨us, p1, p2, p3⟩ := h; exact ⟨us, ⟨rdq p1.1, p1.2⟩, p2.imlf imQ _ _ p3, p3⟩
    | dT es => obtain ⟨us, p1, p2, p3⟩ := h; exact ⟨us, ⟨rdq p1.1, p1.2⟩, p2.imlf imQ _ _ p3, p3⟩
    | dK es => obtain ⟨us, p1, p2, p3⟩ := h; exact ⟨us, ⟨rdq p1.1, p1.2⟩, p2.imlf imQ _ _ p3, p3⟩
    | lT es =>
      obtain ⟨us, ⟨⟨o, p1⟩, p4⟩, p2, p3⟩ := h
      exact ⟨us, ⟨⟨o, imQ.frz _ _ _ p1⟩, p4⟩, p2.imlf imQ _ _ p3, p3⟩
  have r3 : Rel tp K He (upd Hq2 a (.frz od (.dT vs))) (upd H a (.frz od (.dT vs))) σ (ρ.set i none) := by
    refine ⟨r2.len, fun j c ej => ?_, r2.dist, fun b o eb nb => ?_, fun b o eb nb => ?_, fun t l et => (r2.tok t l et).upd (n t l et).1 (n t l et).2, fun t l et => ?_⟩
    · obtain ⟨u, p1, p2⟩ := r2.at_ j c ej
      refine ⟨u, p1, ?_⟩
      cases c with
      | val d => exact ⟨p2.1.imlf imH d _ p2.2, p2.2⟩
      | own o =>
        obtain ⟨b, eb, fb, nb, q⟩ := p2
        have hne : b ≠ a := fun z => by subst z; rw [ea] at fb; cases fb
        exact ⟨b, eb, by rw [upd_ne hne]; exact fb, nb, q.upd hne q1 trivial⟩
      | bor o =>
        obtain ⟨b, eb, q⟩ := p2
        exact ⟨b, eb, borq q⟩
      | tape => exact p2
    · have hne : b ≠ a := fun z => by subst z; have := r.sub b o eb nb; rw [f] at this; cases this
      rw [upd_ne hne]
      exact r2.sub b o eb nb
    · by_cases hb : b = a
      · subst hb; rw [upd_same] at eb; rw [upd_same]; exact eb
      · rw [upd_ne hb] at eb; rw [upd_ne hb]; exact r2.gr b o eb nb
    · have hne : t ≠ a := fun z => (n t l et).1 z.symm
      rw [upd_ne hne]
      exact r2.he t l et
  have r4 := r3.put (i := i) (v := .ref a) (c := .bor (.lT ds)) ⟨a, rfl, vs, ⟨⟨od, upd_same⟩, n.ne⟩, (q2.imlf im _ _ trivial).imlf imQ _ _ trivial, trivial⟩ (fun _ _ z => by cases z)
  rw [List.set_set] at r4
  have es : σ.set i (some (.ref a)) = σ := by
    refine List.ext_getElem? fun j => ?_
    by_cases hij : i = j
    · subst hij
      rw [List.getElem?_set_self (List.getElem?_eq_some_iff.mp h1).1, h1]
    · rw [List.getElem?_set_ne hij]
  rw [es] at r4
  exact ⟨_, r4⟩
def lockC : C → M C
  | .val d => .ret (.val d)
  | .own o => .ret (.own o)
  | _ => .fail
def lockAt (i : Nat) (g : Ro → M C) (ρ : Ro) : Option (Option C) → M C
  | some (some (.own (.dT ds))) => (g (ρ.set i (some (.bor (.lT ds))))).bind lockC
  | _ => .fail
def gLock (i : Nat) (g : Ro → M C) (ρ : Ro) : M C := lockAt i g ρ ρ[i]?
theorem re_lock {i : Nat} {t : TE} {g : Ro → M C} (h1 : RE K t g) : RE K (tLockE t) (gLock i g) := by
  intro tp He Hq ρ σ H Q r h
  unfold gLock lockAt at h
  split at h
  · rename_i ds e
    obtain ⟨a, vs, hs, hH, na, q⟩ := r.lockT e
    refine ⟨a, _, hH, trivial, fun od => ?_⟩
    obtain ⟨Hq3, r3⟩ := q od
    refine h1 tp He Hq3 _ σ _ _ r3 (wp0_mono (fun c hc => ?_) (wp0_bind.mp h))
    intro v H2 g2 t2 rc
    have hf : H2 a = some (.frz od (.dT vs)) := g2 a _ upd_same na.ne
    refine ⟨hf, ?_⟩
    have gg : GrT tp H (upd H2 a (.dT vs)) := fun b o eb nb => by
      by_cases hb : b = a
      · subst hb; rw [upd_same, ← eb, hH]
      · rw [upd_ne hb]
        exact g2 b o (by rw [upd_ne hb]; exact eb) nb
    have tt : TOk tp (upd H2 a (.dT vs)) := fun t l et => by
      exact (t2 t l et).upd (na t l et).1 (na t l et).2
    unfold lockC at hc
    split at hc
    · rename_i d
      exact hc v _ gg tt ⟨Vl.unl hf (fun _ z => by cases z) d v rc.1, rfl⟩
    · rename_i o
      obtain ⟨b, rfl, fb, nb, q⟩ := rc
      have hne : b ≠ a := fun z => by subst z; rw [upd_same] at fb; cases fb
      refine hc _ _ gg tt ⟨b, rfl, by rwa [upd_ne hne] at fb, nb, ?_⟩
      cases o with
      | lst es => obtain ⟨us, p1, p2, p3⟩ := q; exact ⟨us, by rw [upd_ne hne]; exact p1, VlAll.unl hf (fun _ z => by cases z) _ _ p2, p3⟩
      | dT es => obtain ⟨us, p1, p2, p3⟩ := q; exact ⟨us, by rw [upd_ne hne]; exact p1, ⟨p2.1, VlAll.unl hf (fun _ z => by cases z) _ _ p2.2⟩, p3⟩
      | dK es => obtain ⟨us, p1, p2, p3⟩ := q; exact ⟨us, by rw [upd_ne hne]; exact p1, ⟨p2.1, VlAll.unl hf (fun _ z => by cases z) _ _ p2.2⟩, p3⟩
      | lT _ => exact q.elim
    · exact hc.elim
  · exact h.elim
/-! the keys of a locked dict -/
def kD : Key → PyData
  | .inl i => .int i
  | .inr x => .str x
def keyD (ks : List Key) : PyData := .tuple (ks.map kD)
theorem vl_kD : ∀ ks : List Key, VlAll K H (ks.map kV) (ks.map kD)
  | [] => .nil
  | .inl i :: ks => .cons (.int i) (vl_kD ks)
  | .inr x :: ks => .cons (.str x) (vl_kD ks)
def keysAt : Option (Option C) → M (List PyData)
  | some (some (.bor (.lT ds))) => .ret (ds.map fun kv => keyD kv.1)
  | _ => .fail
def gKeys (i : Nat) (ρ : Ro) : M (List PyData) := keysAt ρ[i]?
theorem ri_keys {i : Nat} {s : Bool} : RI K s (iKeys (tVar i)) (gKeys i) := by
  intro tp He Hq ρ σ H Q r h
  unfold gKeys keysAt at h
  split at h
  · rename_i ds e
    obtain ⟨v, h1, a, ev, h2⟩ := r.at_ i _ e
    subst ev
    obtain ⟨vs, ⟨⟨o, q1⟩, q4⟩, q2, q3⟩ := r.bor h2
    refine ⟨.ref a, h1, a, o, rfl, .inr ⟨vs, q1, (show ∀ J H1 pa, _ from h) _ H [] .refl r.tok rfl ?_ (fun _ m => by simp at m) (fun _ _ _ _ m => by simp at m)⟩⟩
    intro H' im _
    have hf := im.frz _ _ _ q1
    have hl := q2.len
    refine ⟨⟨hf, by rw [List.length_map, ← hl]; exact Nat.le_refl _⟩, fun j d ej => ?_⟩
    rw [List.getElem?_map] at ej
    cases ed : ds[j]? with
    | none => rw [ed] at ej; cases ej
    | some kv =>
      rw [ed] at ej
      cases ej
      have hj : j < ds.length := (List.getElem?_eq_some_iff.mp ed).1
      refine ⟨⟨hf, by omega⟩, fun x H'' y => ?_⟩
      obtain ⟨rfl, k, v, q, ek, rfl, hq⟩ := y
      have : k = kv.1 := by
        have := congrArg (fun l : List (List Key) => l[j]?) q2.1
        simp only [List.getElem?_map, ek, ed, Option.map_some] at this
        exact Option.some.inj this
      subst this
      exact ⟨fun _ _ z => z, .tup hq (vl_kD _)⟩
  · exact h.elim
end
end Cs

set_option maxRecDepth 100000
set_option maxHeartbeats 4000000
/-! {k: v for ..} with keys that are tuples -/
namespace L2
open PySem PySem.Spec PyProof.Rows
/-- P holds of the block that a comprehension opens -/
def InBlk (X : Cx) (sc : Scope) (P : Cx → Prop) : Prop := ∀ (s : Shared) (H : Hp) (C : Addr) (cl : List (Str × Addr)) (fp : List Addr), P (X.blk s H sc (compEnvC sc cl C X.env) fp)
/-- one turn's end: the pair is laid into the new dict at D -/
def PutT (D : Addr) (Nx : Hp → Prop) (y z : V) (H : Hp) : Prop := ∃ (es : List (List Key × V)) (k : List Key) (q : Addr), y = .ref q ∧ H q = some (.tup (k.map kV)) ∧ H D = some (.dT es) ∧ es.length < sizeLine ∧ Nx (upd H D (.dT (putK es k z)))
def tDcT (wi : TI) (g : TG) (tt : TT) (tk tv : TE) (vs : List Nat) : TE := fun σ H Q => wi σ H fun J H1 => ∀ D, H1 D = none →
  ∃ W : Nat → Nat → Hp → Prop, (∃ m, W 0 m (upd H1 D (.dT []))) ∧ ∀ i m G, W i m G → (J.stop i G ∧ Q (.ref D) G) ∨
    (J.go i G ∧ ∃ Nx : Hp → Prop, (∀ G', Nx G' → ∃ m', m' < m ∧ W (i + 1) m' G') ∧
      ∀ x G', J.yld i G x G' → g x (wipe σ vs) G' fun σ2 H2 => wipe σ2 vs = wipe σ vs ∧ tt σ2 H2 fun b H3 => if b = true then tk σ2 H3 fun y H4 => tv σ2 H4 fun z H5 => PutT D Nx y z H5 else Nx H3)
section
variable {X : Cx}
theorem putT_ok {pins : List (Addr × Obj)} {σ : St} {H : Hp} {s : Shared} {E : Value → Shared → Prop} {D : Addr} {Nx : Hp → Prop} {y z : V} {u r : Value} {Q : Unit → Shared → Prop} (hu : X.A.units < cLine) (I : Inv X pins σ H s) (p : PutT D Nx y z H)
    (ry : RelV y u) (rz : RelV z r) (h : ∀ G t, Nx G → Inv X pins σ G t → Q () t) : wpAny (model X.prog X.w) X.A (dictSet D u r) Q E s := by
  obtain ⟨es, k, q, rfl, hq, hD, hz, nx⟩ := p
  cases (show u = Value.ref q from ry)
  obtain ⟨_, nm, xs, rel, dd⟩ := dt_of I.hok hD
  have len := Paired.length rel
  have more := length_putK es k z
  refine wpAny_dictSet_heap (hsz := by rw [← len]; omega) (show (tupleKind (mixKind X.prog X.w)).room X.A from hu) (key_of I.hok hq) dd fun h' dd' same => h _ _ nx ?_
  obtain ⟨o, a1, a2, b1, b2, b3, b4, _, b5⟩ := dd'
  have keep : ∀ c ys, H c = some (.tup ys) → upd H D (.dT (putK es k z)) c = some (.tup ys) := fun c ys ec => by
    have ne : c ≠ D := fun w => by rw [w, hD] at ec; cases ec
    rw [upd_ne ne, ec]
  exact d_write I (by rw [hD]; trivial) same ⟨o, b1⟩ ⟨by omega, nm, storedH xs k q r, (rel.put k hq rz).keeps keep, o, a1, a2, b1, b2, b3, b4, b5⟩
theorem newT_ok {pins : List (Addr × Obj)} {σ : St} {H : Hp} {s : Shared} (I : Inv X pins σ H s) : Inv X pins σ (upd H s.heap.objs.size (.dT [])) { s with heap := s.heap.push { cls := .type "dict", data := .dict #[] } } :=
  I.laid (t' := s.toks) (fun _ _ e => Heap.get?_push_of_some _ e) (Nat.le_refl _) (dt_empty s.heap I.big)
variable {kx vx tg iter : Expr} {ifs : List Expr} {sc : Scope} {own : List (Str × Nat)} {pos : Pos} {wi : TI} {g : TG} {tt : TT} {tk tv : TE}
theorem dcT_core {pins : List (Addr × Obj)} {s : Shared} {σ : St} {H : Hp} {Q : VK} {pos' : Pos} {use : Option (Value → Sem Unit)} {Qf : Value → Shared → Prop}
    (hu : X.A.units < cLine) (calm : X.calm = true) (nd : X.N.Nodup) (I : Inv X pins σ H s) (src : PI X tg iter wi) (ok : BlkOk X.N X.env.scope sc own)
    (ptg : InBlk X sc fun Y => PG Y tg g) (pif : InBlk X sc fun Y => PTs Y ifs tt) (pk : InBlk X sc fun Y => PE Y kx tk) (pv : InBlk X sc fun Y => PE Y vx tv) (fold : ∀ x, foldedSetIterable iter X.env x = pure x)
    (h : tDcT wi g tt tk tv (own.map (·.2)) σ H Q)
    (fin : ∀ D C t m G, Inv X pins σ G t → Q (.ref D) G → t.heap.Ns C m → FpOk X pins G C → compPost (model X.prog X.w) X.A X.xe use Qf (.ref D) C (.ok .next) t) :
    wpAny (model X.prog X.w) X.A (comprehension (.DictComp kx vx [⟨tg, iter, ifs, 0⟩] sc pos) sc X.env pos' newDict false (eval iter X.env) use) Qf X.xe s := by
  have clo : closureFor sc X.env = pure (cloFrom X.env.cells sc.names []) := closure_ok fun y hy e => (ok.free y hy e).elim (fun k => I.ok.has _ (.inl k)) fun k => I.ok.has _ (.inr k)
  refine wpAny_comprehension_free rfl fold clo ok.kind (fun y hy e => (ok.uniq y hy).trans (congrArg some e)) ?_
  refine thn (src.run pins s σ H _ I h) fun _ s1 w1 => thn w1 fun _ s2 w2 => ?_
  obtain ⟨it, fp, tn, J, G0, rfl, I2, T, at2, fp2, walk⟩ := w2
  refine wpAny_newObj_type (newEnv_comp ?_)
  have I3 := newT_ok I2
  obtain ⟨W, ⟨m0, w0⟩, turn⟩ := walk s2.heap.objs.size (I2.hok.fresh (Nat.le_refl _))
  generalize hD : s2.heap.objs.size = D at I3 w0 turn
  generalize h3 : ({ s2 with heap := s2.heap.push { cls := .type "dict", data := .dict #[] } } : Shared) = s3 at I3
  have e3 : s3.heap = s2.heap.push { cls := .type "dict", data := .dict #[] } := by rw [← h3]
  have small : ∀ b ∈ fp, b < D := fun b hb => by
    obtain ⟨o, e, _⟩ := T.obj _ _ at2 b hb
    rw [← hD]; exact Heap.lt_size e
  have fp3 : ∀ b ∈ fp, FpOk X pins (upd G0 D (.dT [])) b ∧ b < s3.heap.objs.size := fun b hb =>
    ⟨⟨by rw [upd_ne (Nat.ne_of_lt (small b hb))]; exact (fp2 b hb).1, (fp2 b hb).2⟩, by rw [e3, Heap.size_push, hD]; exact Nat.lt_succ_of_lt (small b hb)⟩
  have at3 : tn 0 s3.heap := T.keep _ _ _ at2 fun b _ o e => by rw [e3]; exact Heap.get?_push_of_some _ e
  have I4 := block_start I3 ok nd fp3
  generalize hG : upd G0 D (.dT []) = G3 at I3 I4 w0 fp3
  have p1 := ptg s3 G3 s3.heap.objs.size (cellsFrom (s3.heap.objs.size + 1) sc.names (cloFrom X.env.cells sc.names [])) fp
  have p2 := pif s3 G3 s3.heap.objs.size (cellsFrom (s3.heap.objs.size + 1) sc.names (cloFrom X.env.cells sc.names [])) fp
  have p3 := pk s3 G3 s3.heap.objs.size (cellsFrom (s3.heap.objs.size + 1) sc.names (cloFrom X.env.cells sc.names [])) fp
  have p4 := pv s3 G3 s3.heap.objs.size (cellsFrom (s3.heap.objs.size + 1) sc.names (cloFrom X.env.cells sc.names [])) fp
  have zero : ∀ b ∈ fp, G3 b = none := fun b hb => (fp3 b hb).1.1
  show codeAny _ _ (.compStart (.DictComp kx vx [⟨tg, iter, ifs, 0⟩] sc pos) 0 (.ref it) (.ref D) (compEnvC sc (cellsFrom (s3.heap.objs.size + 1) sc.names (cloFrom X.env.cells sc.names [])) s3.heap.objs.size X.env)) (compPost (model X.prog X.w) X.A X.xe use Qf (.ref D) s3.heap.objs.size) { s3 with heap := pushCells (s3.heap.push { cls := .type "dict", data := .dict #[] }) sc.names }
  generalize hY : compEnvC sc (cellsFrom (s3.heap.objs.size + 1) sc.names (cloFrom X.env.cells sc.names [])) s3.heap.objs.size X.env = ce at I4 p1 p2 p3 p4 ⊢
  have loc : ce.locals = s3.heap.objs.size := by rw [← hY]; rfl
  generalize h4 : ({ s3 with heap := pushCells (s3.heap.push { cls := .type "dict", data := .dict #[] }) sc.names } : Shared) = s4 at I4 ⊢
  have at4 : tn 0 s4.heap := T.keep _ _ _ at3 fun b _ o e => by rw [← h4]; exact pushCells_keeps _ _ _ _ (Heap.get?_push_of_some _ e)
  have fpY : ∀ {τ : St} {G : Hp} {t : Shared}, Inv (X.blk s3 G3 sc ce fp) [] τ G t → (∀ b ∈ fp, G b = none) → ∀ b ∈ fp, FpOk (X.blk s3 G3 sc ce fp) [] G b := fun {τ G t} J0 z b hb =>
    ⟨z b hb, (J0.ok.exf b hb).1, J0.ok.exfs b hb, .inl hb, (J0.ok.exf b hb).2, fun p hp => by cases hp⟩
  have loop : codeAny (model X.prog X.w) X.A (.compLoop (.DictComp kx vx [⟨tg, iter, ifs, 0⟩] sc pos) 0 (.ref it) (.ref D) ce) (compPost (model X.prog X.w) X.A X.xe use Qf (.ref D) s3.heap.objs.size) s4 := by
    refine compLoop_anyD (fun n t => ∃ i G, Inv (X.blk s3 G3 sc ce fp) [] (wipe σ (own.map (·.2))) G t ∧ tn i t.heap ∧ (∀ b ∈ fp, G b = none) ∧ W i n G) ?_ m0 ⟨0, G3, I4, at4, zero, w0⟩
    rintro n s5 ⟨i, G5, I5, at5, z5, w5⟩
    rcases turn i n G5 w5 with ⟨stop, over⟩ | ⟨go, Nx, less, step⟩
    · refine thnF (T.done (X.blk s3 G3 sc ce fp) rfl rfl rfl calm i [] s5 _ G5 (fun _ _ => False) I5 (fpY I5 z5) at5 stop) fun _ s6 ⟨ended, I6⟩ => ?_
      subst ended
      have I7 : Inv X pins σ G5 s6 := I3.call' (ch := fp) I6.os I6.base I6.hok I6.bare fun b hb =>
        have w := (fp3 b hb).1.2
        ⟨w.2.2.1, w.1, w.2.2.2.1, w.2.2.2.2⟩
      have free := I6.free
      obtain ⟨m, names, _⟩ := I6.loc
      rw [show (X.blk s3 G3 sc ce fp).env.locals = s3.heap.objs.size from loc] at free names
      exact fin D _ s6 m G5 I7 over names (I3.fpOk (Nat.le_refl _) free)
    · refine thnF (T.item (X.blk s3 G3 sc ce fp) rfl rfl rfl calm i [] s5 _ G5 (fun _ _ => False) I5 (fpY I5 z5) at5 go) fun _ s6 ⟨u, came, w6⟩ => ?_
      subst came
      refine thnF w6 fun _ s7 ⟨x, G7, I7, rx, yl, at7, z7⟩ => ?_
      have I8 := I7.pinned (fpY I7 z7) (T.obj _ _ at7)
      refine thnF (p1.run _ s7 _ G7 x u _ I8 rx (step x G7 yl)) fun _ s8 ⟨σ8, G8, I9, same, q8⟩ => ?_
      refine thnF (p2.run _ s8 σ8 G8 _ I9 q8) fun b s9 ⟨G9, I10, q9⟩ => ?_
      have next : ∀ {t : Shared} {G : Hp}, Inv (X.blk s3 G3 sc ce fp) ([] ++ pinsAt fp s7.heap) σ8 G t → Nx G → ∃ m, m < n ∧ ∃ i G, Inv (X.blk s3 G3 sc ce fp) [] (wipe σ (own.map (·.2))) G t ∧ tn i t.heap ∧ (∀ b ∈ fp, G b = none) ∧ W i m G := fun {t G} Jt nx => by
        obtain ⟨m', lt, w'⟩ := less G nx
        have pin := fun (c : Addr) (hc : c ∈ fp) (o : Obj) (e : s7.heap.get? c = some o) => Jt.pin (c, o) (List.mem_append_right _ (List.mem_append_right _ (mem_pinsAt hc e)))
        have old : Inv (X.blk s3 G3 sc ce fp) [] (wipe σ (own.map (·.2))) G t := (Jt.unpinned (pins := [])).weak (by rw [← same, wipe_length]) fun j v e => by
          rw [← same] at e
          exact (wipe_some e).1
        refine ⟨m', lt, i + 1, G, old, T.keep _ _ _ at7 fun c hc o e => (pin c hc o e).1, fun c hc => ?_, w'⟩
        obtain ⟨o, e, _⟩ := T.obj _ _ at7 c hc
        exact (pin c hc o e).2.1
      dsimp only at q9
      by_cases hb : b = true
      · rw [if_pos hb] at q9 ⊢
        refine thnF (p3.run _ s9 σ8 G9 _ I10 q9) fun kv s10 ⟨y, G10, I11, ry, q10⟩ => ?_
        refine thnF (p4.run _ s10 σ8 G10 _ I11 q10) fun vv s11 ⟨z, G11, I12, rz, p⟩ => ?_
        exact putT_ok (X := X.blk s3 G3 sc ce fp) hu I12 p ry rz fun G t nx It => next It nx
      · rw [if_neg hb] at q9 ⊢
        exact next I10 q9
  exact codeAny_compStart_dict loop (T.self X.A 0 _ _ _ at4 loop)
/-- as a value -/
theorem pe_dcT (hu : X.A.units < cLine) (calm : X.calm = true) (nd : X.N.Nodup) (src : PI X tg iter wi) (ok : BlkOk X.N X.env.scope sc own) (ptg : InBlk X sc fun Y => PG Y tg g) (pif : InBlk X sc fun Y => PTs Y ifs tt)
    (pk : InBlk X sc fun Y => PE Y kx tk) (pv : InBlk X sc fun Y => PE Y vx tv) (fold : ∀ x, foldedSetIterable iter X.env x = pure x := by intro _; rfl) : PE X (.DictComp kx vx [⟨tg, iter, ifs, 0⟩] sc pos) (tDcT wi g tt tk tv (own.map (·.2))) := by
  refine ⟨fun pins s σ H Q I h => ?_⟩
  rw [arm_eval_DictComp]
  refine dcT_core hu calm nd I src ok ptg pif pk pv fold h fun D C t m G It q names fr => ⟨m, names, fun h' same => ?_⟩
  obtain ⟨f0, f1, _, f3, f4, f5⟩ := fr
  exact ⟨.ref D, G, It.turned (t' := t.toks) (fun b o hb e => (same.2 b hb).trans e) f0 f1 f3 f4 f5, rfl, q⟩
/-- given to a name of the def's own -/
theorem ps_setDcT {i : Nat} {y : Str} {py spos : Pos} (hu : X.A.units < cLine) (calm : X.calm = true) (nd : X.N.Nodup) (hy : X.N[i]? = some y) (hyl : X.env.scope.names.lookup y = some .local)
    (hsw : swapsWith (.DictComp kx vx [⟨tg, iter, ifs, 0⟩] sc pos) (some (.Name y py)) spos.line X.env = pure true) (src : PI X tg iter wi) (ok : BlkOk X.N X.env.scope sc own) (ptg : InBlk X sc fun Y => PG Y tg g) (pif : InBlk X sc fun Y => PTs Y ifs tt)
    (pk : InBlk X sc fun Y => PE Y kx tk) (pv : InBlk X sc fun Y => PE Y vx tv) (fold : ∀ x, foldedSetIterable iter X.env x = pure x := by intro _; rfl) :
    PS X (.Assign [.Name y py] (.DictComp kx vx [⟨tg, iter, ifs, 0⟩] sc pos) spos) (tAsg (tDcT wi g tt tk tv (own.map (·.2))) (gName i)) := by
  refine ⟨fun pins s σ H D I h => ?_⟩
  rw [exec_Assign_Name_used _ _ _ _ hsw]
  refine wpAny_bind (wpAny_standAt (wpAny_bind ?_))
  show wpAny _ X.A (do let _ ← comprehension (.DictComp kx vx [⟨tg, iter, ifs, 0⟩] sc pos) sc X.env (firstIterPos [⟨tg, iter, ifs, 0⟩] pos) newDict false (eval iter X.env) (some (assign (.Name y py) X.env))) _ _ s
  have h' : tDcT wi g tt tk tv (own.map (·.2)) σ H (fun x G => gName i x σ G D.nx) := h
  refine wpAny_bind (thn (dcT_core (Qf := fun _ t => SP X pins D .next t) hu calm nd I src ok ptg pif pk pv fold h' fun L C t m G It q names fr => ?_) fun _ t hq => wpAny_pure (wpAny_pure hq))
  show wpAny _ _ (assign (.Name y py) X.env (.ref L)) _ _ _
  refine wpAny_assign_Name (store_ok2 (v := V.ref L) It nd hy (.inl hyl) rfl (fun s2 I2 ⟨a, sb, ha⟩ => ?_) (.inr hyl))
  obtain ⟨f0, f1, _, f3, f4, f5⟩ := fr
  have apart : C ≠ a := ha.elim (fun z => z ▸ f1) fun z e => f4 y a z e.symm
  exact ⟨m, names.sameBut sb apart, fun h3 same => ⟨_, G, I2.turned (t' := s2.toks) (fun b o hb e => (same.2 b hb).trans e) f0 f1 f3 f4 f5, q⟩⟩
theorem sw_dict {gs : List Comprehension} {py : Pos} {y : Str} {l : Nat} {env : Env} (hk : env.scope.kind = .function) (hy : env.scope.names.lookup y = some .local) (hl : (py.line == pos.line) = true)
    (ha : (sc.names.any fun (n, k) => n == y && (k == .local || k == .cell)) = false) : swapsWith (.DictComp kx vx gs sc pos) (some (.Name y py)) l env = pure true := by
  have k1 : env.kindOf y = some .local := hy
  have k2 : env.blockKind = .function := by unfold Env.blockKind; rw [hk]; rfl
  unfold swapsWith
  simp only [k2, k1, ha, Expr.pos, hl]
  rfl
end
end L2

set_option maxRecDepth 100000
set_option maxHeartbeats 4000000
/-! dict comprehensions, steps over dicts -/
namespace Cs
open PySem PySem.Spec PyProof.Rows L2
section
variable {tp : Option (Addr × Addr)} {K : PySem.W.Frag} {H H' H'' H0 H1 H2 He : Hp} {Hq : Hp} {σ : L2.St} {ρ : Ro}
def putC (acc : List (List Key × PyData)) : C → C → Option (List (List Key × PyData))
  | .val kd, .val vd => (match keyT kd with
    | some k => if lenOk (acc.length + 1) = true then some (putD acc k vd) else none
    | none => none)
  | _, _ => none
def dcL (a : C → Ro → M Ro) (c : Ro → M Bool) (gk gv : Ro → M C) : List PyData → Ro → List (List Key × PyData) → M C
  | [], _, acc => .ret (.own (.dT acc))
  | d :: ds, ρ, acc => (a (.val d) ρ).bind fun ρ1 => (c ρ1).bind fun b => if b = true then (gk ρ1).bind (fun ck => (gv ρ1).bind fun cv => match putC acc ck cv with
    | some acc' => dcL a c gk gv ds ρ acc'
    | none => .fail) else dcL a c gk gv ds ρ acc
def gDcT (its : Ro → M (List PyData)) (a : C → Ro → M Ro) (c : Ro → M Bool) (gk gv : Ro → M C) (vs : List Nat) (ρ : Ro) : M C := (its ρ).bind fun ds => dcL a c gk gv ds (wipeR ρ vs) []
theorem re_dcT {wi : TI} {g : TG} {tt : TT} {tk tv : TE} {its : Ro → M (List PyData)} {a : C → Ro → M Ro} {c : Ro → M Bool} {gk gv : Ro → M C} {sl vs : List Nat} {s : Bool} (hi : RI K s wi its) (hg : RG K g a sl) (hc : RT K tt c) (hk : RE K tk gk) (hv : RE K tv gv)
    (hs : ∀ j ∈ sl, j ∈ vs) : RE K (tDcT wi g tt tk tv vs) (gDcT its a c gk gv vs) := by
  intro tp He Hq ρ σ H Q r h
  refine hi tp He Hq ρ σ H _ r (wp0_mono (fun ds hd => ?_) (wp0_bind.mp h))
  intro J H1 pa g1 t1 f w np _ D hD
  have r1 := r.go g1 t1
  have tD : TNe tp D := t1.tne hD
  have zl : sizeLine = 16777216 := by decide
  have upG : ∀ {H2 : Hp} {o : HO}, GrT tp H1 H2 → GrT tp H1 (upd H2 D o) := fun {H2 o} g b u e n => by
    have hne : b ≠ D := fun z => by subst z; rw [hD] at e; cases e
    rw [upd_ne hne]
    exact g b u e n
  have upT : ∀ {H2 : Hp} {o : HO}, TOk tp H2 → TOk tp (upd H2 D o) := fun {H2 o} t a l e => (t a l e).upd (tD a l e).1 (tD a l e).2
  refine ⟨fun i m H' => m = ds.length - i ∧ i ≤ ds.length ∧ ∃ acc vsa, H' D = some (.dT vsa) ∧ KvR K H' vsa acc ∧ GrT tp H1 H' ∧ TOk tp H' ∧ wp0 (dcL a c gk gv (ds.drop i) (wipeR ρ vs) acc) (Post tp K H Q),
    ⟨ds.length, rfl, Nat.zero_le _, [], [], upd_same, ⟨rfl, .nil⟩, upG .refl, upT t1, hd⟩, ?_⟩
  rintro i m H' ⟨rfl, hi, acc, vsa, eD, hda, g', t', h'⟩
  obtain ⟨st, go⟩ := w H' (g'.im t1) (fun p hp o e => g' p o e (np p hp))
  by_cases hlt : i < ds.length
  · obtain ⟨d, hd'⟩ : ∃ d, ds[i]? = some d := ⟨ds[i], List.getElem?_eq_getElem hlt⟩
    obtain ⟨go1, yl⟩ := go i d hd'
    have ed : ds.drop i = d :: ds.drop (i + 1) := by
      rw [List.drop_eq_getElem_cons hlt]
      have : ds[i] = d := by rw [List.getElem?_eq_getElem hlt] at hd'; exact Option.some.inj hd'
      rw [this]
    rw [ed] at h'
    refine .inr ⟨go1, fun H2 => ∃ acc vsa, H2 D = some (.dT vsa) ∧ KvR K H2 vsa acc ∧ GrT tp H1 H2 ∧ TOk tp H2 ∧ wp0 (dcL a c gk gv (ds.drop (i + 1)) (wipeR ρ vs) acc) (Post tp K H Q),
      fun H2 ⟨acc, vsa, q⟩ => ⟨ds.length - (i + 1), by omega, rfl, hlt, acc, vsa, q⟩, fun x H2 y => ?_⟩
    obtain ⟨sm, dp⟩ := yl x H2 y
    have rw' := ((r1.go g' t').wipe vs)
    refine hg tp He Hq _ _ H' H2 x (.val d) _ rw' (.of sm) (t'.same sm) ⟨dp, rfl⟩ (wp0_mono (fun ρ1 h1 => ?_) (wp0_bind.mp (show wp0 ((a (.val d) (wipeR ρ vs)).bind _) _ from h')))
    intro σ2 off r2
    refine ⟨wipe_off off hs, ?_⟩
    refine hc tp He Hq ρ1 σ2 H2 _ r2 (wp0_mono (fun b hb => ?_) (wp0_bind.mp h1))
    intro H3 g3 t3
    have g13 : GrT tp H1 H3 := (g'.trans (.of sm)).trans g3
    have eD3 : H3 D = some (.dT vsa) := g3 D _ (sm D _ eD) tD.ne
    have im3 : Im H' H3 := (Im.same sm).trans (g3.im (t'.same sm))
    cases b with
    | true =>
      rw [if_pos rfl] at hb ⊢
      refine hk tp He Hq ρ1 σ2 H3 _ (r2.go g3 t3) (wp0_mono (fun ck hck => ?_) (wp0_bind.mp hb))
      intro y H4 g4 t4 ry
      refine hv tp He Hq ρ1 σ2 H4 _ ((r2.go g3 t3).go g4 t4) (wp0_mono (fun cv hcv => ?_) (wp0_bind.mp hck))
      intro v H5 g5 t5 rv
      have g35 := g4.trans g5
      have eD5 : H5 D = some (.dT vsa) := g35 D _ eD3 tD.ne
      have im5 : Im H' H5 := im3.trans (g35.im t3)
      have ry5 := ry.gr g5 t4
      cases ep : putC acc ck cv with
      | none => rw [ep] at hcv; exact hcv.elim
      | some acc' =>
        rw [ep] at hcv
        unfold putC at ep
        split at ep
        · rename_i kd vd
          split at ep
          · rename_i k ek
            split at ep
            · rename_i lo
              cases ep
              have lo' := lenOk_le lo
              obtain ⟨q, rfl, hq⟩ := keyT_vl ry5.1 ek
              have hda5 := hda.imlf im5 acc _ trivial
              exact ⟨vsa, k, q, rfl, hq, eD5, by rw [hda5.len]; omega, putD acc k vd, putK vsa k v, upd_same, (hda5.put rv.1).imlf (Im.mut eD5 trivial) _ _ trivial, upG (g13.trans g35), upT t5, hcv⟩
            · cases ep
          · cases ep
        · cases ep
    | false =>
      rw [if_neg Bool.false_ne_true] at hb ⊢
      exact ⟨acc, vsa, eD3, hda.imlf im3 acc _ trivial, g13, t3, hb⟩
  · have e1 : i = ds.length := by omega
    subst e1
    rw [List.drop_length] at h'
    exact .inl ⟨st, (show Post tp K H Q (.own (.dT acc)) from h') _ H' (g1.trans g') t' ⟨D, rfl, g1.free t1 hD, tD, vsa, eD, hda, trivial⟩⟩
theorem u1 {k : Nat} {A : Around} (r : Room k A) : A.units + 1 < cLine := by have := r.un; omega
theorem u0 {k : Nat} {A : Around} (r : Room k A) : A.units < cLine := by have := r.un; omega
/-! steps -/
theorem gDcT_eq {its : Ro → M (List PyData)} {a : C → Ro → M Ro} {c : Ro → M Bool} {gk gv : Ro → M C} {vs : List Nat} : gDcT its a c gk gv vs ρ = (its ρ).bind fun ds => dcL a c gk gv ds (wipeR ρ vs) [] := (rfl)
theorem gLc2_eq {its its1 : Ro → M (List PyData)} {a a1 : C → Ro → M Ro} {c c1 : Ro → M Bool} {e : Ro → M C} {vs vs1 : List Nat} : gLc2 its a c its1 a1 c1 e vs vs1 ρ = (its ρ).bind fun ds => lcL2 a c its1 a1 c1 e vs1 ds (wipeR ρ vs) [] := (rfl)
theorem gLock_eq {i : Nat} {g : Ro → M C} : gLock i g ρ = lockAt i g ρ ρ[i]? := (rfl)
theorem lockAt_o {i : Nat} {g : Ro → M C} {ds : List (List Key × PyData)} : lockAt i g ρ (some (some (.own (.dT ds)))) = (g (ρ.set i (some (.bor (.lT ds))))).bind lockC := (rfl)
theorem lockC_v {d : PyData} : lockC (.val d) = .ret (.val d) := (rfl)
theorem lockC_o {o : PO} : lockC (.own o) = .ret (.own o) := (rfl)
theorem gKeys_eq {i : Nat} : gKeys i ρ = keysAt ρ[i]? := (rfl)
theorem keysAt_b {ds : List (List Key × PyData)} : keysAt (some (some (.bor (.lT ds)))) = .ret (ds.map fun kv => keyD kv.1) := (rfl)
theorem mDPut_eq {i : Nat} {gv gk : Ro → M C} : mDPut i gv gk ρ = dputAt i gv gk ρ ρ[i]? := (rfl)
theorem dputAt_T {i : Nat} {gv gk : Ro → M C} {ds : List (List Key × PyData)} : dputAt i gv gk ρ (some (some (.own (.dT ds)))) = (gv ρ).bind fun cv => (gk ρ).bind fun ck => kPutT i ρ ds cv ck := (rfl)
theorem dputAt_K {i : Nat} {gv gk : Ro → M C} {ds : List (Key × PyData)} : dputAt i gv gk ρ (some (some (.own (.dK ds)))) = (gv ρ).bind fun cv => (gk ρ).bind fun ck => kPutK i ρ ds cv ck := (rfl)
theorem gNewT_eq : gNewT ρ = .ret (.own (.dT [])) := (rfl)
theorem gNewK_eq : gNewK ρ = .ret (.own (.dK [])) := (rfl)
theorem gDGet1_eq {gd gy : Ro → M C} : gDGet1 gd gy ρ = (gd ρ).bind fun c => if c.isDict = true then (gy ρ).bind (oDGet1 c) else .fail := (rfl)
theorem asgR_dT {i : Nat} {ds : List (List Key × PyData)} {x : Option C} : aAt ρ i (.own (.dT ds)) (some x) = .ret (ρ.set i (some (.own (.dT ds)))) := (rfl)
end
end Cs

set_option maxRecDepth 100000
set_option maxHeartbeats 1000000
/-! more steps over lists as data -/
namespace Cs
open PySem PySem.Spec PyProof.Rows L2
section
variable {K : PySem.W.Frag} {ρ : Ro}
theorem kForV_l {i : Nat} {a : C → Ro → M Ro} {b : Ro → M Res} {ds : List PyData} : kForV ρ i a b (some (some (.val (.list ds)))) = forL a b ds ρ := (rfl)
theorem truD_l {ds : List PyData} : truD (.list ds) = .ret (!ds.isEmpty) := (rfl)
theorem kItV_l {s : Bool} {ds : List PyData} : (if s = true then itVs (.val (.list ds)) else itV (.val (.list ds))) = .ret ds := by cases s <;> rfl
end
end Cs

set_option maxRecDepth 100000
set_option maxHeartbeats 1000000
/-! xs[k] = e, step by step -/
namespace Cs
open PySem PySem.Spec PyProof.Rows L2
section
variable {K : PySem.W.Frag} {ρ : Ro}
def kSet (i : Nat) (ρ : Ro) (ds : List PyData) : C → C → M Res
  | .val d, .val (.int j) => (match ixN ds.length j with
    | some n => .ret (.nx (setOwn i (ds.set n d) ρ))
    | none => .fail)
  | _, _ => .fail
def setAt (i : Nat) (g gi : Ro → M C) (ρ : Ro) : Option (Option C) → M Res
  | some (some (.own (.lst ds))) => (g ρ).bind fun c => (gi ρ).bind (kSet i ρ ds c)
  | _ => .fail
theorem mSetAt_eq {i : Nat} {g gi : Ro → M C} : mSetAt i g gi ρ = setAt i g gi ρ ρ[i]? := by
  unfold mSetAt
  generalize ρ[i]? = o
  match o with
  | some (some (.own (.lst ds))) =>
    show M.bind _ _ = M.bind _ _
    congr 1
  | some (some (.own (.dT _))) => rfl
  | some (some (.own (.dK _))) => rfl
  | some (some (.own (.lT _))) => rfl
  | some (some (.val _)) => rfl
  | some (some (.bor _)) => rfl
  | some (some .tape) => rfl
  | some none => rfl
  | none => rfl
theorem setAt_o {i : Nat} {g gi : Ro → M C} {ds : List PyData} : setAt i g gi ρ (some (some (.own (.lst ds)))) = (g ρ).bind fun c => (gi ρ).bind (kSet i ρ ds c) := (rfl)
theorem kSet_v {i : Nat} {ds : List PyData} {d : PyData} {j : Nat} (h : j < ds.length) : kSet i ρ ds (.val d) (.val (.int (j : Int))) = .ret (.nx (ρ.set i (some (.own (.lst (ds.set j d)))))) := by
  show (match ixN ds.length (j : Int) with | some n => (M.ret (.nx (setOwn i (ds.set n d) ρ)) : M Res) | none => .fail) = _
  have : ixN ds.length (j : Int) = some j := by
    unfold ixN
    simp
    omega
  rw [this]
  rfl
end
end Cs

set_option maxRecDepth 100000
set_option maxHeartbeats 4000000
/-! dict(zip(a tuple, a tuple)) -/
namespace Cs
open PySem PySem.W PyProof.Rows PyProof.V PySem.Spec PySem.Calls L2
section
variable {prog : Program} {w : World} {A : Around} {E : Value → Shared → Prop} {s : Shared}
/-- the next pair of a zip over two tuples whose last pair is still kept by somebody -/
theorem zt_item {z TI TO T i1 i2 l1 l2 : Addr} {f : Bool} {oT : Obj} {k1 k2 : Nat} {xs ys : Array Value} {x y : Value} {Q : Option Value → Shared → Prop} (D : ZipApart z TI TO i1 i2 l1 l2)
    (Z : IsZipHeld s.heap z TI TO T f) (kept : s.heap.get? T = some oT) (ins : IsPair s.heap TI (.ref i1) (.ref i2)) (I1 : s.heap.IsTupleIter i1 l1 k1) (I2 : s.heap.IsTupleIter i2 l2 k2)
    (L1 : s.heap.IsTuple l1 xs) (L2' : s.heap.IsTuple l2 ys) (ex : xs[k1]? = some x) (ey : ys[k2]? = some y)
    (q : ∀ g, IsZipHeld g z TI TO T true → g.IsTupleIter i1 l1 (k1 + 1) → g.IsTupleIter i2 l2 (k2 + 1) → IsPair g s.heap.objs.size x y → (∀ c o, c ≠ z → c ≠ i1 → c ≠ i2 → s.heap.get? c = some o → g.get? c = some o) → Q (some (.ref s.heap.objs.size)) { s with heap := g }) :
    wpAny (model prog w) A (pyNext (.ref z)) Q E s := by
  have ty : s.TypeIs (.ref z) "zip" := ⟨_, Z, rfl⟩
  unfold pyNext
  refine wpAny_bind (wpAny_attempt (wpAny_callSpecial?_slot (name := Str.ofString "__next__") ty F.slot_zip_next (wpAny_call_entry F.slot_zip_next ty F.entry_zip_next ?_ (F.args_zip_next_1 _))))
  show wpAny _ _ (field (.ref z) 2 >>= _) _ _ _; refine wpAny_bind (wpAny_field Z rfl (x := .bool false) rfl ?_)
  show wpAny _ _ (field (.ref z) 3 >>= _) _ _ _; refine wpAny_bind (wpAny_field Z rfl (x := .ref TI) rfl ?_)
  refine wpAny_bind (wpAny_seqItems ins rfl ?_); show wpAny _ _ (Builtin.SmallTypes.ownedTupleIsFree (.ref z) >>= _) _ _ _
  refine wpAny_bind (wpAny_tupleHeld_zip Z kept fun g1 Z1 b1 => ?_); simp only [Bool.false_eq_true, if_false]; refine wpAny_bind ?_
  rw [← Array.forIn_toList]; simp only [List.forIn_cons, List.forIn_nil]
  refine wpAny_bind (wpAny_bind (wpAny_holding ?_)); show wpAny _ _ (Builtin.SmallTypes.nextOf (.ref i1) >>= _) _ _ _
  refine wpAny_bind (RZ.nextOf_tuple_item (s := { s with heap := g1 }) (I1.extBut b1.extBut D.i1z) (L1.extBut b1.extBut D.l1z) ex fun g2 J1 b2 => wpAny_pure ?_); refine wpAny_pure ?_
  refine wpAny_bind (wpAny_bind (wpAny_holding ?_)); show wpAny _ _ (Builtin.SmallTypes.nextOf (.ref i2) >>= _) _ _ _
  refine wpAny_bind (RZ.nextOf_tuple_item (s := { s with heap := g2 }) ((I2.extBut b1.extBut D.i2z).extBut b2.extBut D.i12.symm) ((L2'.extBut b1.extBut D.l2z).extBut b2.extBut D.l2i1) ey fun g3 J2 b3 => wpAny_pure ?_); refine wpAny_pure (wpAny_pure ?_)
  show wpAny _ _ (newTuple [x, y] >>= _) _ _ _; refine wpAny_bind (wpAny_newTuple ?_); refine wpAny_pure ⟨_, rfl, wpAny_pure ?_⟩
  have e3 : g3.objs.size = s.heap.objs.size := by rw [b3.1, b2.1, b1.1]
  have up : ∀ c o, c ≠ z → c ≠ i1 → c ≠ i2 → s.heap.get? c = some o → g3.get? c = some o := fun c o c1 c2 c3 e => b3.extBut _ _ c3 (b2.extBut _ _ c2 (b1.extBut _ _ c1 e))
  have Z3 : IsZipHeld g3 z TI TO T true := b3.extBut _ _ D.i2z.symm (b2.extBut _ _ D.i1z.symm Z1)
  have J1' : g3.IsTupleIter i1 l1 (k1 + 1) := J1.extBut b3.extBut D.i12
  show Q (some (.ref g3.objs.size)) _
  rw [e3]
  refine q _ (Heap.get?_push_of_some _ Z3) (J1'.at fun o e => Heap.get?_push_of_some _ e) (J2.at fun o e => Heap.get?_push_of_some _ e) ?_ fun c o c1 c2 c3 e => Heap.get?_push_of_some _ (up c o c1 c2 c3 e)
  show (g3.push _).get? _ = _
  rw [← e3]; exact Heap.get?_push_size _ rfl
/-- and its end -/
theorem zt_end {z TI TO T i1 i2 l1 l2 : Addr} {f : Bool} {oT : Obj} {k1 k2 : Nat} {xs ys : Array Value} {Q : Option Value → Shared → Prop} (hh : A.handled = none) (D : ZipApart z TI TO i1 i2 l1 l2)
    (Z : IsZipHeld s.heap z TI TO T f) (kept : s.heap.get? T = some oT) (ins : IsPair s.heap TI (.ref i1) (.ref i2)) (I1 : s.heap.IsTupleIter i1 l1 k1) (I2 : s.heap.IsTupleIter i2 l2 k2)
    (L1 : s.heap.IsTuple l1 xs) (L2' : s.heap.IsTuple l2 ys) (fin : xs[k1]? = none ∨ ys[k2]? = none)
    (q : ∀ g, (∀ c o, c ≠ z → c ≠ i1 → c ≠ i2 → s.heap.get? c = some o → g.get? c = some o) → Q none { s with heap := g }) : wpAny (model prog w) A (pyNext (.ref z)) Q E s := by
  have ty : s.TypeIs (.ref z) "zip" := ⟨_, Z, rfl⟩
  unfold pyNext
  refine wpAny_bind (wpAny_attempt (wpAny_callSpecial?_slot (name := Str.ofString "__next__") ty F.slot_zip_next (wpAny_call_entry F.slot_zip_next ty F.entry_zip_next ?_ (F.args_zip_next_1 _))))
  show wpAny _ _ (field (.ref z) 2 >>= _) _ _ _; refine wpAny_bind (wpAny_field Z rfl (x := .bool false) rfl ?_)
  show wpAny _ _ (field (.ref z) 3 >>= _) _ _ _; refine wpAny_bind (wpAny_field Z rfl (x := .ref TI) rfl ?_)
  refine wpAny_bind (wpAny_seqItems ins rfl ?_); show wpAny _ _ (Builtin.SmallTypes.ownedTupleIsFree (.ref z) >>= _) _ _ _
  refine wpAny_bind (wpAny_tupleHeld_zip Z kept fun g1 Z1 b1 => ?_); simp only [Bool.false_eq_true, if_false]; refine wpAny_bind ?_
  rw [← Array.forIn_toList]; simp only [List.forIn_cons, List.forIn_nil]
  refine wpAny_bind (wpAny_bind (wpAny_holding ?_)); show wpAny _ _ (Builtin.SmallTypes.nextOf (.ref i1) >>= _) _ _ _
  cases ex : xs[k1]? with
  | none =>
    refine wpAny_bind (RZ.nextOf_tuple_end (s := { s with heap := g1 }) hh (I1.extBut b1.extBut D.i1z) (L1.extBut b1.extBut D.l1z) ex fun g2 e b2 he => ?_)
    obtain ⟨u, hu, cu⟩ := he; refine wpAny_bind (wpAny_isInstance (T := "StopIteration") (b := true) ⟨u, hu, cu⟩ isSubtype_stop ?_)
    exact wpAny_pure (q _ fun c o c1 c2 _ h => b2 _ _ c2 (b1.extBut _ _ c1 h))
  | some x =>
    have ey : ys[k2]? = none := by rcases fin with h | h; (rw [ex] at h; cases h); exact h
    refine wpAny_bind (RZ.nextOf_tuple_item (s := { s with heap := g1 }) (I1.extBut b1.extBut D.i1z) (L1.extBut b1.extBut D.l1z) ex fun g2 J1 b2 => wpAny_pure ?_); refine wpAny_pure ?_
    refine wpAny_bind (wpAny_bind (wpAny_holding ?_)); show wpAny _ _ (Builtin.SmallTypes.nextOf (.ref i2) >>= _) _ _ _
    refine wpAny_bind (RZ.nextOf_tuple_end (s := { s with heap := g2 }) hh ((I2.extBut b1.extBut D.i2z).extBut b2.extBut D.i12.symm) ((L2'.extBut b1.extBut D.l2z).extBut b2.extBut D.l2i1) ey fun g3 e b3 he => ?_)
    obtain ⟨u, hu, cu⟩ := he; refine wpAny_bind (wpAny_isInstance (T := "StopIteration") (b := true) ⟨u, hu, cu⟩ isSubtype_stop ?_)
    exact wpAny_pure (q _ fun c o c1 c2 c3 h => b3 _ _ c3 (b2.extBut _ _ c2 (b1.extBut _ _ c1 h)))
end
section
variable {prog : Program} {w : World}
def ZtOk (z TI TO i1 i2 l1 l2 : Addr) (xs ys : Array Value) (h : Heap) : Prop := IsZip h z TI TO .none ∧ IsPair h TI (.ref i1) (.ref i2) ∧ (∃ a b, IsPair h TO a b) ∧ h.IsTupleIter i1 l1 0 ∧ h.IsTupleIter i2 l2 0 ∧ h.IsTuple l1 xs ∧ h.IsTuple l2 ys
def ZtSt (z TI TO i1 i2 l1 l2 d : Addr) (xs ys : Array Value) (i : Nat) (h : Heap) : Prop := IsPair h TI (.ref i1) (.ref i2) ∧ h.IsTupleIter i1 l1 i ∧ h.IsTupleIter i2 l2 i ∧ h.IsTuple l1 xs ∧ h.IsTuple l2 ys ∧
  ((IsZip h z TI TO .none ∧ ∃ a b, IsPair h TO a b) ∨ ∃ T f oT, IsZipHeld h z TI TO T f ∧ h.get? T = some oT ∧ T ≠ z ∧ T ≠ i1 ∧ T ≠ i2 ∧ T ≠ d)
theorem zt_arg (z TI TO i1 i2 l1 l2 : Addr) (D : ZipApart z TI TO i1 i2 l1 l2) (xs ys : Array Value) :
    PairArg prog w "zip" z [z, TI, TO, i1, i2, l1, l2] [z, TO, i1, i2] (min xs.size ys.size) (fun i k v => xs[i]? = some k ∧ ys[i]? = some v) (ZtOk z TI TO i1 i2 l1 l2 xs ys) := by
  constructor
  case type => exact fun s ok => ⟨_, ok.1, rfl⟩
  case notDict => decide
  case keep => exact fun h h' ⟨a1, a2, ⟨a, b, a3⟩, a4, a5, a6, a7⟩ k => ⟨k _ _ a1, k _ _ a2, ⟨a, b, k _ _ a3⟩, a4.at fun o e => k _ o e, a5.at fun o e => k _ o e, a6.at fun o e => k _ o e, a7.at fun o e => k _ o e⟩
  case there =>
    rintro h ⟨a1, a2, ⟨a, b, a3⟩, ⟨_, a4, _⟩, ⟨_, a5, _⟩, ⟨_, a6, _⟩, ⟨_, a7, _⟩⟩ c hc
    simp only [List.mem_cons, List.not_mem_nil, or_false] at hc
    rcases hc with rfl | rfl | rfl | rfl | rfl | rfl | rfl
    all_goals first | exact ⟨_, a1⟩ | exact ⟨_, a2⟩ | exact ⟨_, a3⟩ | exact ⟨_, a4⟩ | exact ⟨_, a5⟩ | exact ⟨_, a6⟩ | exact ⟨_, a7⟩
  case sub => intro b hb; simp only [List.mem_cons, List.not_mem_nil, or_false] at hb ⊢; rcases hb with rfl | rfl | rfl | rfl <;> simp
  case noKeys => exact fun A s Q E hA ok h => getAttrOr_miss_zip ok.1 rfl rfl rfl zip_no_keys (by decide +kernel) hA h
  case iter =>
    rintro A s d Q E hA ⟨a1, a2, ⟨a, b, a3⟩, a4, a5, a6, a7⟩ hd hdf h
    simp only [List.mem_cons, List.not_mem_nil, or_false, not_or] at hdf
    obtain ⟨d1, d2, d3, d4, d5, d6, d7⟩ := hdf
    refine wpAny_pyIter_zip a1 (h z [z, TO, i1, i2] (ZtSt z TI TO i1 i2 l1 l2 d xs ys) s.heap s.toks ?_ ⟨a2, a4, a5, a6, a7, .inl ⟨a1, a, b, a3⟩⟩ (fun _ _ e => e) fun b hb => .inl hb)
    constructor
    case off => intro m; simp only [List.mem_cons, List.not_mem_nil, or_false] at m; rcases m with e | e | e | e; (exact d1 e); (exact d3 e); (exact d4 e); exact d5 e
    case frame =>
      rintro i g1 g2 ⟨b2, b4, b5, b6, b7, bz⟩ k
      refine ⟨k _ _ (Ne.symm d2) b2, b4.at fun o e => k _ o (Ne.symm d4) e, b5.at fun o e => k _ o (Ne.symm d5) e, b6.at fun o e => k _ o (Ne.symm d6) e, b7.at fun o e => k _ o (Ne.symm d7) e, ?_⟩
      rcases bz with ⟨z1, a, b, z2⟩ | ⟨T, f, oT, z1, z2, r1, r2, r3, r4⟩
      · exact .inl ⟨k _ _ (Ne.symm d1) z1, a, b, k _ _ (Ne.symm d3) z2⟩
      · exact .inr ⟨T, f, oT, k _ _ (Ne.symm d1) z1, k _ _ r4 z2, r1, r2, r3, r4⟩
    case item =>
      rintro i s1 Q1 E1 hi ⟨b2, b4, b5, b6, b7, bz⟩ hds q
      have ex := Array.getElem?_eq_getElem (Nat.lt_of_lt_of_le hi (Nat.min_le_left ..))
      have ey := Array.getElem?_eq_getElem (Nat.lt_of_lt_of_le hi (Nat.min_le_right ..))
      have lt : ∀ {c o}, s1.heap.get? c = some o → s1.heap.objs.size ≠ c := fun e => Nat.ne_of_gt (Heap.lt_size e)
      have n1 : s1.heap.objs.size ≠ i1 := let ⟨_, e, _⟩ := b4; lt e
      have n2 : s1.heap.objs.size ≠ i2 := let ⟨_, e, _⟩ := b5; lt e
      rcases bz with ⟨z1, a, b, z2⟩ | ⟨T, f, oT, z1, z2, r1, r2, r3, r4⟩
      · refine RZ.pyNext_zipT_item D z1 b2 z2 b4 b5 b6 b7 ex ey fun g c1 c2 c3 c4 c5 c6 k => ?_
        exact q s1.heap.objs.size _ _ g s1.toks ⟨ex, ey⟩ (.inl ⟨_, c5, rfl, _, rfl⟩) ⟨k _ _ D.TIz D.TITO D.TIi1 D.TIi2 b2, c3, c4, b6.at fun o e => k _ o D.l1z D.l1TO D.l1i1 D.l1i2 e, b7.at fun o e => k _ o D.l2z D.l2TO D.l2i1 D.l2i2 e, .inr ⟨s1.heap.objs.size, false, _, c1, c5, lt z1, n1, n2, Nat.ne_of_gt hds⟩⟩
          fun c o hc e => k c o (fun x => hc (by simp [x])) (fun x => hc (by simp [x])) (fun x => hc (by simp [x])) (fun x => hc (by simp [x])) e
      · refine zt_item D z1 z2 b2 b4 b5 b6 b7 ex ey fun g c1 c3 c4 c5 k => ?_
        exact q s1.heap.objs.size _ _ g s1.toks ⟨ex, ey⟩ (.inl ⟨_, c5, rfl, _, rfl⟩) ⟨k _ _ D.TIz D.TIi1 D.TIi2 b2, c3, c4, b6.at fun o e => k _ o D.l1z D.l1i1 D.l1i2 e, b7.at fun o e => k _ o D.l2z D.l2i1 D.l2i2 e, .inr ⟨T, true, oT, c1, k _ _ r1 r2 r3 z2, r1, r2, r3, r4⟩⟩
          fun c o hc e => k c o (fun x => hc (by simp [x])) (fun x => hc (by simp [x])) (fun x => hc (by simp [x])) e
    case done =>
      rintro s1 Q1 E1 ⟨b2, b4, b5, b6, b7, bz⟩ q
      have fin : xs[min xs.size ys.size]? = none ∨ ys[min xs.size ys.size]? = none := by
        rcases Nat.le_total xs.size ys.size with e | e
        · exact .inl (by rw [Nat.min_eq_left e]; exact Array.getElem?_eq_none (Nat.le_refl _))
        · exact .inr (by rw [Nat.min_eq_right e]; exact Array.getElem?_eq_none (Nat.le_refl _))
      rcases bz with ⟨z1, a, b, z2⟩ | ⟨T, f, oT, z1, z2, r1, r2, r3, r4⟩
      · exact RZ.pyNext_zipT_end hA D z1 b2 z2 b4 b5 b6 b7 fin fun g k => q g s1.toks fun c o hc e => k c o (fun x => hc (by simp [x])) (fun x => hc (by simp [x])) (fun x => hc (by simp [x])) (fun x => hc (by simp [x])) e
      · exact zt_end hA D z1 z2 b2 b4 b5 b6 b7 fin fun g k => q g s1.toks fun c o hc e => k c o (fun x => hc (by simp [x])) (fun x => hc (by simp [x])) (fun x => hc (by simp [x])) e
end
theorem key_is {k : Key} {u : Value} (h : RelV (kV k) u) : keyIs k u = true := by
  cases k with
  | inl i => obtain ⟨t, rfl⟩ := h; exact keyIs_int i t
  | inr x => obtain ⟨t, rfl⟩ := h; exact keyIs_str x t
theorem kv_zip : ∀ {ks : List Key} {ys : List V} {us : List Value}, Vals ys us → KV (ks.zip ys) (ks.zip us)
  | [], _, _, _ => .nil
  | _ :: _, [], _, h => by cases h; exact .nil
  | k :: ks, y :: ys, _, h => by
    cases h with
    | cons r rr => exact .cons ⟨rfl, r⟩ (kv_zip rr)
def tDZip (K : PySem.W.Frag) (ta : TA) : TE := fun σ H Q => ta σ H fun vs H1 => ∃ (a b : Addr) (ks : List Key) (ys : List V), vs = [.ref a, .ref b] ∧ SqT K H1 a (ks.map kV) ∧ SqT K H1 b ys ∧ ks.length = ys.length ∧ ks.Nodup ∧ ks.length ≤ 100000 ∧
  ∀ p, H1 p = none → Q (.ref p) (upd H1 p (.dK (ks.zip ys)))
theorem pe_dzip {X : Cx} {e e2 : Expr} {ta : TA} {p p2 q pos : Pos} (hc : X.calm = true) (hg : Gl X "dict") (hm : X.mg "dict" = none) (hg2 : Gl X "zip") (hm2 : X.mg "zip" = none) (ha : PA X [e, e2] ta)
    (hs : starEach [e, e2] X.env = (false, eval e X.env) :: starEach [e2] X.env := by rfl) (hpl : (backTo q (starEach [e2] X.env)).any (·.1) = false := by rfl)
    (na : starEach [.Call (.Name "zip" p2) [e, e2] [] q] X.env = (false, eval (.Call (.Name "zip" p2) [e, e2] [] q) X.env) :: starEach [] X.env := by rfl) : PE X (.Call (.Name "dict" p) [.Call (.Name "zip" p2) [e, e2] [] q] [] pos) (tDZip X.K ta) := by
  refine ⟨fun pins s σ H Q I h => ?_⟩
  refine Call_ (ld_blt I hg hm boot_dict ?_)
  refine callWith_type1 (args_cons (Call_ (ld_blt I hg2 hm2 boot_zip (callWith_type1 (thn (ha.run q pins s σ H _ I h) fun us s1 ⟨vs, H1, I1, r1, q1⟩ => ?_) hs hpl))) na) rfl rfl
  obtain ⟨a, b, ks, ys, rfl, ta, tb, hl, nd, sm, q1⟩ := q1
  cases r1 with
  | cons r rr =>
    cases rr with
    | cons r' rr =>
      cases rr; cases r; cases r'
      obtain ⟨its, ra, pa, _⟩ := I1.tuple ta
      obtain ⟨its2, rb, pb, _⟩ := I1.tuple tb
      have la : its.length = ks.length := by rw [← ra.length, List.length_map]
      have lb : its2.length = ks.length := by rw [← rb.length, hl]
      obtain ⟨o1, ho1, _⟩ := id pa
      obtain ⟨o2, ho2, _⟩ := id pb
      refine RZ.call_zipT (show s1.heap.IsTuple a its.toArray from pa) (show s1.heap.IsTuple b its2.toArray from pb) fun h' hz hTI hTO h1 h2 hsz hk => args_nil ?_
      have D := PySem.W.ktu_apart s1.heap.objs.size a b (Heap.lt_size ho1) (Heap.lt_size ho2)
      have ok : ZtOk (s1.heap.objs.size + 4) (s1.heap.objs.size + 2) (s1.heap.objs.size + 3) s1.heap.objs.size (s1.heap.objs.size + 1) a b its.toArray its2.toArray h' :=
        ⟨hz, hTI, ⟨_, _, hTO⟩, h1, h2, Heap.IsTuple.at (show s1.heap.IsTuple a its.toArray from pa) fun o e => hk _ o e, Heap.IsTuple.at (show s1.heap.IsTuple b its2.toArray from pb) fun o e => hk _ o e⟩
      have size : min its.toArray.size its2.toArray.size = ks.length := by rw [List.size_toArray, List.size_toArray, la, lb, Nat.min_self]
      have have_ : PairsHave (mixKind X.prog X.w) (min its.toArray.size its2.toArray.size) (fun i k v => its.toArray[i]? = some k ∧ its2.toArray[i]? = some v) (ks.zip its2) := by
        refine ⟨by rw [size, List.length_zip, lb, Nat.min_self], fun i key v ⟨e1, e2⟩ => ?_⟩
        rw [List.getElem?_toArray] at e1 e2
        have hi : i < ks.length := by rw [← la]; exact (List.getElem?_eq_some_iff.mp e1).1
        have ek : (ks.map kV)[i]? = some (kV ks[i]) := by rw [List.getElem?_map, List.getElem?_eq_getElem hi]; rfl
        obtain ⟨u, e3, r⟩ := Vals.get ra ek
        rw [e1] at e3
        cases e3
        exact ⟨ks[i], List.getElem?_zip_eq_some.mpr ⟨List.getElem?_eq_getElem hi, e2⟩, key_is r⟩
      refine call_dict_pairs (knd := mixKind X.prog X.w) (zt_arg _ _ _ _ _ _ _ D its.toArray its2.toArray) (I1.ok.hd hc) ok have_ (by rw [size, show sizeLine = 16777216 by decide]; omega) fun h2 tk hD hk2 => ?_
      have keys : ((ks.zip its2).map (·.1)).Nodup := by
        have : (ks.zip its2).map (·.1) = ks := List.map_fst_zip (by rw [lb]; exact Nat.le_refl _)
        rw [this]; exact nd
      rw [merged_nil_of_nodup _ keys] at hD
      have up : ∀ b u, s1.heap.get? b = some u → h2.get? b = some u := fun b u e => by
        have lt := Heap.lt_size e
        refine hk2 b u (fun m => ?_) (hk b u e)
        simp only [List.mem_cons, List.not_mem_nil, or_false] at m
        have no : ∀ n : Nat, ¬ (s1.heap.objs.size + n < s1.heap.objs.size) := fun n => by omega
        rcases m with z | z | z | z <;> rw [z] at lt
        · exact no 4 lt
        · exact no 3 lt
        · exact no 0 lt
        · exact no 1 lt
      have big : sysModules < s1.heap.objs.size := I1.big
      refine ⟨.ref h'.objs.size, _, I1.laid (a := h'.objs.size) (o := .dK (ks.zip ys)) (t' := tk) up (by rw [hsz]; omega) ⟨?_, ?_, ks.zip its2, kv_zip rb, hD⟩, rfl, q1 _ (I1.hok.fresh (by rw [hsz]; omega))⟩
      · rw [List.length_zip, show sizeLine = 16777216 by decide]; omega
      · exact beq_eq_false_iff_ne.mpr (by rw [hsz]; exact Ne.symm (Nat.ne_of_lt (Nat.lt_of_lt_of_le big (Nat.le_add_right _ 5))))
section
variable {tp : Option (Addr × Addr)} {K : PySem.W.Frag} {H H' H'' H0 H1 He Hq : Hp} {σ : L2.St} {ρ : Ro}
def dzD (xs ys : List PyData) : M C := match keys1 xs with
  | some ks => if xs.length = ys.length ∧ ks.Nodup ∧ xs.length ≤ 100000 then .ret (.own (.dK (ks.zip ys))) else .fail
  | none => .fail
def oDZip : List C → M C
  | [.val (.tuple xs), .val (.tuple ys)] => dzD xs ys
  | _ => .fail
def gDZip (gs : Ro → M (List C)) (ρ : Ro) : M C := (gs ρ).bind oDZip
theorem gDZip_eq {gs : Ro → M (List C)} : gDZip gs ρ = (gs ρ).bind oDZip := (rfl)
theorem oDZip_t {xs ys : List PyData} : oDZip [.val (.tuple xs), .val (.tuple ys)] = dzD xs ys := (rfl)
theorem keys1_len : ∀ {ds : List PyData} {ks : List Key}, keys1 ds = some ks → ks.length = ds.length
  | [], _, e => by cases e; rfl
  | d :: ds, ks, e => by
    unfold keys1 at e
    split at e
    · rename_i k ks' e1 e2
      cases e
      rw [List.length_cons, List.length_cons, keys1_len e2]
    · cases e
theorem kvr_zip : ∀ {ks : List Key} {vs : List V} {ds : List PyData}, VlAll K H vs ds → KvR K H (ks.zip vs) (ks.zip ds)
  | [], _, _, _ => ⟨rfl, .nil⟩
  | _ :: _, [], _, h => by cases h; exact ⟨rfl, .nil⟩
  | k :: ks, v :: vs, _, h => by
    cases h with
    | cons r rr =>
      obtain ⟨h1, h2⟩ := kvr_zip (ks := ks) rr
      exact ⟨by rw [List.zip_cons_cons, List.zip_cons_cons, List.map_cons, List.map_cons, h1], .cons r h2⟩
theorem re_dzip {ta : TA} {gs : Ro → M (List C)} (h1 : RA K ta gs) : RE K (tDZip K ta) (gDZip gs) := by
  intro tp He Hq ρ σ H Q r h
  refine h1 tp He Hq ρ σ H _ r (wp0_mono (fun c hc => ?_) (wp0_bind.mp h))
  intro vs H1 g1 t1 rx
  unfold oDZip at hc
  split at hc
  · rename_i xs ys
    obtain ⟨v, u, rfl, r1, r2⟩ := rx.two
    obtain ⟨a, vs, rfl, q1, q2, _⟩ := r1.tup
    obtain ⟨b, us, rfl, p1, p2, _⟩ := r2.tup
    unfold dzD at hc
    split at hc
    · rename_i ks ek
      split at hc
      · rename_i c
        obtain ⟨c1, c2, c3⟩ := c
        have e := keys1_vl q2 ek
        subst e
        have kl := keys1_len ek
        refine ⟨a, b, ks, us, rfl, q1, p1, by rw [kl, c1, p2.len], c2, by rw [kl]; exact c3, fun p hp => ?_⟩
        have hc : Post tp K H Q (.own (.dK (ks.zip ys))) := hc
        have sm : Same H1 (upd H1 p (.dK (ks.zip us))) := Same.new hp
        exact hc _ _ (g1.trans (.of sm)) (t1.same sm) ⟨p, rfl, g1.free t1 hp, t1.tne hp, _, upd_same, KvR.imlf (Im.new hp) _ _ (kvr_zip p2) trivial, trivial⟩
      · exact hc.elim
    · exact hc.elim
  · exact hc.elim
end
end Cs

set_option maxRecDepth 100000
set_option maxHeartbeats 4000000
/-! tuple(reversed(a tuple)) -/
namespace Cs
open PySem PySem.W PyProof.Rows PyProof.V PySem.Spec PySem.Calls L2
theorem rt_nolen : typeLookup (.type "reversed") "__len__" = pure none := by rw [typeLookup_type, builtinLookup_eq_fast]; kernel_rfl
theorem rt_hint : typeLookup (.type "reversed") "__length_hint__" = pure (some (.builtin "reversed.__length_hint__")) := by rw [typeLookup_type, builtinLookup_eq_fast]; kernel_rfl
theorem rt_hslot : Slot "reversed" "__length_hint__" "reversed.__length_hint__" :=
  .of (owner := "reversed") (n := "__length_hint__") (by rw [typeLookup_type, builtinLookup_eq_fast]; kernel_rfl) (by decide +kernel) (by decide +kernel) (by decide +kernel) (by first | exact .inl (by decide +kernel) | exact .inr (by decide +kernel)) (by rw [isSubtype_type]; kernel_rfl)
theorem rt_hentry : entryFor table "reversed.__length_hint__" = some Builtin.«reversed.__length_hint__» := entryFor_of_tree (by kernel_rfl)
theorem rt_hargs (a : Value) : argsOk "reversed.__length_hint__" ⟨[a], []⟩ := by
  unfold argsOk; rw [signature?_of (id := "reversed.__length_hint__") (n := ['_', '_', 't', 'n', 'i', 'h', '_', 'h', 't', 'g', 'n', 'e', 'l', '_', '_']) (o := ['d', 'e', 's', 'r', 'e', 'v', 'e', 'r']) (by kernel_rfl) RT.owner_rt]; kernel_rfl
theorem as_int (n : Int) (u : Tok) : asInt? (.int n u) = pure (some n) := rfl
theorem isTup_at {h h' : Heap} {t : Addr} {items : Array Value} (x : IsTup h t items) (e : ∀ o, h.get? t = some o → h'.get? t = some o) : IsTup h' t items := let ⟨o, ho, r⟩ := x; ⟨o, e _ ho, r⟩
section
variable {prog : Program} {w : World} {A : Around} {E : Value → Shared → Prop} {s : Shared}
/-- how many are to come -/
theorem rt_size {it t : Addr} {i : Int} {items : Array Value} {Q : Value → Shared → Prop} (Z : RT.IsRt s.heap it t i) (T : IsTup s.heap t items) (hn : items.size ≤ sizeLine) (hi : i + 1 ≤ (items.size : Int))
    (q : Q (.int (i + 1) (s.toks + 2)) { s with toks := s.toks + 3 }) : wpAny (model prog w) A (call (.builtin "reversed.__length_hint__") [.ref it]) Q E s := by
  obtain ⟨o, ho, hc, hd⟩ := id Z
  rw [sizeLine_eq] at hn
  refine wpAny_call_entry rt_hslot Z.typeIs rt_hentry ?_ (rt_hargs _)
  unfold Builtin.«reversed.__length_hint__»
  refine wpAny_bind (wpAny_of_eq (a := Value.ref it) rfl ?_)
  refine wpAny_bind (wpAny_field ho hd (x := .ref t) rfl ?_)
  rw [if_neg (show ¬ ((Value.ref t == Value.none) = true) from Bool.false_ne_true)]
  refine wpAny_bind (len_tuple T (by omega) ?_)
  refine wpAny_bind (wpAny_of_eq (a := some ((items.size : Nat) : Int)) rfl ?_)
  refine wpAny_bind (wpAny_field (s := { s with toks := s.toks + 1 + 1 }) ho hd (x := rawInt i) rfl ?_)
  show wpAny _ _ (if (items.size : Int) < i + 1 then _ else retInt (i + 1)) _ _ _
  rw [if_neg (by omega)]
  show wpAny _ _ (mkInt (i + 1) >>= fun v => ret v) _ _ _
  exact wpAny_bind (wpAny_mkInt (wpAny_pure ⟨_, rfl, q⟩))
theorem rt_lh {it t : Addr} {items : Array Value} {Q : Bool → Shared → Prop} (Z : RT.IsRt s.heap it t ((items.size : Int) - 1)) (T : IsTup s.heap t items) (hn : items.size ≤ sizeLine)
    (q : ∀ tk, Q (((items.size : Nat) : Int) != 0) { s with toks := tk }) : wpAny (model prog w) A (Builtin.List.listLengthHint (.ref it)) Q E s := by
  have ty : s.TypeIs (.ref it) "reversed" := Z.typeIs
  have fit : Builtin.List.listFitsIndex ((items.size : Nat) : Int) = true := by
    unfold Builtin.List.listFitsIndex; rw [sizeLine_eq] at hn; rw [Bool.and_eq_true]; exact ⟨decide_eq_true (by omega), decide_eq_true (by omega)⟩
  have few : Builtin.List.listTooLong ((items.size : Nat) : Int).toNat = false := by unfold Builtin.List.listTooLong; exact decide_eq_false (by rw [Int.toNat_natCast]; omega)
  unfold Builtin.List.listLengthHint
  refine wpAny_bind (wpAny_specialOf ty rt_nolen ?_); show wpAny _ A (specialOf (Value.ref it) (Str.ofString "__length_hint__") >>= _) _ _ _
  refine wpAny_bind (wpAny_specialOf ty rt_hint ?_); generalize hid : ("reversed.__length_hint__" : String) = id0
  wp_delta
  rw [show splitId id0 = some ("reversed", "__length_hint__") from by subst hid; decide +kernel]; subst hid
  refine wpAny_bind (wpAny_isInstance (b := true) ty (by rw [isSubtype_type]; kernel_rfl) ?_)
  show wpAny _ A (rule "list.length-hint.hint" >>= fun _ => _) _ _ _
  refine wpAny_bind (wpAny_rule ?_)
  refine wpAny_bind (wpAny_of_eq (rt_hslot.bind (.ref it)) ?_)
  refine wpAny_bind (wpAny_attempt (rt_size Z T hn (by omega) ?_))
  rw [show ((items.size : Int) - 1 + 1) = ((items.size : Nat) : Int) by omega]
  have pos : ¬ ((items.size : Nat) : Int) < 0 := by omega
  generalize ((items.size : Nat) : Int) = n at *
  refine wpAny_bind (wpAny_of_eq (as_int _ _) ?_)
  dsimp only
  rw [if_neg (by rw [fit]; decide)]
  rw [if_neg pos]
  rw [if_neg (by rw [few]; decide)]
  exact wpAny_pure (q _)
theorem rt_walks (hh : A.handled = none) (I t : Addr) (hne : t ≠ I) (items : Array Value) (hsz : items.size ≤ sizeLine) :
    Walks prog w A I [I, t] [I] items.size (fun i v => items[items.size - 1 - i]? = some v) (fun i h => i ≤ items.size ∧ RT.IsRt h I t ((items.size : Int) - 1 - (i : Int)) ∧ IsTup h t items) := by
  constructor
  case sub => intro b hb; rw [List.mem_singleton.mp hb]; exact List.mem_cons_self
  case frame => exact fun _ _ _ x k => ⟨x.1, x.2.1.at fun o e => k I (by simp) o e, isTup_at x.2.2 fun o e => k t (by simp) o e⟩
  case item =>
    rintro i s Q E hi ⟨h1, h2, h3⟩ hQ
    rw [show (items.size : Int) - 1 - (i : Int) = ((items.size - 1 - i : Nat) : Int) by omega] at h2
    have hx : items[items.size - 1 - i]? = some (items[items.size - 1 - i]'(by omega)) := Array.getElem?_eq_getElem (by omega)
    refine RT.next_rt_item h2 h3 hx hsz fun h' g1 g2 => ?_
    rw [show ((items.size - 1 - i : Nat) : Int) - 1 = (items.size : Int) - 1 - ((i + 1 : Nat) : Int) by omega] at g1
    exact hQ _ h' _ hx ⟨hi, g1, isTup_at h3 fun o eo => (g2.2 t hne).trans eo⟩ fun b o hb eo => g2.extBut b o (fun h => hb (by simp [h])) eo
  case done =>
    rintro s Q E ⟨_, h2, _⟩ hQ
    rw [show (items.size : Int) - 1 - (items.size : Int) = -1 by omega] at h2
    exact RT.next_rt_end hh h2 fun h' he => hQ h' s.toks fun b o hb eo => he b o (fun h => hb (by simp [h])) eo
  case self => exact fun _ _ _ _ x hQ => RT.iter_rt x.2.1 hQ
theorem rt_collect {it t : Addr} {items : Array Value} {Q : List Value → Shared → Prop} (hh : A.handled = none) (Z : RT.IsRt s.heap it t ((items.size : Int) - 1)) (T : IsTup s.heap t items) (hne : t ≠ it) (hn : items.size ≤ sizeLine)
    (hQ : ∀ (g : Heap) (tk : Nat) (acc : Array Value), (∀ b o, b ≠ it → s.heap.get? b = some o → g.get? b = some o) → ItemsOf (fun i v => items[items.size - 1 - i]? = some v) acc items.size → Q acc.toList { s with heap := g, toks := tk }) :
    wpAny (model prog w) A (collect (.ref it)) Q E s := by
  have W := (rt_walks (prog := prog) (w := w) (A := A.in1) hh it t hne items hn).toS
  obtain ⟨oi, hoi, _⟩ := id Z
  obtain ⟨ot, hot, _⟩ := id T
  have hSf : s.heap.objs.size ∉ [it, t] := fun m => by
    rcases List.mem_cons.mp m with z | z
    · exact Nat.ne_of_gt (Heap.lt_size hoi) z
    · exact Nat.ne_of_gt (Heap.lt_size hot) (List.mem_singleton.mp z)
  let g0 : Heap := s.heap.push { cls := .type "list", data := .seq ([] : List Value).toArray }
  have hS0 : g0.get? s.heap.objs.size = some { cls := .type "list", data := .seq ([] : List Value).toArray } := Heap.get?_push_size _ rfl
  have Z0 : RT.IsRt g0 it t ((items.size : Int) - 1) := Z.at fun o e => Heap.get?_push_of_some _ e
  have T0 : IsTup g0 t items := isTup_at T fun o e => Heap.get?_push_of_some _ e
  have ty : ({ s with heap := g0 } : Shared).TypeIs (.ref it) "reversed" := RT.IsRt.typeIs (s := { s with heap := g0 }) Z0
  have ns : Builtin.List.listSameRef (.ref s.heap.objs.size) (.ref it) = false := by simp [Builtin.List.listSameRef, Nat.ne_of_gt (Heap.lt_size hoi)]
  unfold collect
  refine wpAny_bind (wpAny_runValue (codeAny_builtin F.entry_proto_collect ?_)); rw [Around.under_plainId F.plain_proto_collect _]
  show wpAny _ A.in1 (newList [] >>= fun l' => again (.builtin "list.__iadd__" ⟨[l', .ref it], []⟩)) _ _ s; refine wpAny_bind (wpAny_newObj_type ?_)
  refine wpAny_pure ⟨plainId_quiet F.plain_list_iadd _, codeAny_builtin F.entry_list_iadd ?_⟩; rw [Around.under_plainId F.plain_list_iadd _]
  show wpAny _ A.in1 (Builtin.List.listExtendWith (.ref s.heap.objs.size) (.ref it) (.ref s.heap.objs.size)) _ _ _; unfold Builtin.List.listExtendWith
  refine wpAny_bind (wpAny_typeOf ty ?_); rw [if_neg (by rw [ns]; decide)]
  refine wpAny_bind (RT.iter_rt (s := { s with heap := g0 }) Z0 ?_); refine wpAny_bind (wpAny_holding ?_)
  refine rt_lh (s := { s with heap := g0 }) Z0 T0 hn fun tk => ?_
  have e0 : ((items.size : Nat) : Int) - 1 - ((0 : Nat) : Int) = (items.size : Int) - 1 := by omega
  by_cases hz : items.size = 0
  · rw [show ((((items.size : Nat) : Int)) != 0) = false by rw [hz]; rfl, if_neg (by decide)]
    have up : ∀ b o, b ≠ s.heap.objs.size → g0.get? b = some o → g0.get? b = some o := fun _ _ _ e => e
    have hS := hS0
    refine wpAny_pure ⟨plainId_quiet F.plain_extend_loop _, codeAny_extend_loopS W hn _ hSf _ items.size 0 _ _ _ rfl (Nat.zero_le _) ⟨Nat.zero_le _, by rw [e0]; exact Z0.at fun o e => up it o (Nat.ne_of_lt (Heap.lt_size hoi)) e, isTup_at T0 fun o e => up t o (Nat.ne_of_lt (Heap.lt_size hot)) e⟩ hS (ItemsOf.nil _) fun s2 acc c2 mv hS2 ha => ?_⟩
    show wpAny _ A (load s.heap.objs.size >>= _) _ _ s2; refine wpAny_bind (wpAny_load hS2 ?_); refine wpAny_pure ?_; rw [Moved.eq_with mv]
    refine hQ s2.heap s2.toks acc (fun b o hb e => mv.heap b o (fun m => ?_) (up b o (Nat.ne_of_lt (Heap.lt_size e)) (Heap.get?_push_of_some _ e))) ha
    rcases List.mem_cons.mp m with z | z
    · exact absurd (Heap.lt_size e) (by rw [z]; exact Nat.lt_irrefl _)
    · exact hb (List.mem_singleton.mp z)
  · rw [show ((((items.size : Nat) : Int)) != 0) = true from bne_iff_ne.mpr (by omega), if_pos (by rfl)]
    refine wpAny_bind (wpAny_rule ?_); refine wpAny_bind ?_
    show wpAny _ A.in1 (updateSeq s.heap.objs.size (·.push .none) >>= fun _ => updateSeq s.heap.objs.size (·.pop)) _ _ _
    refine wpAny_bind (wpAny_updateSeq hS0 rfl ?_)
    have hS1 := Heap.get?_update_self (Obj.mapSeq (·.push Value.none)) hS0 rfl
    refine wpAny_updateSeq hS1 rfl ?_
    have hS := Heap.get?_update_self (Obj.mapSeq (·.pop)) hS1 rfl
    have up : ∀ b o, b ≠ s.heap.objs.size → g0.get? b = some o → ((g0.update s.heap.objs.size (Obj.mapSeq (·.push Value.none))).update s.heap.objs.size (Obj.mapSeq (·.pop))).get? b = some o := fun b o hb e => (Heap.get?_update_other _ _ (Ne.symm hb)).trans ((Heap.get?_update_other _ _ (Ne.symm hb)).trans e)
    refine wpAny_pure ⟨plainId_quiet F.plain_extend_loop _, codeAny_extend_loopS W hn _ hSf _ items.size 0 _ _ _ rfl (Nat.zero_le _) ⟨Nat.zero_le _, by rw [e0]; exact Z0.at fun o e => up it o (Nat.ne_of_lt (Heap.lt_size hoi)) e, isTup_at T0 fun o e => up t o (Nat.ne_of_lt (Heap.lt_size hot)) e⟩ hS (ItemsOf.nil _) fun s2 acc c2 mv hS2 ha => ?_⟩
    show wpAny _ A (load s.heap.objs.size >>= _) _ _ s2; refine wpAny_bind (wpAny_load hS2 ?_); refine wpAny_pure ?_; rw [Moved.eq_with mv]
    refine hQ s2.heap s2.toks acc (fun b o hb e => mv.heap b o (fun m => ?_) (up b o (Nat.ne_of_lt (Heap.lt_size e)) (Heap.get?_push_of_some _ e))) ha
    rcases List.mem_cons.mp m with z | z
    · exact absurd (Heap.lt_size e) (by rw [z]; exact Nat.lt_irrefl _)
    · exact hb (List.mem_singleton.mp z)
theorem rt_tuple {it t : Addr} {items : Array Value} {Q : Value → Shared → Prop} (hh : A.handled = none) (Z : RT.IsRt s.heap it t ((items.size : Int) - 1)) (T : IsTup s.heap t items) (hne : t ≠ it) (hn : items.size ≤ sizeLine)
    (hQ : ∀ (g : Heap) (tk : Nat) (acc : Array Value), (∀ b o, b ≠ it → s.heap.get? b = some o → g.get? b = some o) → ItemsOf (fun i v => items[items.size - 1 - i]? = some v) acc items.size →
      Q (.ref g.objs.size) { s with heap := g.push { cls := .type "tuple", data := .seq acc }, toks := tk }) : wpAny (model prog w) A (call (.type "tuple") [.ref it]) Q E s := by
  have new : codeAny (model prog w) A.in1 (.call (.builtin "tuple.__new__") ⟨[.type "tuple", .ref it], []⟩) (wants (fun obj s₁ => s₁.TypeIs obj "tuple" ∧ Q obj s₁) E) s := by
    refine codeAny_of_tree ?_
    show wpAny _ A.in1.in1 (do checkBuiltinCall "tuple.__new__" ⟨[.type "tuple", .ref it], []⟩; again (.builtin "tuple.__new__" ⟨[.type "tuple", .ref it], []⟩)) _ _ s
    refine wpAny_bind (wpAny_of_eq (F.newCall_tuple_1 _) (wpAny_pure ⟨plainId_quiet F.plain_tuple_new _, codeAny_builtin F.entry_tuple_new ?_⟩)); rw [Around.under_plainId F.plain_tuple_new _]
    have f1 := sub_tuple_self
    have f2 := init_tuple_lookup
    have f3 := madeHere_tuple
    have ty : s.TypeIs (.ref it) "reversed" := Z.typeIs
    have h1 : A.in1.in1.handled = none := hh
    wp_walk using wpAny_typeOf ty, rt_collect (A := A.in1.in1) h1 Z T hne hn
    intro g tk acc k ha
    show wpAny _ _ (Builtin.Tuple.tupleExact acc.toList.toArray >>= fun v => ret v) _ _ _; unfold Builtin.Tuple.tupleExact
    refine wpAny_bind (wpAny_newObj_type ?_ (by show acc.toList.toArray.size ≤ sizeLine; simp only [Array.toArray_toList]; rw [ha.1]; exact hn)); refine wpAny_pure ?_
    rw [show acc.toList.toArray = acc by simp]
    exact ⟨⟨_, Heap.get?_push_size _ rfl, rfl⟩, hQ g tk acc k ha⟩
  refine callType_codes (Q₁ := fun obj s₁ => s₁.TypeIs obj "tuple" ∧ Q obj s₁) F.called_tuple (F.typeCall_tuple_1 _) F.entry_object_init new fun obj s₁ h₁ => ?_
  exact ⟨h₁.1, F.args_object_init_2 obj _, object_init_meets F.called_tuple.init.lookup F.called_tuple.made (by decide) prog w A.in1 _ s₁ ⟨h₁.1, rfl, h₁.2⟩⟩
end
def tTRev (K : PySem.W.Frag) (te : TE) : TE := fun σ H Q => te σ H fun v H1 => ∃ (a : Addr) (xs : List V), v = .ref a ∧ SqT K H1 a xs ∧ ∀ q, H1 q = none → Q (.ref q) (upd H1 q (.tup xs.reverse))
theorem pe_trev {X : Cx} {e : Expr} {te : TE} {p p2 pos pos2 : Pos} (hc : X.calm = true) (hg : Gl X "tuple") (hm : X.mg "tuple" = none) (hg2 : Gl X "reversed") (hm2 : X.mg "reversed" = none) (he : PE X e te)
    (hs : starEach [e] X.env = (false, eval e X.env) :: starEach [] X.env := by rfl)
    (na : starEach [.Call (.Name "reversed" p2) [e] [] pos2] X.env = (false, eval (.Call (.Name "reversed" p2) [e] [] pos2) X.env) :: starEach [] X.env := by rfl) : PE X (.Call (.Name "tuple" p) [.Call (.Name "reversed" p2) [e] [] pos2] [] pos) (tTRev X.K te) := by
  refine ⟨fun pins s σ H Q I h => ?_⟩
  refine Call_ (ld_blt I hg hm boot_tuple (callWith_type1 (args_cons (Call_ (ld_blt I hg2 hm2 boot_reversed (callWith_type1 (args_cons (thn (he.run pins s σ H _ I h) fun u s1 ⟨v, H1, I1, r1, q1⟩ => args_nil ?_) hs) hs rfl))) na) na rfl))
  obtain ⟨a, xs, rfl, hq, q⟩ := q1
  obtain rfl : u = Value.ref a := r1
  obtain ⟨its, rv, pt, hz⟩ := I1.tuple hq
  have sl := sizeLine_eq
  have hn : its.toArray.size ≤ sizeLine := by rw [List.size_toArray, ← rv.length]; exact hz
  refine RT.call_reversed_tup pt (fun A E Q k => len_tuple pt (by omega) k) (args_nil ?_)
  let g : Heap := s1.heap.push (RT.rtObj a ((its.toArray.size : Int) - 1))
  have I2 : Inv X pins σ H1 { s1 with heap := g, toks := s1.toks + 1 + 1 } := I1.kept (t' := s1.toks + 1 + 1) fun b o e => Heap.get?_push_of_some _ e
  obtain ⟨f0, f1, f2, f3, f4, f5⟩ := I1.fpOk (H' := H1) (b := s1.heap.objs.size) (Nat.le_refl _) (I1.hok.fresh (Nat.le_refl _))
  obtain ⟨ot, hot, _⟩ := id pt
  have hne : a ≠ s1.heap.objs.size := Nat.ne_of_lt (Heap.lt_size hot)
  refine rt_tuple (s := { s1 with heap := g, toks := s1.toks + 1 + 1 }) (I1.ok.hd hc) ⟨_, Heap.get?_push_size _ rfl, rfl, rfl⟩ (isTup_at pt fun o e => Heap.get?_push_of_some _ e) hne hn fun h' tk acc hk hi => ?_
  have I3 : Inv X pins σ H1 { s1 with heap := h', toks := tk } := I2.turned (t' := tk) (fun b o hb e => hk b o hb e) f0 f1 f3 f4 f5
  refine ⟨.ref h'.objs.size, upd H1 h'.objs.size (.tup xs.reverse), I3.laid (t' := tk) (fun c o e => Heap.get?_push_of_some _ e) (Nat.le_refl _) (show ObjOk X.prog X.w _ _ _ (.tup xs.reverse) from ⟨by rw [List.length_reverse]; exact hz, acc.toList, RT.vals_rev rv hi, ?_⟩), rfl, q _ (I3.hok.fresh (Nat.le_refl _))⟩
  rw [Array.toArray_toList]
  exact IsTup.new _ _
section
variable {tp : Option (Addr × Addr)} {K : PySem.W.Frag} {H H' H'' H0 H1 He Hq : Hp} {σ : L2.St} {ρ : Ro}
def oTRev : C → M C
  | .val (.tuple ds) => .ret (.val (.tuple ds.reverse))
  | _ => .fail
def gTRev (g : Ro → M C) (ρ : Ro) : M C := (g ρ).bind oTRev
theorem gTRev_eq {g : Ro → M C} : gTRev g ρ = (g ρ).bind oTRev := (rfl)
theorem oTRev_t {ds : List PyData} : oTRev (.val (.tuple ds)) = .ret (.val (.tuple ds.reverse)) := (rfl)
theorem vlAll_rev : ∀ {vs : List V} {ds : List PyData}, VlAll K H vs ds → VlAll K H vs.reverse ds.reverse
  | _, _, .nil => .nil
  | _, _, .cons h r => by rw [List.reverse_cons, List.reverse_cons]; exact (vlAll_rev r).app (.cons h .nil)
theorem re_trev {te : TE} {g : Ro → M C} (h1 : RE K te g) : RE K (tTRev K te) (gTRev g) := by
  intro tp He Hq ρ σ H Q r h
  refine h1 tp He Hq ρ σ H _ r (wp0_mono (fun c hc => ?_) (wp0_bind.mp h))
  intro v H1 g1 t1 rx
  unfold oTRev at hc
  split at hc
  · rename_i ds
    obtain ⟨a, vs, rfl, q1, q2, _⟩ := rx.tup
    refine ⟨a, vs, rfl, q1, fun q hq => ?_⟩
    have hc : Post tp K H Q (.val (.tuple ds.reverse)) := hc
    have sm : Same H1 (upd H1 q (.tup vs.reverse)) := Same.new hq
    exact hc _ _ (g1.trans (.of sm)) (t1.same sm) ⟨.tup upd_same ((vlAll_rev q2).imlf (Im.new hq) _ _ rfl), rfl⟩
  · exact hc.elim
end
end Cs

set_option maxRecDepth 100000
set_option maxHeartbeats 4000000
/-! <= of two lists of ints -/
namespace Cs
open PySem PySem.W PyProof.Rows PyProof.V PySem.Spec PySem.Calls L2
def IntArr (items : Array Value) (ns : List Int) : Prop := items.size = ns.length ∧ ∀ j (h : j < items.size), ∃ t, items[j] = .int (ns.getD j 0) t
theorem lexLe_step {ns ms : List Int} {i : Nat} (h1 : i < ns.length) (h2 : i < ms.length) : lexLeI (ns.drop i) (ms.drop i) = if ns.getD i 0 = ms.getD i 0 then lexLeI (ns.drop (i + 1)) (ms.drop (i + 1)) else decide (ns.getD i 0 ≤ ms.getD i 0) := by
  rw [List.drop_eq_getElem_cons h1, List.drop_eq_getElem_cons h2, lexLeI]
  have a : ns.getD i 0 = ns[i] := by rw [List.getD_eq_getElem?_getD, List.getElem?_eq_getElem h1]; rfl
  have b : ms.getD i 0 = ms[i] := by rw [List.getD_eq_getElem?_getD, List.getElem?_eq_getElem h2]; rfl
  rw [a, b]
theorem lexLe_end {ns ms : List Int} {i : Nat} (hi : i ≤ min ns.length ms.length) (h : min ns.length ms.length ≤ i) : lexLeI (ns.drop i) (ms.drop i) = decide (ns.length ≤ ms.length) := by
  by_cases c : ns.length ≤ i
  · rw [List.drop_of_length_le c, lexLeI, decide_eq_true (by omega)]
  · rw [List.drop_of_length_le (l := ms) (by omega), List.drop_eq_getElem_cons (by omega), lexLeI, decide_eq_false (by omega)]
theorem le_loop (l b : Addr) (xs ys : Array Value) (n1 n2 : Nat) (d1 d2 : Option Addr) (s1 s2 : Array (Option Value)) {ns ms : List Int} (A1 : IntArr xs ns) (A2 : IntArr ys ms) (k : Nat) :
    ∀ i : Nat, i ≤ min ns.length ms.length → min ns.length ms.length - i = k → Meets (Builtin.«list.__eq__.loop» ⟨[.ref l, .ref b, rawInt i, rawInt 1], []⟩)
      (fun A R s => s.heap.get? l = some { cls := .type "list", dict := d1, data := .seq xs n1, slots := s1 } ∧ s.heap.get? b = some { cls := .type "list", dict := d2, data := .seq ys n2, slots := s2 } ∧ R (.ok (.ret (.bool (lexLeI (ns.drop i) (ms.drop i))))) s) := by
  induction k with
  | zero =>
    intro i hm hk prog w A R s ⟨hl, hb, h⟩
    obtain ⟨hp, g, d, tk, os⟩ := s
    rw [lexLe_end hm (by omega), ← A1.1, ← A2.1] at h
    have z := A1.1
    have z2 := A2.1
    wp_walk using wpAny_loadPart' hl, wpAny_loadPart' hb
    by_cases c : xs.size ≤ i
    · rw [show xs[((i : Nat) : Int).toNat]? = none by simp; omega]
      wp_walk using wpAny_loadPart' hl, wpAny_loadPart' hb
      exact h
    · rw [show xs[((i : Nat) : Int).toNat]? = some (xs[i]'(by omega)) by simp, show ys[((i : Nat) : Int).toNat]? = none by simp; omega]
      wp_walk using wpAny_loadPart' hl, wpAny_loadPart' hb
      exact h
  | succ k ih =>
    intro i hm hk prog w A R s ⟨hl, hb, h⟩
    obtain ⟨hp, g, d, tk, os⟩ := s
    have c1 : i < xs.size := by rw [A1.1]; omega
    have c2 : i < ys.size := by rw [A2.1]; omega
    obtain ⟨t, ex⟩ := A1.2 i c1
    obtain ⟨u, ey⟩ := A2.2 i c2
    have g1 : xs[((i : Nat) : Int).toNat]? = some (.int (ns.getD i 0) t) := by simp [c1, ex]
    have g2 : ys[((i : Nat) : Int).toNat]? = some (.int (ms.getD i 0) u) := by simp [c2, ey]
    rw [lexLe_step (by omega) (by omega)] at h
    wp_walk using wpAny_loadPart' hl, wpAny_loadPart' hb
    rw [g1, g2]
    refine wpAny_bind (SeqAt.EqAt.int_int _ _ _ _ prog w _ _ ?_)
    by_cases q : ns.getD i 0 = ms.getD i 0
    · rw [if_pos q] at h
      rw [show (ns.getD i 0 == ms.getD i 0) = true from beq_iff_eq.mpr q]
      wp_walk
      rw [show ((i : Int) + 1) = ((i + 1 : Nat) : Int) by omega]
      exact ⟨plainId_quiet MeetsSeq3.plain_eq_loop _, codeAny_builtin MeetsSeq3.entry_eq_loop (by rw [Around.under_plainId MeetsSeq3.plain_eq_loop _]; exact ih (i + 1) (by omega) (by omega) prog w A R _ ⟨hl, hb, h⟩)⟩
    · rw [if_neg q] at h
      rw [show (ns.getD i 0 == ms.getD i 0) = false from beq_eq_false_iff_ne.mpr q]
      have le := Ob.RcOp.le_int (A := A.in1) (s := ⟨hp, g, d, tk, os⟩) (ns.getD i 0) (ms.getD i 0) t u prog w
      wp_walk using wpAny_loadPart' hl, wpAny_loadPart' hb
      rw [g1, g2]
      wp_walk using le
      exact h
theorem le_list (l b : Addr) (xs ys : Array Value) (n1 n2 : Nat) (d1 d2 : Option Addr) (s1 s2 : Array (Option Value)) {ns ms : List Int} (A1 : IntArr xs ns) (A2 : IntArr ys ms) :
    Meets (Builtin.«list.__le__» ⟨[.ref l, .ref b], []⟩)
      (fun A R s => s.heap.get? l = some { cls := .type "list", dict := d1, data := .seq xs n1, slots := s1 } ∧ s.heap.get? b = some { cls := .type "list", dict := d2, data := .seq ys n2, slots := s2 } ∧ R (.ok (.ret (.bool (lexLeI ns ms)))) s) := by
  intro prog w A R s ⟨hl, hb, h⟩
  obtain ⟨hp, g, d, tk, os⟩ := s
  have f3 := AutoSeq1.sub_list_list
  wp_walk using wpAny_loadPart' hl, wpAny_loadPart' hb
  exact ⟨plainId_quiet MeetsSeq3.plain_eq_loop _, codeAny_builtin MeetsSeq3.entry_eq_loop (by rw [Around.under_plainId MeetsSeq3.plain_eq_loop _]; exact le_loop l b xs ys n1 n2 d1 d2 s1 s2 A1 A2 _ 0 (Nat.zero_le _) rfl prog w A R _ ⟨hl, hb, h⟩)⟩
def rLeL (K : PySem.W.Frag) : R2 := fun x y H Q => ∃ (a b : Addr) (ns ms : List Int), x = .ref a ∧ y = .ref b ∧ SqL K H a (ns.map V.int) ∧ SqL K H b (ms.map V.int) ∧ Q (.bl (lexLeI ns ms)) H
theorem intArr {its : List Value} {ns : List Int} (h : IntsAre its ns) : IntArr its.toArray ns := ⟨by rw [List.size_toArray]; exact h.length, fun j h1 => PyProof.Rows.IntsAre.int_at h _ _ (by simp at h1; simp [h1])⟩
theorem op_leL {X : Cx} (hu : X.A.units < cLine) : OpR X (compareOp .LtE) (rLeL X.K) := by
  intro pins s σ H x y v u Q I rx ry h
  obtain ⟨a, b, ns, ms, rfl, rfl, ha, hb, q⟩ := h
  cases rx
  cases ry
  obtain ⟨its, r1, p1, _⟩ := I.list ha
  obtain ⟨its2, r2, p2, _⟩ := I.list hb
  obtain ⟨⟨cls, dd, data, sl⟩, ho, hc, n, hd⟩ := id p1.isList
  obtain ⟨⟨cls2, dd2, data2, sl2⟩, ho2, hc2, n2, hd2⟩ := id p2.isList
  simp only at hc hd hc2 hd2
  subst hc hd hc2 hd2
  show wpAny (model X.prog X.w) X.A (richCompare .LtE (.ref a) (.ref b)) (EP X pins σ Q) X.xe s
  exact richCompare_meets_room (op := .LtE) ⟨_, ho, rfl⟩ ⟨_, ho2, rfl⟩ F.slot_list_le F.entry_list_le (F.args_list_le_2 _ _) (le_list a b its.toArray its2.toArray n n2 dd dd2 sl sl2 (intArr (Vals.ints r1)) (intArr (Vals.ints r2))) ⟨ho, ho2, ⟨(fun x => nomatch x), ⟨.bl _, H, I, rfl, q⟩⟩⟩ hu
theorem opLeL (K : PySem.W.Frag) {X : Cx} (hu : X.A.units < cLine) (h : X.K = K := by rfl) : OpR X (compareOp .LtE) (rLeL K) := h ▸ op_leL hu
section
variable {tp : Option (Addr × Addr)} {K : PySem.W.Frag} {H H' H'' H0 H1 He Hq : Hp} {σ : L2.St} {ρ : Ro}
def leLD (xs ys : List PyData) : M C := match intsOf xs, intsOf ys with
  | some ns, some ms => .ret (.val (.bool (lexLeI ns ms)))
  | _, _ => .fail
def oLeL (c d : C) : M C := match c.items, d.items with
  | some xs, some ys => leLD xs ys
  | _, _ => .fail
theorem os_leL : OpS K (rLeL K) oLeL := by
  intro tp H0 H x y cx cy Q g t rx ry h
  unfold oLeL at h
  split at h
  · rename_i xs ys e1 e2
    obtain ⟨a, vs, rfl, q1, q2, _⟩ := rx.rd e1
    obtain ⟨b, us, rfl, p1, p2, _⟩ := ry.rd e2
    unfold leLD at h
    split at h
    · rename_i ns ms f1 f2
      have g1 := intsOf_dp (K := K) q2.dp f1
      have g2 := intsOf_dp (K := K) p2.dp f2
      subst g1 g2
      exact ⟨a, b, ns, ms, rfl, rfl, .inl q1, .inl p1, Post.bl h g t⟩
    · exact h.elim
  · exact h.elim
theorem oLeL_ii {c d : C} {xs ys : List PyData} (h1 : c.items = some xs) (h2 : d.items = some ys) : oLeL c d = leLD xs ys := by unfold oLeL; rw [h1, h2]
theorem leLD_i {ns ms : List Int} : leLD (ns.map .int) (ms.map .int) = .ret (.val (.bool (lexLeI ns ms))) := by unfold leLD; rw [intsOf_map, intsOf_map]
end
end Cs

set_option maxRecDepth 100000
set_option maxHeartbeats 4000000
/-! enumerate(a tuple) -/
namespace Cs
open PySem PySem.W PyProof.Rows PyProof.V PySem.Spec PySem.Calls L2
set_option maxHeartbeats 4000000 in
theorem et_new (l : Addr) (xs : Array Value) :
    Meets (Builtin.«enumerate.__new__» ⟨[.type "enumerate", .ref l], []⟩) (fun _ R s => s.heap.IsTuple l xs ∧
      R (.ok (.ret (.ref (s.heap.objs.size + 1)))) { s with heap := (s.heap.push { cls := .type "tuple_iterator", data := .fields #[.ref l, .int 0 0] }).push { cls := .type "enumerate", data := .fields #[.none, .bool false, .ref s.heap.objs.size, rawInt 0, .none, .none] } }) :=
  .of_wp fun prog w A R s h => by
    obtain ⟨hp, g, d, tk, os⟩ := s
    obtain ⟨hL, h⟩ := h
    have hsub := sub_enumerate
    have hz : (hp.push { cls := .type "tuple_iterator", data := .fields #[.ref l, .int 0 0] }).objs.size = hp.objs.size + 1 := Heap.size_push ..
    have hL1 : Heap.IsTuple (Shared.heap ⟨hp, g, d, tk, os⟩) l xs := hL
    wp_walk
    refine wpAny_stack_any fun st => wpAny_pure ?_
    split
    · rename_i c _ _ _ _ _
      cases (c == Value.type "enumerate")
      · wp_walk using wpAny_pyIter_tuple hL1
        refine ⟨_, rfl, ?_⟩
        show R (.ok (.ret (.ref (Heap.push hp _).objs.size))) _
        rw [hz]; exact h
      · wp_walk using wpAny_pyIter_tuple hL1
        refine ⟨_, rfl, ?_⟩
        show R (.ok (.ret (.ref (Heap.push hp _).objs.size))) _
        rw [hz]; exact h
    · wp_walk using wpAny_pyIter_tuple hL1
      refine ⟨_, rfl, ?_⟩
      show R (.ok (.ret (.ref (Heap.push hp _).objs.size))) _
      rw [hz]; exact h
section
variable {prog : Program} {w : World} {A : Around} {E : Value → Shared → Prop} {s : Shared}
theorem et_call {l : Addr} {xs : Array Value} {Q : Value → Shared → Prop} (hL : s.heap.IsTuple l xs)
    (h : ∀ g, IsEnum g (s.heap.objs.size + 1) s.heap.objs.size 0 .none → g.IsTupleIter s.heap.objs.size l 0 → g.objs.size = s.heap.objs.size + 2 → (∀ b o, s.heap.get? b = some o → g.get? b = some o) → Q (.ref (s.heap.objs.size + 1)) { s with heap := g }) :
    wpAny (model prog w) A (call (.type "enumerate") [.ref l]) Q E s := by
  refine callType_new F.called_enumerate (by decide) (F.typeCall_enumerate_1 _) (F.newCall_enumerate_1 _) (fun obj => F.args_object_init_2 obj _) F.entry_enumerate_new (et_new l xs) ⟨hL, ?_⟩
  have hz : (s.heap.push { cls := .type "tuple_iterator", data := .fields #[.ref l, .int 0 0] }).objs.size = s.heap.objs.size + 1 := Heap.size_push ..
  have he : IsEnum ((s.heap.push { cls := .type "tuple_iterator", data := .fields #[.ref l, .int 0 0] }).push { cls := .type "enumerate", data := .fields #[.none, .bool false, .ref s.heap.objs.size, rawInt 0, .none, .none] }) (s.heap.objs.size + 1) s.heap.objs.size 0 .none := by
    have e := Heap.get?_push_size (s.heap.push { cls := .type "tuple_iterator", data := .fields #[.ref l, .int 0 0] }) (o := { cls := .type "enumerate", data := .fields #[.none, .bool false, .ref s.heap.objs.size, rawInt 0, .none, .none] }) rfl
    rw [hz] at e; exact e
  exact ⟨⟨_, he, rfl⟩, h _ he ⟨_, Heap.get?_push_of_some _ (Heap.get?_push_size _ rfl), rfl, rfl⟩ (by rw [Heap.size_push, hz]) fun b o x => Heap.get?_push_of_some _ (Heap.get?_push_of_some _ x)⟩
end
/-- the tuple at a, each item in a new pair -/
def IteT (K : PySem.W.Frag) (a : Addr) : It :=
  ⟨fun i H => ∃ (xs : List V) (x : V), SqT K H a xs ∧ xs[i]? = some x, fun i H v H' => ∃ T x, v = .ref T ∧ H T = none ∧ H' = upd H T (.tup [.int (i : Nat), x]) ∧ ∀ xs, SqT K H a xs → xs[i]? = some x, fun i H => ∃ xs : List V, SqT K H a xs ∧ xs.length ≤ i⟩
def EtSt (a e it : Addr) (i : Nat) (h : Heap) : Prop := (∃ old, IsEnum h e it ((i : Nat) : Int) old) ∧ h.IsTupleIter it a i ∧ e ≠ it ∧ a ≠ it ∧ e ≠ a
theorem et_last {prog : Program} {w : World} {A : Around} (hh : A.handled = none) (it t : Addr) (i : Nat) (items : Array Value) (hx : items[i]? = none) :
    Draws prog w A it [it, t] 0 (fun _ _ => True) (fun _ h => h.IsTupleIter it t i ∧ h.IsTuple t items) := by
  constructor
  case live => exact fun _ _ st => let ⟨o, ho, _⟩ := st.1; ⟨o, ho⟩
  case frame => exact fun _ _ _ st k => ⟨st.1.at fun o e => k it (by simp) o e, st.2.at fun o e => k t (by simp) o e⟩
  case item => exact fun i s Q E hi => absurd hi (Nat.not_lt_zero _)
  case done => exact fun s Q E st hE => RZ.nextOf_tuple_end hh st.1 st.2 hx fun h' e a b => hE h' e a b
theorem et_turn {P : Program} {w : World} {K : PySem.W.Frag} {elts : List Expr} {kk : Nat} {tpos : Pos} (a e it : Addr) : Turn P w K (.Tuple elts kk tpos) (IteT K a) [e, it] e (EtSt a e it) := by
  constructor
  case mem => exact List.mem_cons_self
  case obj =>
    rintro i h ⟨⟨old, he⟩, ⟨o, ho, hc, hd⟩, _⟩ b hb
    have hb : b = e ∨ b = it := by simpa using hb
    rcases hb with rfl | rfl
    · exact ⟨_, he, fun v q => nomatch q⟩
    · exact ⟨o, ho, fun v q => by rw [hd] at q; cases q⟩
  case keep => exact fun i h h' ⟨⟨old, he⟩, hi, r⟩ k => ⟨⟨old, k e (by simp) _ he⟩, hi.at fun o q => k it (by simp) o q, r⟩
  case item =>
    intro X hP hw hK hc i pins s σ H E I hf ⟨⟨old, he⟩, hit, n1, n2, n3⟩ ⟨xs, x, hq, hx⟩
    subst hP hw hK
    obtain ⟨its, rv, p, hz⟩ := I.tuple hq
    obtain ⟨u, hu, ru⟩ := rv.get hx
    have hel : e < s.heap.objs.size := Heap.lt_size he
    have hil : it < s.heap.objs.size := by obtain ⟨_, q, _⟩ := hit; exact Heap.lt_size q
    have hi : i < its.toArray.size := by rw [List.size_toArray]; exact (List.getElem?_eq_some_iff.mp hu).1
    have pT : s.heap.IsTuple a its.toArray := p
    have D := Draws.tuple (prog := X.prog) (w := X.w) (A := X.A.in1) (I.ok.hd hc) it a n2 its.toArray
    refine wpAny_pyNext_enum_itemD D he ⟨hit, pT⟩ hi n1 (by simp only [List.mem_cons, List.not_mem_nil, or_false, not_or]; exact ⟨n1, n3⟩) fun x' g tk hx' ho st' hT hsz hk => ?_
    obtain ⟨hit', _⟩ := st'
    have ex : x' = u := by
      rw [List.getElem?_toArray, hu] at hx'
      exact (Option.some.inj hx').symm
    subst ex
    refine ⟨_, rfl, wpAny_letOwnedTupleGo_enum (s := { s with heap := g, toks := tk + 1 }) ho fun g2 he' sb => ?_⟩
    have hT2 : g2.get? s.heap.objs.size = some { cls := .type "tuple", data := .seq #[.int i tk, x'] } := (sb.2 _ (Nat.ne_of_gt hel)).trans hT
    have new : ObjOk X.prog X.w (upd H s.heap.objs.size (.tup [.int (i : Nat), x])) g2 s.heap.objs.size (.tup [.int (i : Nat), x]) := ⟨by show 2 ≤ sizeLine; decide, [.int i tk, x'], .cons ⟨_, rfl⟩ (.cons ru .nil), ⟨_, hT2, rfl, _, rfl⟩⟩
    have I1 : Inv X pins σ (upd H s.heap.objs.size (.tup [.int (i : Nat), x])) { s with heap := g2, toks := tk + 1 } :=
      I.turnedNew (ch := [e, it]) (fun b ob hb q => (sb.2 b (fun z => hb (by simp [z]))).trans (hk b ob (fun z => hb (by simp [z])) (fun z => hb (by simp [z])) q)) hf (Nat.le_refl _) new
    refine ⟨.ref s.heap.objs.size, _, I1, rfl, ⟨_, x, rfl, I.hok.fresh (Nat.le_refl _), rfl, fun ys hy => by rw [I.tuple_inj hy hq]; exact hx⟩, ⟨⟨x', ?_⟩, hit'.at fun o q => (sb.2 it (Ne.symm n1)).trans q, n1, n2, n3⟩, fun b hb => ?_⟩
    · rw [show ((i + 1 : Nat) : Int) = (i : Int) + 1 by omega]; exact he'
    · have hb : b = e ∨ b = it := by simpa using hb
      rcases hb with rfl | rfl
      · rw [upd_ne (Nat.ne_of_lt hel)]; exact (hf _ (by simp)).1
      · rw [upd_ne (Nat.ne_of_lt hil)]; exact (hf _ (by simp)).1
  case done =>
    intro X hP hw hK hc i pins s σ H E I hf ⟨⟨old, he⟩, hit, n1, n2, n3⟩ ⟨xs, hq, hx⟩
    subst hP hw hK
    obtain ⟨its, rv, p, hz⟩ := I.tuple hq
    obtain ⟨f0, f1, f2, f3, f4, f5⟩ := hf it (by simp)
    have hl := rv.length
    have pT : s.heap.IsTuple a its.toArray := p
    exact wpAny_pyNext_enum_endD (et_last (prog := X.prog) (w := X.w) (A := X.A.in1) (I.ok.hd hc) it a i its.toArray (by simp; omega)) he ⟨hit, pT⟩ fun h' eb => ⟨rfl, I.turned (t' := s.toks) (fun b o hb q => eb b o hb q) f0 f1 f3 f4 f5⟩
  case self => exact fun A i s Q E st h => let ⟨⟨_, he⟩, _⟩ := st; wpAny_pyIter_enum he h
def iEnT (K : PySem.W.Frag) (ta : TA) : TI := fun σ H R => ta σ H fun vs H1 => ∃ (a : Addr) (xs : List V), vs = [.ref a] ∧ SqT K H1 a xs ∧ R (IteT K a) H1
theorem pi_enT {X : Cx} {e : Expr} {ta : TA} {p pos tpos : Pos} {elts : List Expr} {kk : Nat} (hg : Gl X "enumerate") (hm : X.mg "enumerate" = none) (ha : PA X [e] ta) (hs : starEach [e] X.env = [(false, eval e X.env)] := by rfl) :
    PI X (.Tuple elts kk tpos) (.Call (.Name "enumerate" p) [e] [] pos) (iEnT X.K ta) := by
  refine ⟨fun pins s σ H R I h => ?_⟩
  refine Call_ (ld_blt I hg hm boot_enumerate (PyProof.Rows.callWith_type1 (thn (ha.run pos pins s σ H _ I h) fun us s1 ⟨vs, H1, I1, r1, q1⟩ => ?_) hs rfl))
  obtain ⟨a, xs, rfl, hq, q⟩ := q1
  cases r1 with
  | cons r rr =>
    cases rr
    cases r
    obtain ⟨its, rv, pt, hz⟩ := I1.tuple hq
    obtain ⟨ot, hot, _⟩ := id pt
    refine et_call (show s1.heap.IsTuple a its.toArray from pt) fun g he hit hsz hk => wpAny_pyIter_enum he ?_
    have I2 : Inv X pins σ H1 { s1 with heap := g } := I1.kept (t' := s1.toks) hk
    have lt := Heap.lt_size hot
    refine ⟨s1.heap.objs.size + 1, [s1.heap.objs.size + 1, s1.heap.objs.size], _, _, H1, rfl, I2, et_turn a (s1.heap.objs.size + 1) s1.heap.objs.size, ⟨⟨.none, he⟩, hit, Nat.succ_ne_self _, Nat.ne_of_lt lt, Nat.ne_of_gt (Nat.lt_succ_of_lt lt)⟩, fun b hb => ?_, q⟩
    have hb : b = s1.heap.objs.size + 1 ∨ b = s1.heap.objs.size := by simpa using hb
    have le : s1.heap.objs.size ≤ b := by
      rcases hb with z | z
      · rw [z]; exact Nat.le_add_right _ _
      · rw [z]; exact Nat.le_refl _
    exact I1.fpOk le (I1.hok.fresh le)
section
variable {tp : Option (Addr × Addr)} {K : PySem.W.Frag} {H H' H'' H0 H1 He Hq : Hp} {σ : L2.St} {ρ : Ro}
def enD : List PyData → Nat → List PyData
  | [], _ => []
  | d :: ds, i => .tuple [.int (i : Nat), d] :: enD ds (i + 1)
theorem enD_len : ∀ (ds : List PyData) (i : Nat), (enD ds i).length = ds.length
  | [], _ => rfl
  | d :: ds, i => by rw [enD, List.length_cons, enD_len ds, List.length_cons]
theorem enD_get : ∀ (ds : List PyData) (i j : Nat) (e : PyData), (enD ds i)[j]? = some e → ∃ d, ds[j]? = some d ∧ e = .tuple [.int ((i + j : Nat) : Int), d]
  | [], _, j, e, h => by simp [enD] at h
  | d :: ds, i, 0, e, h => by
    rw [enD] at h
    exact ⟨d, rfl, (Option.some.inj h).symm⟩
  | d :: ds, i, j + 1, e, h => by
    rw [enD] at h
    obtain ⟨x, h1, h2⟩ := enD_get ds (i + 1) j e (by simpa using h)
    exact ⟨x, by simpa using h1, by rw [h2, show i + 1 + j = i + (j + 1) by omega]⟩
def enC : List C → M (List PyData)
  | [.val (.tuple ds)] => .ret (enD ds 0)
  | _ => .fail
def gEnT (gs : Ro → M (List C)) (ρ : Ro) : M (List PyData) := (gs ρ).bind enC
theorem gEnT_eq {gs : Ro → M (List C)} : gEnT gs ρ = (gs ρ).bind enC := (rfl)
theorem enC_t {ds : List PyData} : enC [.val (.tuple ds)] = .ret (enD ds 0) := (rfl)
theorem wk_enT {a : Addr} {vs : List V} {ds : List PyData} (h : SqT K H1 a vs) (hd : VlAll K H1 vs ds) : Wk K H1 (IteT K a) [] (enD ds 0) := by
  intro H' im kp
  have hs := im.sqT h
  have e1 := hd.imlf im ds _ rfl
  refine ⟨⟨vs, hs, by rw [hd.len, enD_len]; exact Nat.le_refl _⟩, fun i d e => ?_⟩
  obtain ⟨x, q1, rfl⟩ := enD_get ds 0 i d e
  obtain ⟨v, v1, v2⟩ := e1.get q1
  refine ⟨⟨vs, v, hs, v1⟩, fun z H'' yl => ?_⟩
  obtain ⟨T, x', rfl, hT, rfl, g1⟩ := yl
  have := g1 vs hs
  rw [v1] at this
  cases this
  have im2 : Im H' (upd H' T (.tup [.int (i : Nat), v])) := Im.new hT
  refine ⟨Same.new hT, .tup upd_same (.cons ?_ (.cons (v2.imlf im2 x _ rfl) .nil))⟩
  rw [Nat.zero_add]
  exact .int _
theorem ri_enT {ta : TA} {gs : Ro → M (List C)} {s : Bool} (h1 : RA K ta gs) : RI K s (iEnT K ta) (gEnT gs) := by
  intro tp He Hq ρ σ H Q r h
  refine h1 tp He Hq ρ σ H _ r (wp0_mono (fun c hc => ?_) (wp0_bind.mp h))
  intro vs H1 g1 t1 rx
  unfold enC at hc
  split at hc
  · rename_i ds
    obtain ⟨v, rfl, r1⟩ := rx.one
    obtain ⟨a, vs, rfl, q1, q2, _⟩ := r1.tup
    exact ⟨a, vs, rfl, q1, hc _ H1 [] g1 t1 rfl (wk_enT q1 q2) (fun _ m => by simp at m) (fun _ _ _ _ m => by simp at m)⟩
  · exact hc.elim
end
end Cs

set_option maxRecDepth 100000
set_option maxHeartbeats 4000000
/-! a text in a module's tuple or dict; sorted of texts -/
namespace Cs
open PySem PySem.Spec PyProof.Rows L2
section
variable {tp : Option (Addr × Addr)} {K : PySem.W.Frag} {H H' H'' H0 H1 He Hq : Hp} {σ : L2.St} {ρ : Ro}
def gInK (n : Bool) (ds : List PyData) (g : Ro → M C) (ρ : Ro) : M C := (g ρ).bind fun c => oInX n c.dat (some (.tuple ds))
theorem re_inK {n : Bool} {a : Addr} {ds : List PyData} {t : TE} {g : Ro → M C} (hk : KTup K a ds) (ha : RE K t g) : RE K (tOp (rInU K n) t (tC (.ref a))) (gInK n ds g) := by
  intro tp He Hq ρ σ H Q rl h
  refine ha tp He Hq ρ σ H _ rl (wp0_mono (fun c h1 => ?_) (wp0_bind.mp h))
  intro x H1 g1 t1 rx
  show rInU K n x (.ref a) H1 Q
  have key : ∀ d, c.dat = some d → rInU K n x (.ref a) H1 Q := fun d hd => by
    rw [hd] at h1
    have h2 : wp0 (oInD n d ds) (Post tp K H Q) := by
      cases d <;> exact h1
    unfold oInD at h2
    split at h2
    · rename_i e
      simp only [Bool.and_eq_true] at e
      exact .inl ⟨d, ds, rx.dp hd, .inr (hk.dp H1), e.1, e.2, Post.bl h2 g1 t1⟩
    · exact h2.elim
  cases hd : c.dat with
  | some d => exact key d hd
  | none => rw [hd] at h1; exact h1.elim
def rInKd (K : PySem.W.Frag) (n : Bool) : R2 := fun x y H Q => ∃ (z : Str) (d : Addr) (r : Option Value), x = .str z ∧ y = .ref d ∧ PySem.W.nsIn K d z = some r ∧ Q (.bl (n ^^ r.isSome)) H
theorem opInKd (K : PySem.W.Frag) {X : Cx} {d : Addr} {es : Array DictEntry} {m : Nat} (D : KDict X.K X.w d es m) (h : X.K = K := by rfl) : OpR X (compareOp .In) (fun x y H Q => y = .ref d ∧ rInKd K false x y H Q) := by
  subst h
  intro pins s σ H x y v u Q I rx ry h
  obtain ⟨e0, z, d', r, e1, e2, e3, q⟩ := h
  subst e0
  cases e2
  rw [Bool.false_xor] at q
  exact op_in_kd D pins s σ H x _ v u Q I rx ry ⟨z, r, e1, rfl, e3, q⟩
theorem opNotInKd (K : PySem.W.Frag) {X : Cx} {d : Addr} {es : Array DictEntry} {m : Nat} (D : KDict X.K X.w d es m) (h : X.K = K := by rfl) : OpR X (compareOp .NotIn) (fun x y H Q => y = .ref d ∧ rInKd K true x y H Q) := by
  subst h
  intro pins s σ H x y v u Q I rx ry h
  obtain ⟨e0, z, d', r, e1, e2, e3, q⟩ := h
  subst e0
  cases e2
  rw [Bool.true_xor] at q
  exact op_notIn_kd D pins s σ H x _ v u Q I rx ry ⟨z, r, e1, rfl, e3, q⟩
def kInD (n : Bool) (ks : List Str) : C → M C
  | .val (.str z) => .ret (.val (.bool (n ^^ decide (z ∈ ks))))
  | _ => .fail
def gInKd (n : Bool) (ks : List Str) (g : Ro → M C) (ρ : Ro) : M C := (g ρ).bind (kInD n ks)
theorem gInKd_eq {n : Bool} {ks : List Str} {g : Ro → M C} : gInKd n ks g ρ = (g ρ).bind (kInD n ks) := (rfl)
theorem gInK_eq {n : Bool} {ds : List PyData} {g : Ro → M C} : gInK n ds g ρ = (g ρ).bind fun c => oInX n c.dat (some (.tuple ds)) := (rfl)
theorem re_inKd {n : Bool} {d : Addr} {ks : List Str} {t : TE} {g : Ro → M C} (hk : ∀ z : Str, ∃ r, PySem.W.nsIn K d z = some r ∧ r.isSome = decide (z ∈ ks)) (ha : RE K t g) : RE K (tOp (fun x y H Q => y = .ref d ∧ rInKd K n x y H Q) t (tC (.ref d))) (gInKd n ks g) := by
  intro tp He Hq ρ σ H Q rl h
  refine ha tp He Hq ρ σ H _ rl (wp0_mono (fun c h1 => ?_) (wp0_bind.mp h))
  intro x H1 g1 t1 rx
  show (V.ref d) = .ref d ∧ rInKd K n x (.ref d) H1 Q
  unfold kInD at h1
  split at h1
  · rename_i z
    obtain ⟨r, e1, e2⟩ := hk z
    refine ⟨rfl, z, d, r, ?_, rfl, e1, ?_⟩
    · have := rx.dp (d := .str z) rfl
      cases this
      rfl
    · rw [e2]; exact Post.bl h1 g1 t1
  · exact h1.elim
/-! sorted of texts -/
def strsOf : List PyData → Option (List Str)
  | [] => some []
  | .str i :: ds => (strsOf ds).map (i :: ·)
  | _ :: _ => none
theorem strsOf_map : ∀ ns : List Str, strsOf (ns.map PyData.str) = some ns
  | [] => rfl
  | n :: ns => by rw [List.map_cons, strsOf, strsOf_map ns]; rfl
theorem strsOf_dp : ∀ {vs : List V} {ds : List PyData} {ns : List Str}, DpAll K H vs ds → strsOf ds = some ns → vs = ns.map V.str
  | _, [], ns, h, e => by cases e; cases h; rfl
  | _, .str i :: ds, ns, h, e => by
    unfold strsOf at e
    cases q : strsOf ds with
    | none => rw [q] at e; cases e
    | some ms =>
      rw [q] at e
      cases e
      cases h with
      | cons h1 h2 =>
        cases h1
        rw [strsOf_dp h2 q]
        rfl
  | _, .none :: _, _, _, e => by cases e
  | _, .bool _ :: _, _, _, e => by cases e
  | _, .int _ :: _, _, _, e => by cases e
  | _, .list _ :: _, _, _, e => by cases e
  | _, .tuple _ :: _, _, _, e => by cases e
  | _, .dict _ :: _, _, _, e => by cases e
theorem vl_strs : ∀ (ns : List Str), VlAll K H (ns.map V.str) (ns.map PyData.str)
  | [] => .nil
  | n :: ns => .cons (.str n) (vl_strs ns)
def srtS (ns : List Str) : M C := if ns.length < 64 then .any (fun d => ∃ ns' : List Str, ns'.Perm ns ∧ sortedS ns' = true ∧ d = .list (ns'.map .str)) srtK else .fail
def srtDS : PyData → M C
  | .list ds => match strsOf ds with
    | some ns => srtS ns
    | none => .fail
  | _ => .fail
abbrev oSortS := o1 srtDS
theorem cs_sortS : CallS K (rSortedS K) oSortS := by
  intro tp H0 H vs cs Q g t r h
  obtain ⟨v, d, rfl, hd, h⟩ := o1_ok r h
  unfold srtDS at h
  split at h
  · split at h
    · rename_i ns e
      cases hd with
      | lst hs ha =>
        have e2 := strsOf_dp ha e
        subst e2
        unfold srtS at h
        split at h
        · rename_i h64
          exact ⟨_, ns, rfl, hs, h64, fun ns' p hp hw hn => Post.lst (h _ ⟨ns', hp, hw, rfl⟩) g t hn (vl_strs ns') (lfAll_iff.mpr fun d m => by obtain ⟨i, _, rfl⟩ := List.mem_map.mp m; rfl)⟩
        · exact h.elim
    · exact h.elim
  · exact h.elim
theorem srtDS_l {ns : List Str} : srtDS (.list (ns.map .str)) = srtS ns := by unfold srtDS; dsimp only; rw [strsOf_map]
theorem callSortS (K : PySem.W.Frag) {X : Cx} (h : X.K = K := by rfl) : CallR X (.builtin "sorted") (rSortedS K) := by
  subst h
  exact cr_sortedS
end
/-! what the module's tuples and dicts of texts hold -/
def chkS : List Value → List Str → Bool
  | [], [] => true
  | .str i _ :: vs, n :: ns => (i == n) && chkS vs ns
  | _, _ => false
def ktupS (ns : List Str) (o : Obj) : Bool := match o with
  | ⟨.type c, none, .seq its _, _⟩ => (c == "tuple") && ((chkS its.toList ns) && decide (ns.length ≤ 1000))
  | _ => false
theorem chkS_vals : ∀ (vs : List Value) (ns : List Str), chkS vs ns = true → Vals (ns.map V.str) vs
  | vs, ns, h => by
    unfold chkS at h
    split at h
    · exact .nil
    · rename_i i t us n ms
      simp only [Bool.and_eq_true, beq_iff_eq] at h
      obtain ⟨rfl, h⟩ := h
      exact .cons ⟨t, rfl⟩ (chkS_vals us ms h)
    · cases h
theorem lf_strsK (ns : List Str) : lfAll (ns.map PyData.str) = true := lfAll_iff.mpr fun d m => by
  obtain ⟨i, _, rfl⟩ := List.mem_map.mp m
  rfl
theorem ktupS_of {K : PySem.W.Frag} {a : Addr} {o : Obj} {ns : List Str} (h : K.lookup a = some o) (b : ktupS ns o = true) : KTup K a (ns.map PyData.str) := by
  unfold ktupS at b
  split at b
  · rename_i c its n sl
    simp only [Bool.and_eq_true, beq_iff_eq, decide_eq_true_eq] at b
    obtain ⟨rfl, b1, b2⟩ := b
    have v := chkS_vals _ _ b1
    refine ⟨_, its, n, ns.map V.str, h, rfl, rfl, rfl, ?_, v, fun H => vl_strs ns, lf_strsK ns⟩
    have hl := v.length
    rw [List.length_map] at hl
    have : its.size = its.toList.length := by simp
    rw [this, ← hl, show sizeLine = 16777216 by decide]
    omega
  · cases b
def chkK : List DictEntry → List Str → Bool
  | [], [] => true
  | e :: es, k :: ks => (match e.key with
    | .str x _ => x == k
    | _ => false) && chkK es ks
  | _, _ => false
theorem chkK_find : ∀ {es : List DictEntry} {ks : List Str} (z : Str), chkK es ks = true → (es.find? (·.key.isStr z)).isSome = decide (z ∈ ks) ∧ es.any (·.refKey) = false
  | [], [], z, _ => ⟨by simp, rfl⟩
  | [], _ :: _, _, h => by cases h
  | _ :: _, [], _, h => by cases h
  | e :: es, k :: ks, z, h => by
    unfold chkK at h
    rw [Bool.and_eq_true] at h
    obtain ⟨h1, h2⟩ := h
    obtain ⟨i1, i2⟩ := chkK_find z h2
    split at h1
    · rename_i x t q
      have e1 : x = k := by simpa using h1
      subst e1
      have r : e.refKey = false := by unfold DictEntry.refKey; rw [q]
      refine ⟨?_, by rw [List.any_cons, r, i2]; rfl⟩
      rw [List.find?_cons]
      have s : e.key.isStr z = decide (x = z) := by rw [q]; rfl
      rw [s]
      by_cases c : x = z
      · rw [decide_eq_true c]; simp [c]
      · rw [decide_eq_false c]
        show (es.find? (·.key.isStr z)).isSome = _
        rw [i1]
        simp [show ¬ z = x from fun y => c y.symm]
    · cases h1
theorem keys_of {K : PySem.W.Frag} {d : Addr} {es : Array DictEntry} {m : Nat} {ks : List Str} {c : Value} {o : Option Addr} {sl : Array (Option Value)} (h : K.lookup d = some ⟨c, o, .dict es m, sl⟩) (b : chkK es.toList ks = true) (z : Str) : ∃ r, PySem.W.nsIn K d z = some r ∧ r.isSome = decide (z ∈ ks) := by
  obtain ⟨h1, h2⟩ := chkK_find z b
  unfold PySem.W.nsIn
  rw [h]
  show ∃ r, (match es.toList.find? (·.key.isStr z) with | some e => some (some e.val) | none => if es.toList.any (·.refKey) then none else some none) = some r ∧ _
  cases q : es.toList.find? (·.key.isStr z) with
  | some e => rw [q] at h1; exact ⟨_, rfl, h1⟩
  | none =>
    rw [q] at h1
    exact ⟨none, by rw [h2]; rfl, h1⟩
end Cs

set_option maxRecDepth 100000
set_option maxHeartbeats 1000000
/-! sides of labels: following what is forced is enough -/
namespace Cs
abbrev Ch := Nat × Bool
def ng (c : Ch) : Ch := (c.1, !c.2)
section
variable (Fre : Ch → Bool) (Ov : Ch → Ch → Bool) (A : List Nat)
/-- c forces d -/
def Fo (c d : Ch) : Bool := if c.1 = d.1 then (c.2 != d.2) && !Fre c else Ov c (ng d)
/-- σ places the labels of A -/
def Val (σ : Nat → Bool) : Prop := ∀ c d : Ch, c.1 ∈ A → d.1 ∈ A → c.2 = σ c.1 → Fo Fre Ov c d = true → d.2 = σ d.1
inductive Rch (S : List Ch) : Ch → Prop
  | base {c : Ch} : c ∈ S → Rch S c
  | step {b c : Ch} : Rch S b → Fo Fre Ov b c = true → c.1 ∈ A → Rch S c
def Con (S : List Ch) : Prop := ∀ c : Ch, Rch Fre Ov A S c → ¬ Rch Fre Ov A S (ng c)
end
section
variable {Fre : Ch → Bool} {Ov : Ch → Ch → Bool} {A : List Nat} {S : List Ch} {σ : Nat → Bool}
theorem ng_ng (c : Ch) : ng (ng c) = c := by unfold ng; simp
theorem ng_1 (c : Ch) : (ng c).1 = c.1 := rfl
theorem ch_eq (c d : Ch) (h : c.1 = d.1) : c = d ∨ c = ng d := by
  obtain ⟨i, s⟩ := c
  obtain ⟨j, t⟩ := d
  have h : i = j := h
  subst h
  cases s <;> cases t <;> simp [ng]
theorem fo_back (sym : ∀ c d, Ov c d = Ov d c) {c d : Ch} (h : Fo Fre Ov c d = true) : Fo Fre Ov (ng d) (ng c) = true := by
  unfold Fo at h ⊢
  by_cases e : c.1 = d.1
  · rw [if_pos e] at h
    rw [if_pos (show (ng d).1 = (ng c).1 from e.symm)]
    rcases ch_eq c d e with rfl | rfl
    · simp at h
    · rw [ng_ng] at *
      simp only [ng] at h ⊢
      simpa using h
  · rw [if_neg e] at h
    rw [if_neg (show ¬ (ng d).1 = (ng c).1 from fun z => e z.symm), ng_ng, sym]
    exact h
theorem rch_in (hS : ∀ c ∈ S, c.1 ∈ A) {c : Ch} (h : Rch Fre Ov A S c) : c.1 ∈ A := by
  induction h with
  | base h => exact hS _ h
  | step _ _ h _ => exact h
theorem rch_val (v : Val Fre Ov A σ) (hS : ∀ c ∈ S, c.1 ∈ A ∧ c.2 = σ c.1) {c : Ch} (h : Rch Fre Ov A S c) : c.1 ∈ A ∧ c.2 = σ c.1 := by
  induction h with
  | base h => exact hS _ h
  | step _ f m ih => exact ⟨m, v _ _ ih.1 m ih.2 f⟩
theorem con_of_val (v : Val Fre Ov A σ) (hS : ∀ c ∈ S, c.1 ∈ A ∧ c.2 = σ c.1) : Con Fre Ov A S := fun c h k => by
  have h1 := (rch_val v hS h).2
  have h2 := (rch_val v hS k).2
  have h2 : (!c.2) = σ c.1 := h2
  rw [← h1] at h2
  generalize c.2 = s at h2
  cases s <;> cases h2
open Classical in
theorem ext_of_con (sym : ∀ c d, Ov c d = Ov d c) (v : Val Fre Ov A σ) (hc : Con Fre Ov A S) : ∃ τ, Val Fre Ov A τ ∧ ∀ c, Rch Fre Ov A S c → c.2 = τ c.1 := by
  refine ⟨fun i => if Rch Fre Ov A S (i, true) then true else if Rch Fre Ov A S (i, false) then false else σ i, ?_, ?_⟩
  · intro c d hcA hdA hcs f
    by_cases hcR : Rch Fre Ov A S c
    · have hdR : Rch Fre Ov A S d := .step hcR f hdA
      obtain ⟨i, s⟩ := d
      cases s with
      | true => simp only; rw [if_pos hdR]
      | false =>
        simp only
        rw [if_neg (fun z => hc (i, true) z hdR), if_pos hdR]
    · have hcn : ¬ Rch Fre Ov A S (ng c) := by
        intro z
        obtain ⟨i, s⟩ := c
        cases s with
        | true =>
          simp only at hcs
          rw [if_neg hcR, if_pos (show Rch Fre Ov A S (i, false) from z)] at hcs
          cases hcs
        | false =>
          simp only at hcs
          rw [if_pos (show Rch Fre Ov A S (i, true) from z)] at hcs
          cases hcs
      have hcσ : c.2 = σ c.1 := by
        obtain ⟨i, s⟩ := c
        cases s with
        | true => simp only at hcs; rw [if_neg hcR, if_neg (show ¬ Rch Fre Ov A S (i, false) from hcn)] at hcs; exact hcs
        | false => simp only at hcs; rw [if_neg (show ¬ Rch Fre Ov A S (i, true) from hcn), if_neg hcR] at hcs; exact hcs
      have hdσ := v c d hcA hdA hcσ f
      have hdn : ¬ Rch Fre Ov A S (ng d) := fun z => hcn (.step z (fo_back sym f) hcA)
      obtain ⟨i, s⟩ := d
      cases s with
      | true =>
        simp only
        by_cases h1 : Rch Fre Ov A S (i, true)
        · rw [if_pos h1]
        · rw [if_neg h1, if_neg (show ¬ Rch Fre Ov A S (i, false) from hdn)]; exact hdσ
      | false =>
        simp only
        rw [if_neg (show ¬ Rch Fre Ov A S (i, true) from hdn)]
        by_cases h1 : Rch Fre Ov A S (i, false)
        · rw [if_pos h1]
        · rw [if_neg h1]; exact hdσ
  · intro c h
    obtain ⟨i, s⟩ := c
    cases s with
    | true => simp only; rw [if_pos h]
    | false => simp only; rw [if_neg (fun z => hc (i, true) z h), if_pos h]
/-- what is agreed upon and tells a side of each label places them -/
theorem val_of_con (hc : Con Fre Ov A S) (hS : ∀ i ∈ A, (i, σ i) ∈ S) : Val Fre Ov A σ := fun c d hcA hdA hcs f => by
  have h1 : Rch Fre Ov A S c := .base (by have := hS _ hcA; rw [← hcs] at this; exact this)
  have h2 : Rch Fre Ov A S d := .step h1 f hdA
  have h3 : Rch Fre Ov A S (d.1, σ d.1) := .base (hS _ hdA)
  rcases ch_eq (d.1, σ d.1) d rfl with e | e
  · rw [← e]
  · rw [e] at h3
    exact absurd h3 (hc _ h2)
/-! one label after the other -/
def gr (ag : List Ch → Bool) : List Nat → List Ch → Option (List Ch)
  | [], S => some S
  | n :: L, S => if ag (S ++ [(n, false)]) = true then gr ag L (S ++ [(n, false)]) else if ag (S ++ [(n, true)]) = true then gr ag L (S ++ [(n, true)]) else none
/-- the sides of σ along a row of labels -/
def along (σ : Nat → Bool) (L : List Nat) : List Ch := L.map fun n => (n, σ n)
/-- σ is the first of those that place the labels -/
def First (Fre : Ch → Bool) (Ov : Ch → Ch → Bool) (A : List Nat) (σ : Nat → Bool) : Prop :=
  Val Fre Ov A σ ∧ ∀ pre n suf, A = pre ++ n :: suf → σ n = true → ∀ τ, Val Fre Ov A τ → (∀ m ∈ pre, τ m = σ m) → τ n = true
theorem along_snoc {pre : List Nat} {n : Nat} {σ : Nat → Bool} : along σ (pre ++ [n]) = along σ pre ++ [(n, σ n)] := by unfold along; rw [List.map_append]; rfl
theorem along_mem {L : List Nat} {σ : Nat → Bool} {c : Ch} : c ∈ along σ L ↔ c.1 ∈ L ∧ c.2 = σ c.1 := by
  unfold along
  rw [List.mem_map]
  constructor
  · rintro ⟨n, hn, rfl⟩; exact ⟨hn, rfl⟩
  · rintro ⟨h1, h2⟩; exact ⟨c.1, h1, by obtain ⟨i, s⟩ := c; simp only at h2 ⊢; rw [h2]⟩
theorem along_cong {L : List Nat} {σ τ : Nat → Bool} (h : ∀ n ∈ L, σ n = τ n) : along σ L = along τ L := by
  unfold along
  exact List.map_congr_left fun n hn => by rw [h n hn]
theorem gr_some (sym : ∀ c d, Ov c d = Ov d c) {ag : List Ch → Bool} (hag : ∀ S, ag S = true ↔ Con Fre Ov A S) (nd : A.Nodup) : ∀ (L pre : List Nat) (σ : Nat → Bool), A = pre ++ L → Val Fre Ov A σ →
    (∀ p n q, pre = p ++ n :: q → σ n = true → ∀ τ, Val Fre Ov A τ → (∀ m ∈ p, τ m = σ m) → τ n = true) →
    ∃ τ, First Fre Ov A τ ∧ gr ag L (along σ pre) = some (along τ A)
  | [], pre, σ, e, v, lo => by
    rw [List.append_nil] at e
    subst e
    exact ⟨σ, ⟨v, lo⟩, rfl⟩
  | n :: L, pre, σ, e, v, lo => by
    have hn : n ∉ pre := by
      rw [e] at nd
      intro h
      exact (List.nodup_append.mp nd).2.2 n h n List.mem_cons_self rfl
    have hpA : ∀ m ∈ pre, m ∈ A := fun m hm => by rw [e]; exact List.mem_append_left _ hm
    have hnA : n ∈ A := by rw [e]; simp
    have e2 : A = (pre ++ [n]) ++ L := by rw [e, List.append_assoc]; rfl
    have go : ∀ (s : Bool) (τ : Nat → Bool), Val Fre Ov A τ → (∀ m ∈ pre, τ m = σ m) → τ n = s → (s = true → ∀ ρ, Val Fre Ov A ρ → (∀ m ∈ pre, ρ m = σ m) → ρ n = true) →
        ∃ υ, First Fre Ov A υ ∧ gr ag L (along σ pre ++ [(n, s)]) = some (along υ A) := by
      intro s τ vτ hp hs hl
      have := gr_some sym hag nd L (pre ++ [n]) τ e2 vτ fun p k q ek hk ρ vρ hρ => by
        rcases List.append_eq_append_iff.mp ek with ⟨as, h1, h2⟩ | ⟨bs, h1, h2⟩
        · cases as with
          | nil =>
            rw [List.append_nil] at h1
            subst h1
            have h3 : n = k := by rw [List.nil_append] at h2; exact (List.cons.inj h2).1
            subst h3
            exact hl (hs ▸ hk) ρ vρ fun m hm => (hρ m hm).trans (hp m hm)
          | cons a as =>
            have := congrArg List.length h2
            simp only [List.length_cons, List.length_nil, List.length_append] at this
            omega
        · cases bs with
          | nil =>
            rw [List.append_nil] at h1
            subst h1
            have h3 : k = n := by rw [List.nil_append] at h2; exact (List.cons.inj h2).1
            subst h3
            exact hl (hs ▸ hk) ρ vρ fun m hm => (hρ m hm).trans (hp m hm)
          | cons b bs =>
            rw [List.cons_append] at h2
            obtain ⟨h3, h4⟩ := List.cons.inj h2
            subst h3
            have hkp : k ∈ pre := by rw [h1]; simp
            exact lo p k bs h1 (by rw [← hp k hkp]; exact hk) ρ vρ fun m hm => (hρ m hm).trans (hp m (by rw [h1]; exact List.mem_append_left _ hm))
      rw [along_snoc, hs, along_cong hp] at this
      exact this
    unfold gr
    by_cases h0 : ag (along σ pre ++ [(n, false)]) = true
    · rw [if_pos h0]
      obtain ⟨τ, vτ, hτ⟩ := ext_of_con sym v ((hag _).mp h0)
      refine go false τ vτ (fun m hm => ?_) ?_ (fun z => by cases z)
      · exact (hτ (m, σ m) (.base (List.mem_append_left _ (along_mem.mpr ⟨hm, rfl⟩)))).symm
      · exact (hτ (n, false) (.base (List.mem_append_right _ (by simp)))).symm
    · rw [if_neg h0]
      have no : ∀ ρ, Val Fre Ov A ρ → (∀ m ∈ pre, ρ m = σ m) → ρ n = true := fun ρ vρ hρ => by
        cases hr : ρ n with
        | true => rfl
        | false =>
          exfalso
          refine h0 ((hag _).mpr (con_of_val vρ fun c hc => ?_))
          rcases List.mem_append.mp hc with h | h
          · obtain ⟨a, b⟩ := along_mem.mp h
            exact ⟨hpA _ a, by rw [b, hρ _ a]⟩
          · rw [List.mem_singleton.mp h]
            exact ⟨hnA, hr.symm⟩
      have h1 : ag (along σ pre ++ [(n, true)]) = true := (hag _).mpr (con_of_val v fun c hc => by
        rcases List.mem_append.mp hc with h | h
        · obtain ⟨a, b⟩ := along_mem.mp h
          exact ⟨hpA _ a, b⟩
        · rw [List.mem_singleton.mp h]
          exact ⟨hnA, (no σ v fun _ _ => rfl).symm⟩)
      rw [if_pos h1]
      exact go true σ v (fun _ _ => rfl) (no σ v fun _ _ => rfl) fun _ => no
theorem gr_none {ag : List Ch → Bool} (hag : ∀ S, ag S = true ↔ Con Fre Ov A S) (no : ∀ σ, ¬ Val Fre Ov A σ) : ∀ (L : List Nat) (S : List Ch), Con Fre Ov A S → (∀ i ∈ A, i ∈ L ∨ ∃ s, (i, s) ∈ S) → gr ag L S = none
  | [], S, hc, cov => by
    exfalso
    have hs : ∀ i, ∃ s, i ∈ A → (i, s) ∈ S := fun i => by
      by_cases hi : i ∈ A
      · rcases cov i hi with h | ⟨s, h⟩
        · cases h
        · exact ⟨s, fun _ => h⟩
      · exact ⟨false, fun z => absurd z hi⟩
    obtain ⟨σ, hσ⟩ := Classical.axiomOfChoice hs
    exact no σ (val_of_con hc fun i hi => hσ i hi)
  | n :: L, S, hc, cov => by
    have next : ∀ s, (∀ i ∈ A, i ∈ L ∨ ∃ t, (i, t) ∈ S ++ [(n, s)]) := fun s i hi => by
      rcases cov i hi with h | ⟨t, h⟩
      · rcases List.mem_cons.mp h with rfl | h
        · exact .inr ⟨s, by simp⟩
        · exact .inl h
      · exact .inr ⟨t, List.mem_append_left _ h⟩
    unfold gr
    by_cases h0 : ag (S ++ [(n, false)]) = true
    · rw [if_pos h0]
      exact gr_none hag no L _ ((hag _).mp h0) (next false)
    · rw [if_neg h0]
      by_cases h1 : ag (S ++ [(n, true)]) = true
      · rw [if_pos h1]
        exact gr_none hag no L _ ((hag _).mp h1) (next true)
      · rw [if_neg h1]
end
end Cs

set_option maxRecDepth 100000
set_option maxHeartbeats 1000000
/-! the rows of sides, one label after the other, in order -/
namespace Cs
section
variable (Fre : Ch → Bool) (Ov : Ch → Ch → Bool)
def okS (kept : List Nat) (row : List Bool) (n : Nat) (s : Bool) : Bool := Fre (n, s) && (kept.zip row).all fun c => !Ov (n, s) c
def longer (kept : List Nat) (rows : List (List Bool)) (n : Nat) : List (List Bool) := rows.flatMap fun row => ([false, true].filter fun s => okS Fre Ov kept row n s).map fun s => row ++ [s]
def rowsF : List Nat → List (List Bool) → List Nat → List (List Bool)
  | _, rows, [] => rows
  | kept, rows, n :: L => rowsF (kept ++ [n]) (longer Fre Ov kept rows n) L
/-- no two overlap, each is free -/
def VP (A : List Nat) (σ : Nat → Bool) : Prop := (∀ i ∈ A, Fre (i, σ i) = true) ∧ ∀ i ∈ A, ∀ j ∈ A, i ≠ j → Ov (i, σ i) (j, σ j) = false
end
section
variable {Fre : Ch → Bool} {Ov : Ch → Ch → Bool} {A : List Nat} {σ τ : Nat → Bool}
theorem val_vp (hA : True) : Val Fre Ov A σ ↔ VP Fre Ov A σ := by
  constructor
  · intro v
    refine ⟨fun i hi => ?_, fun i hi j hj hij => ?_⟩
    · cases h : Fre (i, σ i) with
      | true => rfl
      | false =>
        have := v (i, σ i) (i, !σ i) hi hi rfl (by unfold Fo; rw [if_pos rfl, h]; cases σ i <;> rfl)
        simp at this
    · cases h : Ov (i, σ i) (j, σ j) with
      | false => rfl
      | true =>
        have := v (i, σ i) (j, !σ j) hi hj rfl (by unfold Fo; rw [if_neg hij]; simp only [ng, Bool.not_not]; exact h)
        simp at this
  · rintro ⟨h1, h2⟩ c d hc hd hs f
    unfold Fo at f
    by_cases e : c.1 = d.1
    · rw [if_pos e] at f
      have := h1 c.1 hc
      rw [← hs] at this
      have this : Fre c = true := this
      rw [this] at f
      simp at f
    · rw [if_neg e] at f
      have := h2 c.1 hc d.1 hd e
      rw [← hs] at this
      have this : Ov c (d.1, σ d.1) = false := this
      rcases ch_eq (d.1, σ d.1) d rfl with z | z
      · rw [← z]
      · rw [z, f] at this; cases this
def lx : List Bool → List Bool → Prop
  | a :: as, b :: bs => (a = false ∧ b = true) ∨ (a = b ∧ lx as bs)
  | _, _ => False
theorem lx_asymm : ∀ {r s : List Bool}, lx r s → lx s r → False
  | a :: as, b :: bs, h, k => by
    rcases h with ⟨rfl, rfl⟩ | ⟨rfl, h⟩
    · rcases k with ⟨h, _⟩ | ⟨h, _⟩ <;> cases h
    · rcases k with ⟨h1, h2⟩ | ⟨_, k⟩
      · rw [h1] at h2; cases h2
      · exact lx_asymm h k
  | [], _, h, _ => h
  | _ :: _, [], h, _ => h
theorem lx_irr : ∀ {r : List Bool}, ¬ lx r r := fun h => lx_asymm h h
theorem lx_app : ∀ {r s x y : List Bool}, lx r s → lx (r ++ x) (s ++ y)
  | a :: as, b :: bs, x, y, h => by
    rcases h with h | ⟨h1, h2⟩
    · exact .inl h
    · exact .inr ⟨h1, lx_app h2⟩
  | [], _, _, _, h => h.elim
  | _ :: _, [], _, _, h => h.elim
theorem lx_same : ∀ {r s t : List Bool}, lx s t → lx (r ++ s) (r ++ t)
  | [], _, _, h => h
  | _ :: r, _, _, h => .inr ⟨rfl, lx_same (r := r) h⟩
theorem mem_longer {kept : List Nat} {rows : List (List Bool)} {n : Nat} {x : List Bool} : x ∈ longer Fre Ov kept rows n ↔ ∃ row ∈ rows, ∃ s, okS Fre Ov kept row n s = true ∧ x = row ++ [s] := by
  unfold longer
  rw [List.mem_flatMap]
  constructor
  · rintro ⟨row, hr, hx⟩
    obtain ⟨s, hs, rfl⟩ := List.mem_map.mp hx
    exact ⟨row, hr, s, (List.mem_filter.mp hs).2, rfl⟩
  · rintro ⟨row, hr, s, hs, rfl⟩
    exact ⟨row, hr, List.mem_map.mpr ⟨s, List.mem_filter.mpr ⟨by cases s <;> simp, hs⟩, rfl⟩⟩
theorem longer_sorted {kept : List Nat} {n : Nat} : ∀ {rows : List (List Bool)}, rows.Pairwise lx → (longer Fre Ov kept rows n).Pairwise lx
  | [], _ => by unfold longer; exact List.Pairwise.nil
  | r :: rs, h => by
    obtain ⟨h1, h2⟩ := List.pairwise_cons.mp h
    have e : longer Fre Ov kept (r :: rs) n = (([false, true].filter fun s => okS Fre Ov kept r n s).map fun s => r ++ [s]) ++ longer Fre Ov kept rs n := by unfold longer; rw [List.flatMap_cons]
    rw [e, List.pairwise_append]
    refine ⟨?_, longer_sorted h2, fun a ha b hb => ?_⟩
    · have : lx (r ++ [false]) (r ++ [true]) := lx_same (.inl ⟨rfl, rfl⟩)
      rw [List.filter_cons, List.filter_cons, List.filter_nil]
      split <;> split <;> simp [this]
    · obtain ⟨s, _, rfl⟩ := List.mem_map.mp ha
      obtain ⟨r', hr', t, _, rfl⟩ := mem_longer.mp hb
      exact lx_app (h1 r' hr')
theorem zip_along : ∀ (L : List Nat) (σ : Nat → Bool), L.zip (L.map σ) = along σ L
  | [], _ => rfl
  | n :: L, σ => by
    rw [List.map_cons, List.zip_cons_cons, zip_along L σ]
    rfl
theorem ok_vp (sym : ∀ c d, Ov c d = Ov d c) {pre : List Nat} {n : Nat} (hn : n ∉ pre) : VP Fre Ov (pre ++ [n]) σ ↔ VP Fre Ov pre σ ∧ okS Fre Ov pre (pre.map σ) n (σ n) = true := by
  unfold okS
  rw [zip_along, Bool.and_eq_true, List.all_eq_true]
  constructor
  · rintro ⟨h1, h2⟩
    refine ⟨⟨fun i hi => h1 i (List.mem_append_left _ hi), fun i hi j hj => h2 i (List.mem_append_left _ hi) j (List.mem_append_left _ hj)⟩, h1 n (by simp), fun c hc => ?_⟩
    obtain ⟨a, b⟩ := along_mem.mp hc
    have := h2 n (by simp) c.1 (List.mem_append_left _ a) (fun z => hn (z ▸ a))
    rw [← b] at this
    rw [show Ov (n, σ n) c = false from this]
    rfl
  · rintro ⟨⟨h1, h2⟩, h3, h4⟩
    have k : ∀ j ∈ pre, Ov (n, σ n) (j, σ j) = false := fun j hj => by
      have := h4 (j, σ j) (along_mem.mpr ⟨hj, rfl⟩)
      simpa using this
    refine ⟨fun i hi => ?_, fun i hi j hj hij => ?_⟩
    · rcases List.mem_append.mp hi with h | h
      · exact h1 i h
      · rw [List.mem_singleton.mp h]; exact h3
    · rcases List.mem_append.mp hi with h | h <;> rcases List.mem_append.mp hj with g | g
      · exact h2 i h j g hij
      · rw [List.mem_singleton.mp g, sym]; exact k i h
      · rw [List.mem_singleton.mp h]; exact k j g
      · exact absurd ((List.mem_singleton.mp h).trans (List.mem_singleton.mp g).symm) hij
/-- all rows, in order -/
structure All (Fre : Ch → Bool) (Ov : Ch → Ch → Bool) (A : List Nat) (rows : List (List Bool)) : Prop where
  snd : ∀ r ∈ rows, ∃ σ, VP Fre Ov A σ ∧ r = A.map σ
  cpl : ∀ σ, VP Fre Ov A σ → A.map σ ∈ rows
  srt : rows.Pairwise lx
theorem all_nil : All Fre Ov [] [[]] := ⟨fun r hr => ⟨fun _ => false, ⟨fun _ h => absurd h List.not_mem_nil, fun _ h => absurd h List.not_mem_nil⟩, by simpa using hr⟩, fun σ _ => by simp, List.pairwise_singleton _ _⟩
theorem all_longer (sym : ∀ c d, Ov c d = Ov d c) {pre : List Nat} {rows : List (List Bool)} {n : Nat} (hn : n ∉ pre) (h : All Fre Ov pre rows) : All Fre Ov (pre ++ [n]) (longer Fre Ov pre rows n) := by
  refine ⟨fun r hr => ?_, fun σ v => ?_, longer_sorted h.srt⟩
  · obtain ⟨row, hrow, s, hs, rfl⟩ := mem_longer.mp hr
    obtain ⟨σ, v, rfl⟩ := h.snd row hrow
    have e : pre.map (fun i => if i = n then s else σ i) = pre.map σ := List.map_congr_left fun i hi => if_neg fun z : i = n => hn (z ▸ hi)
    refine ⟨fun i => if i = n then s else σ i, (ok_vp sym hn).mpr ⟨?_, ?_⟩, ?_⟩
    · have c : ∀ i ∈ pre, (if i = n then s else σ i) = σ i := fun i hi => if_neg fun z : i = n => hn (z ▸ hi)
      refine ⟨fun i hi => ?_, fun i hi j hj => ?_⟩
      · show Fre (i, if i = n then s else σ i) = true
        rw [c i hi]; exact v.1 i hi
      · show i ≠ j → Ov (i, if i = n then s else σ i) (j, if j = n then s else σ j) = false
        rw [c i hi, c j hj]; exact v.2 i hi j hj
    · rw [e, if_pos rfl]; exact hs
    · rw [List.map_append, e]; simp
  · obtain ⟨v1, v2⟩ := (ok_vp sym hn).mp v
    rw [List.map_append]
    exact mem_longer.mpr ⟨_, h.cpl σ v1, σ n, v2, rfl⟩
theorem all_rows (sym : ∀ c d, Ov c d = Ov d c) : ∀ (L pre : List Nat) (rows : List (List Bool)), (pre ++ L).Nodup → All Fre Ov pre rows → All Fre Ov (pre ++ L) (rowsF Fre Ov pre rows L)
  | [], pre, rows, _, h => by rw [List.append_nil]; exact h
  | n :: L, pre, rows, nd, h => by
    have hn : n ∉ pre := fun z => (List.nodup_append.mp nd).2.2 n z n List.mem_cons_self rfl
    have e : pre ++ n :: L = (pre ++ [n]) ++ L := by rw [List.append_assoc]; rfl
    rw [e] at nd ⊢
    exact all_rows sym L (pre ++ [n]) _ nd (all_longer sym hn h)
theorem lx_map {pre suf : List Nat} {n : Nat} (h : ∀ m ∈ pre, τ m = σ m) (h1 : τ n = false) (h2 : σ n = true) : lx ((pre ++ n :: suf).map τ) ((pre ++ n :: suf).map σ) := by
  rw [List.map_append, List.map_append, List.map_congr_left h]
  refine lx_same ?_
  rw [List.map_cons, List.map_cons, h1, h2]
  exact .inl ⟨rfl, rfl⟩
theorem first_head {rows : List (List Bool)} (h : All Fre Ov A rows) {r : List Bool} {rs : List (List Bool)} (e : rows = r :: rs) : ∃ σ, First Fre Ov A σ ∧ r = A.map σ := by
  obtain ⟨σ, v, er⟩ := h.snd r (by rw [e]; simp)
  refine ⟨σ, ⟨(val_vp trivial).mpr v, fun pre n suf eA hs τ vτ hτ => ?_⟩, er⟩
  cases ht : τ n with
  | true => rfl
  | false =>
    exfalso
    have hl : lx (A.map τ) (A.map σ) := by rw [eA]; exact lx_map hτ ht hs
    have hm := h.cpl τ ((val_vp trivial).mp vτ)
    have hp := h.srt
    rw [e] at hm hp
    rcases List.mem_cons.mp hm with z | z
    · rw [z, er] at hl; exact lx_irr hl
    · have := (List.pairwise_cons.mp hp).1 _ z
      rw [er] at this
      exact lx_asymm this hl
theorem first_one (h : First Fre Ov A σ) (k : First Fre Ov A τ) : A.map σ = A.map τ := by
  have key : ∀ (suf pre : List Nat), A = pre ++ suf → (∀ m ∈ pre, σ m = τ m) → ∀ m ∈ A, σ m = τ m := by
    intro suf
    induction suf with
    | nil => intro pre e hp m hm; rw [List.append_nil] at e; exact hp m (e ▸ hm)
    | cons n suf ih =>
      intro pre e hp
      refine ih (pre ++ [n]) (by rw [e, List.append_assoc]; rfl) fun m hm => ?_
      rcases List.mem_append.mp hm with g | g
      · exact hp m g
      · rw [List.mem_singleton.mp g]
        cases hs : σ n with
        | true => exact (h.2 pre n suf e hs τ k.1 fun m hm => (hp m hm).symm).symm
        | false =>
          cases ht : τ n with
          | false => rfl
          | true => have := k.2 pre n suf e ht σ h.1 hp; rw [hs] at this; cases this
  exact List.map_congr_left (key A [] rfl fun _ z => absurd z List.not_mem_nil)
/-- what is placed one after the other is the first row -/
theorem gr_rows (sym : ∀ c d, Ov c d = Ov d c) {ag : List Ch → Bool} (hag : ∀ S, ag S = true ↔ Con Fre Ov A S) (nd : A.Nodup) : (gr ag A []).map (fun S => S.map (·.2)) = (rowsF Fre Ov [] [[]] A).head? := by
  have hr := all_rows (Fre := Fre) sym A [] [[]] nd all_nil
  rw [List.nil_append] at hr
  generalize rowsF Fre Ov [] [[]] A = rows at *
  cases e : rows with
  | nil =>
    have no : ∀ σ, ¬ Val Fre Ov A σ := fun σ v => by
      have := hr.cpl σ ((val_vp trivial).mp v)
      rw [e] at this
      exact absurd this List.not_mem_nil
    have c0 : Con Fre Ov A [] := fun c h => by
      have hh : ∀ d, ¬ Rch Fre Ov A [] d := fun d z => by
        induction z with
        | base z => exact absurd z List.not_mem_nil
        | step _ _ _ ih => exact ih
      exact absurd h (hh c)
    rw [gr_none hag no A [] c0 fun i hi => .inl hi]
    rfl
  | cons r rs =>
    obtain ⟨σ, f, er⟩ := first_head hr e
    obtain ⟨τ, g, eg⟩ := gr_some sym hag nd A [] σ rfl f.1 (fun p n q z => by cases p <;> cases z)
    have eg : gr ag A [] = some (along τ A) := eg
    rw [eg, Option.map_some, List.head?_cons, er, first_one f g]
    unfold along
    rw [List.map_map]
    rfl
end
end Cs

set_option maxRecDepth 100000
set_option maxHeartbeats 1000000
/-! ways from choice to choice, the first of the shortest -/
namespace Cs
/-- c stands before d -/
def clt (c d : Ch) : Prop := c.1 < d.1 ∨ (c.1 = d.1 ∧ c.2 = false ∧ d.2 = true)
theorem clt_asymm {c d : Ch} (h : clt c d) (k : clt d c) : False := by
  rcases h with h | ⟨h1, h2, h3⟩ <;> rcases k with k | ⟨k1, k2, k3⟩
  · omega
  · omega
  · omega
  · rw [h2] at k3; cases k3
theorem clt_irr {c : Ch} (h : clt c c) : False := clt_asymm h h
theorem clt_tri (c d : Ch) : clt c d ∨ c = d ∨ clt d c := by
  obtain ⟨i, s⟩ := c
  obtain ⟨j, t⟩ := d
  rcases Nat.lt_trichotomy i j with h | rfl | h
  · exact .inl (.inl h)
  · cases s <;> cases t
    · exact .inr (.inl rfl)
    · exact .inl (.inr ⟨rfl, rfl, rfl⟩)
    · exact .inr (.inr (.inr ⟨rfl, rfl, rfl⟩))
    · exact .inr (.inl rfl)
  · exact .inr (.inr (.inl h))
/-- place by place -/
def lxc : List Ch → List Ch → Prop
  | a :: as, b :: bs => clt a b ∨ (a = b ∧ lxc as bs)
  | _, _ => False
theorem lxc_asymm : ∀ {v w : List Ch}, lxc v w → lxc w v → False
  | a :: v, b :: w, h, k => by
    rcases h with h | ⟨rfl, h⟩
    · rcases k with k | ⟨rfl, k⟩
      · exact clt_asymm h k
      · exact clt_irr h
    · rcases k with k | ⟨_, k⟩
      · exact clt_irr k
      · exact lxc_asymm h k
  | [], _, h, _ => h
  | _ :: _, [], h, _ => h
theorem clt_trans {c d e : Ch} (h : clt c d) (k : clt d e) : clt c e := by
  rcases h with h | ⟨h1, h2, h3⟩ <;> rcases k with k | ⟨k1, k2, k3⟩
  · exact .inl (by omega)
  · exact .inl (by omega)
  · exact .inl (by omega)
  · rw [h3] at k2; cases k2
theorem lxc_trans : ∀ {u v w : List Ch}, lxc u v → lxc v w → lxc u w
  | a :: u, b :: v, c :: w, h, k => by
    rcases h with h | ⟨rfl, h⟩
    · rcases k with k | ⟨rfl, k⟩
      · exact .inl (clt_trans h k)
      · exact .inl h
    · rcases k with k | ⟨rfl, k⟩
      · exact .inl k
      · exact .inr ⟨rfl, lxc_trans h k⟩
  | [], _, _, h, _ => h.elim
  | _ :: _, [], _, h, _ => h.elim
  | _ :: _, _ :: _, [], _, k => k.elim
theorem lxc_app : ∀ {v w x y : List Ch}, lxc v w → lxc (v ++ x) (w ++ y)
  | a :: v, b :: w, x, y, h => by
    rcases h with h | ⟨h1, h2⟩
    · exact .inl h
    · exact .inr ⟨h1, lxc_app h2⟩
  | [], _, _, _, h => h.elim
  | _ :: _, [], _, _, h => h.elim
theorem lxc_same : ∀ {v x y : List Ch}, lxc x y → lxc (v ++ x) (v ++ y)
  | [], _, _, h => h
  | _ :: v, _, _, h => .inr ⟨rfl, lxc_same (v := v) h⟩
section
variable (F : Ch → Ch → Bool) (cs : List Ch)
/-- w leads from c to d, each choice forcing the next -/
inductive Way : Ch → Ch → List Ch → Prop
  | one (c : Ch) : Way c c [c]
  | cons {c x d : Ch} {w : List Ch} : F c x = true → x ∈ cs → Way x d w → Way c d (c :: w)
/-- the first of the shortest -/
structure FirstWay (c d : Ch) (w : List Ch) : Prop where
  way : Way F cs c d w
  short : ∀ v, Way F cs c d v → w.length ≤ v.length
  first : ∀ v, Way F cs c d v → v.length = w.length → v = w ∨ lxc w v
/-- n steps lead from c to d, and no fewer -/
def Dist (c d : Ch) (n : Nat) : Prop := (∃ w, Way F cs c d w ∧ w.length = n + 1) ∧ ∀ w, Way F cs c d w → n + 1 ≤ w.length
/-- from c to g step by step, each time to the first choice that is one step nearer -/
inductive Stp (g : Ch) : Nat → Ch → List Ch → Prop
  | zero : Stp g 0 g [g]
  | succ {n : Nat} {c x : Ch} {w : List Ch} : F c x = true → x ∈ cs → Dist F cs x g n → (∀ y ∈ cs, F c y = true → Dist F cs y g n → y = x ∨ clt x y) → Stp g n x w → Stp g (n + 1) c (c :: w)
end
section
variable {F : Ch → Ch → Bool} {cs : List Ch}
theorem Way.pos {c d : Ch} {w : List Ch} (h : Way F cs c d w) : 1 ≤ w.length := by cases h <;> simp
theorem Way.head {c d : Ch} {w : List Ch} (h : Way F cs c d w) : ∃ t, w = c :: t := by
  cases h with
  | one => exact ⟨[], rfl⟩
  | cons _ _ _ => exact ⟨_, rfl⟩
theorem Way.snoc {c d e : Ch} {w : List Ch} (h : Way F cs c d w) (f : F d e = true) (he : e ∈ cs) : Way F cs c e (w ++ [e]) := by
  induction h with
  | one c => exact .cons f he (.one e)
  | cons h1 h2 _ ih => exact .cons h1 h2 (ih f)
theorem Way.last {c d : Ch} {w : List Ch} (h : Way F cs c d w) : (w = [c] ∧ c = d) ∨ ∃ p v, Way F cs c p v ∧ F p d = true ∧ d ∈ cs ∧ w = v ++ [d] := by
  induction h with
  | one c => exact .inl ⟨rfl, rfl⟩
  | @cons c x d w f hx h ih =>
    rcases ih with ⟨rfl, rfl⟩ | ⟨p, v, h1, h2, h3, rfl⟩
    · exact .inr ⟨c, [c], .one c, f, hx, rfl⟩
    · exact .inr ⟨p, c :: v, .cons f hx h1, h2, h3, rfl⟩
theorem FirstWay.uniq {c d : Ch} {v w : List Ch} (h : FirstWay F cs c d v) (k : FirstWay F cs c d w) : v = w := by
  have e : v.length = w.length := Nat.le_antisymm (h.short w k.way) (k.short v h.way)
  rcases k.first v h.way e with z | z
  · exact z
  · rcases h.first w k.way e.symm with y | y
    · exact y.symm
    · exact absurd z (fun z => lxc_asymm z y)
theorem FirstWay.dist {c d : Ch} {w : List Ch} (h : FirstWay F cs c d w) : Dist F cs c d (w.length - 1) := by
  have := h.way.pos
  exact ⟨⟨w, h.way, by omega⟩, fun v hv => by have := h.short v hv; omega⟩
theorem Dist.uniq {c d : Ch} {n m : Nat} (h : Dist F cs c d n) (k : Dist F cs c d m) : n = m := by
  obtain ⟨⟨w, h1, h2⟩, h3⟩ := h
  obtain ⟨⟨v, k1, k2⟩, k3⟩ := k
  have := h3 v k1
  have := k3 w h1
  omega
theorem Stp.first {g : Ch} {n : Nat} {c : Ch} {w : List Ch} (h : Stp F cs g n c w) (hd : Dist F cs c g n) : FirstWay F cs c g w ∧ w.length = n + 1 := by
  induction h with
  | zero =>
    refine ⟨⟨.one g, fun v hv => hv.pos, fun v hv e => ?_⟩, rfl⟩
    obtain ⟨t, rfl⟩ := hv.head
    cases t with
    | nil => exact .inl rfl
    | cons _ _ => simp at e
  | @succ n c x w f hx dx best gr ih =>
    obtain ⟨ih, wl⟩ := ih dx
    refine ⟨⟨.cons f hx ih.way, fun v hv => ?_, fun v hv e => ?_⟩, by rw [List.length_cons, wl]⟩
    · rw [List.length_cons, wl]
      exact hd.2 v hv
    · rw [List.length_cons, wl] at e
      cases hv with
      | one => simp at e
      | @cons _ y _ v f2 hy hv =>
        have e : v.length = n + 1 := by simpa using e
        have dy : Dist F cs y g n := ⟨⟨v, hv, e⟩, fun u hu => by have := hd.2 (c :: u) (.cons f2 hy hu); rw [List.length_cons] at this; omega⟩
        rcases best y hy f2 dy with rfl | z
        · rcases ih.first v hv (by rw [e, wl]) with rfl | z
          · exact .inl rfl
          · exact .inr (.inr ⟨rfl, z⟩)
        · obtain ⟨t1, rfl⟩ := ih.way.head
          obtain ⟨t2, rfl⟩ := hv.head
          exact .inr (.inr ⟨rfl, .inl z⟩)
/-- what follows a first way's end: the parent's way and the place -/
theorem FirstWay.step {s p d : Ch} {v : List Ch} (h : FirstWay F cs s p v) (f : F p d = true) (hd : d ∈ cs) (far : ∀ w, Way F cs s d w → v.length + 1 ≤ w.length)
    (best : ∀ q u, FirstWay F cs s q u → u.length = v.length → F q d = true → u = v ∨ lxc v u) (all : ∀ q w, Way F cs s q w → w.length = v.length → F q d = true → ∃ u, FirstWay F cs s q u ∧ u.length = w.length) : FirstWay F cs s d (v ++ [d]) := by
  refine ⟨h.way.snoc f hd, fun w hw => by rw [List.length_append]; exact far w hw, fun w hw e => ?_⟩
  rw [List.length_append, List.length_singleton] at e
  rcases hw.last with ⟨rfl, rfl⟩ | ⟨q, w', h1, h2, h3, rfl⟩
  · have := h.way.pos
    rw [List.length_singleton] at e
    omega
  · have e' : w'.length = v.length := by simpa using e
    obtain ⟨u, hu, lu⟩ := all q w' h1 e' h2
    have k := best q u hu (lu.trans e') h2
    rcases hu.first w' h1 lu.symm with rfl | z
    · rcases k with rfl | y
      · exact .inl rfl
      · exact .inr (lxc_app y)
    · refine .inr ?_
      rcases k with rfl | y
      · exact lxc_app z
      · exact lxc_app (lxc_trans y z)
end
end Cs

set_option maxRecDepth 100000
set_option maxHeartbeats 1000000
/-! one level after the other: each thing gets its first way -/
namespace Cs
section
variable (F : Ch → Ch → Bool) (cs : List Ch) (s : Ch)
/-- old: done with; dn, rs: this level's choices, done and to do; fo: the next level's so far -/
structure BInv (n : Nat) (m : List (Ch × List Ch)) (old dn rs fo : List Ch) : Prop where
  keys : ∀ c, c ∈ m.map (·.1) ↔ c ∈ old ∨ c ∈ dn ∨ c ∈ rs ∨ c ∈ fo
  nd : (m.map (·.1)).Nodup
  fw : ∀ e ∈ m, FirstWay F cs s e.1 e.2
  oldl : ∀ e ∈ m, e.1 ∈ old → e.2.length ≤ n
  lev : ∀ e ∈ m, e.1 ∈ dn ∨ e.1 ∈ rs → e.2.length = n + 1
  nxt : ∀ e ∈ m, e.1 ∈ fo → e.2.length = n + 2
  cpl : ∀ c w, Way F cs s c w → w.length ≤ n + 1 → c ∈ old ∨ c ∈ dn ∨ c ∈ rs
  cld : ∀ p, p ∈ old ∨ p ∈ dn → ∀ d ∈ cs, F p d = true → d ∈ m.map (·.1)
  srt : (dn ++ rs).Pairwise fun a b => ∀ u v, (a, u) ∈ m → (b, v) ∈ m → lxc u v
  srf : fo.Pairwise fun a b => ∀ u v, (a, u) ∈ m → (b, v) ∈ m → lxc u v
end
section
variable {F : Ch → Ch → Bool} {cs : List Ch} {s : Ch} {n : Nat} {m : List (Ch × List Ch)} {old dn rs fo : List Ch}
theorem mem_key {m : List (Ch × List Ch)} {e : Ch × List Ch} (h : e ∈ m) : e.1 ∈ m.map (·.1) := List.mem_map.mpr ⟨e, h, rfl⟩
theorem uniq_val (nd : (m.map (·.1)).Nodup) {c : Ch} {u v : List Ch} (h : (c, u) ∈ m) (k : (c, v) ∈ m) : u = v := by
  induction m with
  | nil => cases h
  | cons e m ih =>
    obtain ⟨h1, h2⟩ := List.nodup_cons.mp nd
    rcases List.mem_cons.mp h with z | h'
    · rcases List.mem_cons.mp k with y | k'
      · exact (Prod.mk.inj (z.trans y.symm)).2
      · exact absurd (mem_key (m := m) k') (by rw [← z] at h1; exact h1)
    · rcases List.mem_cons.mp k with y | k'
      · exact absurd (mem_key (m := m) h') (by rw [← y] at h1; exact h1)
      · exact ih h2 h' k'
/-- the turn of c, whose chain is v: ds is what it forces and is to be looked at -/
structure BTurn (F : Ch → Ch → Bool) (cs : List Ch) (s : Ch) (n : Nat) (m : List (Ch × List Ch)) (old dn : List Ch) (c : Ch) (v : List Ch) (rs fo ds : List Ch) : Prop where
  base : BInv F cs s n m old dn (c :: rs) fo
  cv : (c, v) ∈ m
  todo : ∀ d ∈ cs, F c d = true → d ∈ m.map (·.1) ∨ d ∈ ds
  okd : ∀ d ∈ ds, d ∈ cs ∧ F c d = true
  sds : ds.Pairwise clt
  par : ∀ e ∈ m, e.1 ∈ fo → ∃ u, e.2 = u ++ [e.1] ∧ (lxc u v ∨ (u = v ∧ ∀ d ∈ ds, clt e.1 d))
theorem BTurn.skip {c d : Ch} {v : List Ch} {ds : List Ch} (h : BTurn F cs s n m old dn c v rs fo (d :: ds)) (hd : d ∈ m.map (·.1)) : BTurn F cs s n m old dn c v rs fo ds :=
  ⟨h.base, h.cv, fun x hx f => by
    rcases h.todo x hx f with z | z
    · exact .inl z
    · rcases List.mem_cons.mp z with rfl | z
      · exact .inl hd
      · exact .inr z, fun x hx => h.okd x (List.mem_cons_of_mem _ hx), (List.pairwise_cons.mp h.sds).2, fun e he ef => by
    obtain ⟨u, e1, e2⟩ := h.par e he ef
    exact ⟨u, e1, e2.imp id fun z => ⟨z.1, fun x hx => z.2 x (List.mem_cons_of_mem _ hx)⟩⟩⟩
theorem BTurn.put {c d : Ch} {v : List Ch} {ds : List Ch} (h : BTurn F cs s n m old dn c v rs fo (d :: ds)) (hd : d ∉ m.map (·.1)) : BTurn F cs s n (m ++ [(d, v ++ [d])]) old dn c v rs (fo ++ [d]) ds := by
  obtain ⟨hcs, f⟩ := h.okd d List.mem_cons_self
  have hv : v.length = n + 1 := h.base.lev (c, v) h.cv (.inr List.mem_cons_self)
  have no : ∀ w, Way F cs s d w → n + 2 ≤ w.length := fun w hw => by
    refine Nat.lt_of_not_le fun z => hd ((h.base.keys d).mpr ?_)
    rcases h.base.cpl d w hw (by omega) with z | z | z
    · exact .inl z
    · exact .inr (.inl z)
    · exact .inr (.inr (.inl z))
  have keep : ∀ {x : Ch} {u : List Ch}, x ∈ m.map (·.1) → (x, u) ∈ m ++ [(d, v ++ [d])] → (x, u) ∈ m := fun {x u} hx hm => by
    rcases List.mem_append.mp hm with z | z
    · exact z
    · cases List.mem_singleton.mp z; exact absurd hx hd
  have fwd : FirstWay F cs s d (v ++ [d]) := by
    refine FirstWay.step (h.base.fw _ h.cv) f hcs (fun w hw => by rw [hv]; exact no w hw) (fun q u hu lu fq => ?_) (fun q w hw lw fq => ?_)
    · have hq := h.base.cpl q u hu.way (by omega)
      have hk : q ∈ m.map (·.1) := (h.base.keys q).mpr (by rcases hq with z | z | z; exact .inl z; exact .inr (.inl z); exact .inr (.inr (.inl z)))
      obtain ⟨e, he, eq⟩ := List.mem_map.mp hk
      obtain ⟨q', u'⟩ := e
      have eq : q' = q := eq
      subst eq
      have : u' = u := (h.base.fw _ he).uniq hu
      subst this
      rcases hq with z | z | z
      · exact absurd (h.base.cld q' (.inl z) d hcs fq) hd
      · exact absurd (h.base.cld q' (.inr z) d hcs fq) hd
      · rcases List.mem_cons.mp z with rfl | z
        · exact .inl (uniq_val h.base.nd he h.cv)
        · have := (List.pairwise_append.mp h.base.srt).2.1
          exact .inr ((List.pairwise_cons.mp this).1 q' z v u' h.cv he)
    · have hq := h.base.cpl q w hw (by omega)
      have hk : q ∈ m.map (·.1) := (h.base.keys q).mpr (by rcases hq with z | z | z; exact .inl z; exact .inr (.inl z); exact .inr (.inr (.inl z)))
      obtain ⟨e, he, eq⟩ := List.mem_map.mp hk
      obtain ⟨q', u⟩ := e
      have eq : q' = q := eq
      subst eq
      have hu := h.base.fw _ he
      have l1 := hu.short w hw
      have l2 := no _ (hu.way.snoc fq hcs)
      rw [List.length_append, List.length_singleton] at l2
      exact ⟨u, hu, by show u.length = w.length; have : u.length ≤ w.length := l1; have : n + 2 ≤ u.length + 1 := l2; omega⟩
  have keys : ∀ x, x ∈ (m ++ [(d, v ++ [d])]).map (·.1) ↔ x ∈ m.map (·.1) ∨ x = d := fun x => by rw [List.map_append, List.mem_append]; simp
  have notd : ∀ x, x ∈ m.map (·.1) → x ≠ d := fun x hx e => hd (e ▸ hx)
  have inm : ∀ x, (x ∈ old ∨ x ∈ dn ∨ x ∈ c :: rs ∨ x ∈ fo) → x ∈ m.map (·.1) := fun x hx => (h.base.keys x).mpr hx
  have low : ∀ e ∈ m ++ [(d, v ++ [d])], e.1 ∈ m.map (·.1) → e ∈ m := fun e he hk => keep (x := e.1) (u := e.2) hk he
  refine ⟨⟨fun x => ?_, ?_, fun e he => ?_, fun e he ho => ?_, fun e he ho => ?_, fun e he ho => ?_, h.base.cpl, fun p hp x hx fx => (keys x).mpr (.inl (h.base.cld p hp x hx fx)), ?_, ?_⟩, List.mem_append_left _ h.cv, fun x hx fx => ?_, fun x hx => h.okd x (List.mem_cons_of_mem _ hx), (List.pairwise_cons.mp h.sds).2, fun e he ef => ?_⟩
  · rw [keys, h.base.keys, List.mem_append, List.mem_singleton]
    constructor
    · rintro ((z | z | z | z) | z)
      · exact .inl z
      · exact .inr (.inl z)
      · exact .inr (.inr (.inl z))
      · exact .inr (.inr (.inr (.inl z)))
      · exact .inr (.inr (.inr (.inr z)))
    · rintro (z | z | z | z | z)
      · exact .inl (.inl z)
      · exact .inl (.inr (.inl z))
      · exact .inl (.inr (.inr (.inl z)))
      · exact .inl (.inr (.inr (.inr z)))
      · exact .inr z
  · rw [List.map_append]
    refine List.nodup_append.mpr ⟨h.base.nd, by simp, fun a ha b hb e => ?_⟩
    have hb : b = d := by simpa using hb
    rw [e, hb] at ha
    exact hd ha
  · rcases List.mem_append.mp he with z | z
    · exact h.base.fw e z
    · rw [List.mem_singleton.mp z]; exact fwd
  · exact h.base.oldl e (low e he (inm _ (.inl ho))) ho
  · exact h.base.lev e (low e he (inm _ (by rcases ho with z | z; exact .inr (.inl z); exact .inr (.inr (.inl z))))) ho
  · rcases List.mem_append.mp he with z | z
    · refine h.base.nxt e z ?_
      rcases List.mem_append.mp ho with y | y
      · exact y
      · exact absurd (mem_key z) (by rw [List.mem_singleton.mp y]; exact hd)
    · rw [List.mem_singleton.mp z, List.length_append, hv]; rfl
  · refine h.base.srt.imp_of_mem fun {a b} ha hb q u w hu hw => ?_
    have ma : ∀ x, x ∈ dn ++ c :: rs → x ∈ m.map (·.1) := fun x hx => inm x (by rcases List.mem_append.mp hx with z | z; exact .inr (.inl z); exact .inr (.inr (.inl z)))
    exact q u w (keep (ma a ha) hu) (keep (ma b hb) hw)
  · refine List.pairwise_append.mpr ⟨h.base.srf.imp_of_mem fun {a b} ha hb q u w hu hw => q u w (keep (inm a (.inr (.inr (.inr ha)))) hu) (keep (inm b (.inr (.inr (.inr hb)))) hw), List.pairwise_singleton _ _, fun a ha b hb u w hu hw => ?_⟩
    have hb : b = d := by simpa using hb
    subst hb
    have hw : w = v ++ [b] := by
      rcases List.mem_append.mp hw with z | z
      · exact absurd (mem_key z) hd
      · cases List.mem_singleton.mp z; rfl
    have hu := keep (inm a (.inr (.inr (.inr ha)))) hu
    obtain ⟨u', e1, e2⟩ := h.par (a, u) hu ha
    have e1 : u = u' ++ [a] := e1
    rw [hw, e1]
    rcases e2 with z | ⟨rfl, z⟩
    · exact lxc_app z
    · exact lxc_same (.inl (z b List.mem_cons_self))
  · rcases h.todo x hx fx with z | z
    · exact .inl ((keys x).mpr (.inl z))
    · rcases List.mem_cons.mp z with rfl | z
      · exact .inl ((keys _).mpr (.inr rfl))
      · exact .inr z
  · rcases List.mem_append.mp he with z | z
    · have ef : e.1 ∈ fo := by
        rcases List.mem_append.mp ef with y | y
        · exact y
        · exact absurd (mem_key z) (by rw [List.mem_singleton.mp y]; exact hd)
      obtain ⟨u, e1, e2⟩ := h.par e z ef
      exact ⟨u, e1, e2.imp id fun y => ⟨y.1, fun x hx => y.2 x (List.mem_cons_of_mem _ hx)⟩⟩
    · rw [List.mem_singleton.mp z]
      exact ⟨v, rfl, .inr ⟨rfl, (List.pairwise_cons.mp h.sds).1⟩⟩
/-- c is done with -/
theorem BTurn.done {c : Ch} {v : List Ch} (h : BTurn F cs s n m old dn c v rs fo []) : BInv F cs s n m old (dn ++ [c]) rs fo := by
  have perm : ∀ x, (x ∈ dn ++ [c] ∨ x ∈ rs) ↔ (x ∈ dn ∨ x ∈ c :: rs) := fun x => by
    simp only [List.mem_append, List.mem_cons, List.not_mem_nil, or_false, or_assoc]
  refine ⟨fun x => ?_, h.base.nd, h.base.fw, h.base.oldl, fun e he ho => h.base.lev e he ((perm _).mp ho), h.base.nxt, fun x w hw l => ?_, fun p hp d hd f => ?_, (by rw [List.append_assoc]; exact h.base.srt), h.base.srf⟩
  · rw [h.base.keys]
    constructor
    · rintro (z | z | z | z)
      · exact .inl z
      · exact .inr ((perm x).mpr (.inl z) |>.elim .inl fun y => .inr (.inl y))
      · exact .inr ((perm x).mpr (.inr z) |>.elim .inl fun y => .inr (.inl y))
      · exact .inr (.inr (.inr z))
    · rintro (z | z | z | z)
      · exact .inl z
      · exact .inr ((perm x).mp (.inl z) |>.elim .inl fun y => .inr (.inl y))
      · exact .inr ((perm x).mp (.inr z) |>.elim .inl fun y => .inr (.inl y))
      · exact .inr (.inr (.inr z))
  · rcases h.base.cpl x w hw l with z | z | z
    · exact .inl z
    · exact .inr ((perm x).mpr (.inl z))
    · exact .inr ((perm x).mpr (.inr z))
  · rcases hp with z | z
    · exact h.base.cld p (.inl z) d hd f
    · rcases List.mem_append.mp z with z | z
      · exact h.base.cld p (.inr z) d hd f
      · have := List.mem_singleton.mp z
        subst this
        rcases h.todo d hd f with y | y
        · exact y
        · cases y
/-- the next level -/
theorem BInv.level (h : BInv F cs s n m old dn [] fo) : BInv F cs s (n + 1) m (old ++ dn) [] fo [] := by
  refine ⟨fun x => ?_, h.nd, h.fw, fun e he ho => ?_, fun e he ho => ?_, fun e he ho => (by cases ho), fun x w hw l => ?_, fun p hp d hd f => ?_, (by rw [List.nil_append]; exact h.srf), List.Pairwise.nil⟩
  · rw [h.keys]
    simp only [List.mem_append, List.not_mem_nil, false_or, or_false, or_assoc]
  · rcases List.mem_append.mp ho with z | z
    · have := h.oldl e he z; omega
    · have := h.lev e he (.inl z); omega
  · rcases ho with z | z
    · cases z
    · exact h.nxt e he z
  · by_cases hl : w.length ≤ n + 1
    · rcases h.cpl x w hw hl with z | z | z
      · exact .inl (List.mem_append_left _ z)
      · exact .inl (List.mem_append_right _ z)
      · cases z
    · have keyd : x ∈ m.map (·.1) := by
        rcases hw.last with ⟨rfl, _⟩ | ⟨p, v, h1, h2, h3, rfl⟩
        · simp at hl
        · rw [List.length_append, List.length_singleton] at l
          rcases h.cpl p v h1 (by omega) with z | z | z
          · exact h.cld p (.inl z) x h3 h2
          · exact h.cld p (.inr z) x h3 h2
          · cases z
      rcases (h.keys x).mp keyd with z | z | z | z
      · exact .inl (List.mem_append_left _ z)
      · exact .inl (List.mem_append_right _ z)
      · cases z
      · exact .inr (.inr z)
  · rcases hp with z | z
    · rcases List.mem_append.mp z with z | z
      · exact h.cld p (.inl z) d hd f
      · exact h.cld p (.inr z) d hd f
    · cases z
/-- the start -/
theorem BInv.first : BInv F cs s 0 [(s, [s])] [] [] [s] [] := by
  refine ⟨fun c => (by simp), (by simp), fun e he => ?_, fun e he ho => (by cases ho), fun e he ho => (by rw [List.mem_singleton.mp he]; rfl), fun e he ho => (by cases ho), fun c w hw l => ?_, fun p hp => (by rcases hp with z | z <;> cases z), List.pairwise_singleton _ _, List.Pairwise.nil⟩
  · rw [List.mem_singleton.mp he]
    refine ⟨.one s, fun v hv => hv.pos, fun v hv e => ?_⟩
    obtain ⟨t, rfl⟩ := hv.head
    cases t with
    | nil => exact .inl rfl
    | cons _ _ => simp at e
  · rcases hw.last with ⟨_, rfl⟩ | ⟨p, v, h1, _, _, rfl⟩
    · exact .inr (.inr (by simp))
    · have := h1.pos
      rw [List.length_append, List.length_singleton] at l
      omega
/-- at the end: nothing is left to do -/
theorem BInv.whole (h : BInv F cs s n m old dn [] []) : (∀ e ∈ m, FirstWay F cs s e.1 e.2) ∧ ∀ c w, Way F cs s c w → c ∈ m.map (·.1) := by
  refine ⟨h.fw, fun c w hw => ?_⟩
  have all : ∀ k c w, w.length ≤ k → Way F cs s c w → c ∈ old ∨ c ∈ dn := by
    intro k
    induction k with
    | zero => intro c w hk hw; have := hw.pos; omega
    | succ k ih =>
      intro c w hk hw
      rcases hw.last with ⟨rfl, rfl⟩ | ⟨p, v, h1, h2, h3, rfl⟩
      · rcases h.cpl s [s] (.one s) (by simp) with z | z | z
        · exact .inl z
        · exact .inr z
        · cases z
      · rw [List.length_append, List.length_singleton] at hk
        have := h.cld p (ih p v (by omega) h1) c h3 h2
        rcases (h.keys c).mp this with z | z | z | z
        · exact .inl z
        · exact .inr z
        · cases z
        · cases z
  exact (h.keys c).mpr ((all _ c w (Nat.le_refl _) hw).elim .inl fun z => .inr (.inl z))
end
end Cs

set_option maxRecDepth 100000
set_option maxHeartbeats 1000000
/-! how many steps are left, turn by turn -/
namespace Cs
section
variable {F : Ch → Ch → Bool} {cs : List Ch} {g : Ch}
theorem Way.dist {c : Ch} : ∀ (k : Nat) {w : List Ch}, w.length ≤ k → Way F cs c g w → ∃ j, j + 1 ≤ w.length ∧ Dist F cs c g j
  | 0, w, hk, h => by have := h.pos; omega
  | k + 1, w, hk, h => by
    by_cases s : ∃ v, Way F cs c g v ∧ v.length < w.length
    · obtain ⟨v, hv, hl⟩ := s
      obtain ⟨j, h1, h2⟩ := Way.dist k (by omega) hv
      exact ⟨j, by omega, h2⟩
    · have := h.pos
      exact ⟨w.length - 1, by omega, ⟨w, h, by omega⟩, fun v hv => by
        have : ¬ v.length < w.length := fun z => s ⟨v, hv, z⟩
        omega⟩
theorem dist_zero {c : Ch} : Dist F cs c g 0 ↔ c = g := by
  constructor
  · rintro ⟨⟨w, h, hl⟩, _⟩
    rcases h.last with ⟨_, e⟩ | ⟨p, v, h1, _, _, rfl⟩
    · exact e
    · have := h1.pos
      rw [List.length_append, List.length_singleton] at hl
      omega
  · rintro rfl
    exact ⟨⟨[c], .one c, rfl⟩, fun w h => h.pos⟩
theorem dist_succ {c : Ch} {n : Nat} : Dist F cs c g (n + 1) ↔ (∀ j, j ≤ n → ¬ Dist F cs c g j) ∧ ∃ x ∈ cs, F c x = true ∧ Dist F cs x g n := by
  constructor
  · intro h
    refine ⟨fun j hj hd => by have := h.uniq hd; omega, ?_⟩
    obtain ⟨⟨w, hw, hl⟩, least⟩ := h
    cases hw with
    | one => simp at hl
    | @cons _ x _ w f hx hw =>
      refine ⟨x, hx, f, ⟨w, hw, by simpa using hl⟩, fun v hv => ?_⟩
      have := least (c :: v) (.cons f hx hv)
      rw [List.length_cons] at this
      omega
  · rintro ⟨h1, x, hx, f, ⟨w, hw, hl⟩, _⟩
    refine ⟨⟨c :: w, .cons f hx hw, by rw [List.length_cons, hl]⟩, fun v hv => ?_⟩
    obtain ⟨j, h2, h3⟩ := Way.dist _ (Nat.le_refl _) hv
    refine Nat.le_of_not_lt fun z => h1 j (by omega) h3
theorem dist_far {c : Ch} : ∀ {n : Nat}, c ∈ cs → Dist F cs c g n → ∃ w : List Ch, w.length = n + 1 ∧ w.Nodup ∧ (∀ x ∈ w, x ∈ cs) ∧ ∀ x ∈ w, ∃ j, j ≤ n ∧ Dist F cs x g j
  | 0, hc, h => ⟨[c], rfl, by simp, fun x hx => by rw [List.mem_singleton.mp hx]; exact hc, fun x hx => ⟨0, Nat.le_refl _, by rw [List.mem_singleton.mp hx]; exact h⟩⟩
  | n + 1, hc, h => by
    obtain ⟨_, x, hx, f, hd⟩ := dist_succ.mp h
    obtain ⟨w, h1, h2, h3, h4⟩ := dist_far hx hd
    refine ⟨c :: w, by rw [List.length_cons, h1], List.nodup_cons.mpr ⟨fun z => ?_, h2⟩, fun y hy => ?_, fun y hy => ?_⟩
    · obtain ⟨j, hj, hd'⟩ := h4 c z
      have := h.uniq hd'
      omega
    · rcases List.mem_cons.mp hy with rfl | hy
      · exact hc
      · exact h3 y hy
    · rcases List.mem_cons.mp hy with rfl | hy
      · exact ⟨n + 1, Nat.le_refl _, h⟩
      · obtain ⟨j, hj, hd'⟩ := h4 y hy
        exact ⟨j, by omega, hd'⟩
theorem nd_le {l : List Ch} : ∀ {k : List Ch}, k.Nodup → (∀ x ∈ k, x ∈ l) → k.length ≤ l.length := by
  intro k
  induction k generalizing l with
  | nil => intro _ _; exact Nat.zero_le _
  | cons x k ih =>
    intro nd h
    obtain ⟨h1, h2⟩ := List.nodup_cons.mp nd
    have hx := h x List.mem_cons_self
    have := ih (l := l.erase x) h2 fun y hy => (List.mem_erase_of_ne fun e : y = x => h1 (e ▸ hy)).mpr (h y (List.mem_cons_of_mem _ hy))
    rw [List.length_erase_of_mem hx] at this
    have p := List.length_pos_of_mem hx
    rw [List.length_cons]
    omega
theorem dist_lt {c : Ch} {n : Nat} (hc : c ∈ cs) (h : Dist F cs c g n) : n < cs.length := by
  obtain ⟨w, h1, h2, h3, _⟩ := dist_far hc h
  have := nd_le h2 h3
  omega
open Classical in
/-- the steps that are known at turn n; -1: none yet -/
noncomputable def stF (F : Ch → Ch → Bool) (cs : List Ch) (g : Ch) (n : Nat) (c : Ch) : Int := if h : ∃ j, j ≤ n ∧ Dist F cs c g j then (Classical.choose h : Nat) else -1
theorem stF_some {n j : Nat} {c : Ch} (h : Dist F cs c g j) (hj : j ≤ n) : stF F cs g n c = (j : Int) := by
  have ex : ∃ j, j ≤ n ∧ Dist F cs c g j := ⟨j, hj, h⟩
  unfold stF
  rw [dif_pos ex, (Classical.choose_spec ex).2.uniq h]
theorem stF_none {n : Nat} {c : Ch} (h : ∀ j, j ≤ n → ¬ Dist F cs c g j) : stF F cs g n c = -1 := by
  unfold stF
  rw [dif_neg fun ⟨j, h1, h2⟩ => h j h1 h2]
theorem stF_eq {n j : Nat} {c : Ch} : stF F cs g n c = (j : Int) ↔ j ≤ n ∧ Dist F cs c g j := by
  constructor
  · intro e
    by_cases h : ∃ i, i ≤ n ∧ Dist F cs c g i
    · obtain ⟨i, h1, h2⟩ := h
      rw [stF_some h2 h1] at e
      have : i = j := by omega
      exact this ▸ ⟨h1, h2⟩
    · rw [stF_none fun i h1 h2 => h ⟨i, h1, h2⟩] at e
      omega
  · rintro ⟨h1, h2⟩
    exact stF_some h2 h1
theorem stF_neg {n : Nat} {c : Ch} : stF F cs g n c = -1 ↔ ∀ j, j ≤ n → ¬ Dist F cs c g j := by
  constructor
  · intro e j h1 h2
    rw [stF_some h2 h1] at e
    omega
  · exact stF_none
open Classical in
/-- one turn -/
theorem stF_step {n : Nat} {c : Ch} : stF F cs g (n + 1) c = if stF F cs g n c = -1 ∧ ∃ x ∈ cs, stF F cs g n x = (n : Int) ∧ F c x = true then ((n + 1 : Nat) : Int) else stF F cs g n c := by
  by_cases h : stF F cs g n c = -1
  · by_cases k : ∃ x ∈ cs, stF F cs g n x = (n : Int) ∧ F c x = true
    · rw [if_pos ⟨h, k⟩]
      obtain ⟨x, hx, e, f⟩ := k
      exact stF_some (dist_succ.mpr ⟨stF_neg.mp h, x, hx, f, (stF_eq.mp e).2⟩) (Nat.le_refl _)
    · rw [if_neg fun z => k z.2, h]
      refine stF_none fun j hj hd => ?_
      by_cases e : j = n + 1
      · subst e
        obtain ⟨_, x, hx, f, dx⟩ := dist_succ.mp hd
        exact k ⟨x, hx, stF_some dx (Nat.le_refl _), f⟩
      · exact stF_neg.mp h j (by omega) hd
  · rw [if_neg fun z => h z.1]
    have : ∃ j, j ≤ n ∧ Dist F cs c g j := Classical.byContradiction fun z => h (stF_none fun j h1 h2 => z ⟨j, h1, h2⟩)
    obtain ⟨j, h1, h2⟩ := this
    rw [stF_some h2 h1, stF_some h2 (by omega)]
theorem stF_zero {c : Ch} : stF F cs g 0 c = if c = g then 0 else -1 := by
  by_cases h : c = g
  · rw [if_pos h]; exact stF_some (dist_zero.mpr h) (Nat.le_refl _)
  · rw [if_neg h]; exact stF_none fun j hj hd => h (by have : j = 0 := by omega
                                                       subst this; exact dist_zero.mp hd)
/-- at the end: no steps, no way -/
theorem stF_end {c : Ch} (hc : c ∈ cs) (h : stF F cs g cs.length c = -1) : ∀ w, ¬ Way F cs c g w := fun w hw => by
  obtain ⟨j, _, hd⟩ := Way.dist _ (Nat.le_refl _) hw
  exact stF_neg.mp h j (Nat.le_of_lt (dist_lt hc hd)) hd
end
end Cs

set_option maxRecDepth 100000
set_option maxHeartbeats 1000000
/-! a label that can't be added is led from each of its choices to the other one -/
namespace Cs
section
variable {Fre : Ch → Bool} {Ov : Ch → Ch → Bool} {A K : List Nat} {n : Nat} {s : Bool} {σ : Nat → Bool}
/-- following the other way round -/
theorem rch_back (sym : ∀ c d, Ov c d = Ov d c) {c d : Ch} (hc : c.1 ∈ A) (h : Rch Fre Ov A [c] d) : Rch Fre Ov A [ng d] (ng c) := by
  induction h with
  | base h => rw [List.mem_singleton.mp h]; exact .base (by simp)
  | @step b e hb f he ih =>
    have hb1 : b.1 ∈ A := rch_in (fun x hx => by rw [List.mem_singleton.mp hx]; exact hc) hb
    have one : Rch Fre Ov A [ng e] (ng b) := .step (.base (by simp)) (fo_back sym f) hb1
    have trans : ∀ {x y z : Ch}, Rch Fre Ov A [x] y → Rch Fre Ov A [y] z → Rch Fre Ov A [x] z := fun {x y z} h k => by
      induction k with
      | base k => rw [List.mem_singleton.mp k]; exact h
      | step _ f m ih => exact .step ih f m
    exact trans one ih
theorem rch_trans {x y z : Ch} (h : Rch Fre Ov A [x] y) (k : Rch Fre Ov A [y] z) : Rch Fre Ov A [x] z := by
  induction k with
  | base k => rw [List.mem_singleton.mp k]; exact h
  | step _ f m ih => exact .step ih f m
/-- what (n, s) leads to is agreed upon, unless it leads to its other side -/
theorem con_one (sym : ∀ c d, Ov c d = Ov d c) (hn : n ∈ A) (no : ¬ Rch Fre Ov A [(n, s)] (n, !s)) : Con Fre Ov A [(n, s)] := fun c h k => by
  have b := rch_back sym hn k
  rw [ng_ng] at b
  exact no (rch_trans h b)
open Classical in
theorem add_one (sym : ∀ c d, Ov c d = Ov d c) (hA : ∀ i, i ∈ A ↔ i ∈ K ∨ i = n) (v : Val Fre Ov K σ) (no : ¬ Rch Fre Ov A [(n, s)] (n, !s)) : ∃ τ, Val Fre Ov A τ := by
  have hn : n ∈ A := (hA n).mpr (.inr rfl)
  have hc := con_one sym hn no
  have base : Rch Fre Ov A [(n, s)] (n, s) := .base (by simp)
  let τ : Nat → Bool := fun i => if Rch Fre Ov A [(n, s)] (i, true) then true else if Rch Fre Ov A [(n, s)] (i, false) then false else σ i
  have τR : ∀ c : Ch, Rch Fre Ov A [(n, s)] c → c.2 = τ c.1 := fun c h => by
    obtain ⟨i, t⟩ := c
    cases t with
    | true => show true = τ i; simp only [τ]; rw [if_pos h]
    | false => show false = τ i; simp only [τ]; rw [if_neg (fun z => hc (i, true) z h), if_pos h]
  have τN : ∀ i, ¬ Rch Fre Ov A [(n, s)] (i, true) → ¬ Rch Fre Ov A [(n, s)] (i, false) → τ i = σ i := fun i h1 h2 => by simp only [τ]; rw [if_neg h1, if_neg h2]
  refine ⟨τ, fun c d hcA hdA hcs f => ?_⟩
  by_cases hcR : Rch Fre Ov A [(n, s)] c
  · exact τR d (.step hcR f hdA)
  · have hcn : ¬ Rch Fre Ov A [(n, s)] (ng c) := fun z => by
      have := τR (ng c) z
      have this : (!c.2) = τ c.1 := this
      rw [← hcs] at this
      cases h : c.2 <;> rw [h] at this <;> cases this
    have hdn : ¬ Rch Fre Ov A [(n, s)] (ng d) := fun z => hcn (.step z (fo_back sym f) hcA)
    by_cases hdR : Rch Fre Ov A [(n, s)] d
    · exact τR d hdR
    · have two : ∀ c : Ch, ¬ Rch Fre Ov A [(n, s)] c → ¬ Rch Fre Ov A [(n, s)] (ng c) → ¬ Rch Fre Ov A [(n, s)] (c.1, true) ∧ ¬ Rch Fre Ov A [(n, s)] (c.1, false) := fun c h1 h2 => by
        obtain ⟨i, t⟩ := c
        cases t
        · exact ⟨h2, h1⟩
        · exact ⟨h1, h2⟩
      have out : ∀ c : Ch, c.1 ∈ A → ¬ Rch Fre Ov A [(n, s)] c → ¬ Rch Fre Ov A [(n, s)] (ng c) → c.1 ∈ K := fun c hA' h1 h2 => by
        rcases (hA c.1).mp hA' with z | z
        · exact z
        · exfalso
          rcases ch_eq (n, s) c z.symm with e | e
          · exact h1 (e ▸ base)
          · have e2 : ng c = (n, s) := e.symm
            exact h2 (e2 ▸ base)
      obtain ⟨c1, c2⟩ := two c hcR hcn
      obtain ⟨d1, d2⟩ := two d hdR hdn
      rw [τN d.1 d1 d2]
      rw [τN c.1 c1 c2] at hcs
      exact v c d (out c hcA hcR hcn) (out d hdA hdR hdn) hcs f
/-- both ways: no placing -/
theorem no_both (hn : n ∈ A) (h1 : Rch Fre Ov A [(n, false)] (n, true)) (h2 : Rch Fre Ov A [(n, true)] (n, false)) (v : Val Fre Ov A σ) : False := by
  cases e : σ n with
  | false =>
    have := (rch_val v (fun c hc => by rw [List.mem_singleton.mp hc]; exact ⟨hn, e.symm⟩) h1).2
    rw [show σ (n, true).1 = σ n from rfl, e] at this
    cases this
  | true =>
    have := (rch_val v (fun c hc => by rw [List.mem_singleton.mp hc]; exact ⟨hn, e.symm⟩) h2).2
    rw [show σ (n, false).1 = σ n from rfl, e] at this
    cases this
end
end Cs

set_option maxRecDepth 100000
set_option maxHeartbeats 1000000

namespace Cs
open PySem PySem.Spec PyProof.Rows L2
local macro_rules | `(tactic| walk_at "sets") => `(tactic| (repeat (first | exact set_0 | apply set_s)))
local macro_rules | `(tactic| walk_at "sts") => `(tactic| (repeat (first | exact rep_0 | apply rep_s | apply app_cons | apply app_nil)))
local macro_rules | `(tactic| walk_at "sql") => `(tactic| first
  | exact SqL.of (by assumption)
  | exact SqL.of upd_same
  | assumption)
local macro_rules | `(tactic| walk_at "sqt") => `(tactic| first
  | exact SqT.of (by assumption)
  | exact SqT.of upd_same
  | assumption)
local macro_rules | `(tactic| walk_at "rd1") => `(tactic| first
  | ((with_reducible show gName _ _ _ _ _); refine gset (by walk_at "sets") ?_)
  | refine ⟨_, rfl, ?_⟩
  | refine ⟨rfl, ?_⟩
  | refine ⟨_, _, rfl, rfl, (show CMul _ _ from Or.inr ⟨by decide, by decide⟩), ?_⟩
  | refine ⟨_, _, rfl, rfl, (show CMul _ _ from Or.inl ⟨by decide, by decide⟩), ?_⟩
  | refine ⟨_, _, rfl, rfl, (show (0 : Int) < _ by first | decide | omega), ?_⟩
  | refine ⟨_, _, rfl, rfl, (show CDiv _ _ from ⟨by omega, by omega⟩), ?_⟩
  | refine ⟨_, _, rfl, rfl, (show CPow _ _ from ⟨by decide, by decide, by decide⟩), ?_⟩
  | refine ⟨_, _, rfl, rfl, ?_⟩
  | refine ⟨_, _, _, _, rfl, rfl, (show SqL _ _ _ _ by walk_at "sql"), rfl, ?_⟩
  | refine ⟨_, _, _, _, rfl, rfl, (show SqT _ _ _ _ by walk_at "sqt"), rfl, ?_⟩
  | refine ⟨_, _, _, _, rfl, rfl, (by assumption), rfl, ?_⟩
  | refine ⟨_, _, _, _, rfl, rfl, upd_same, rfl, ?_⟩
  | refine ⟨_, _, rfl, (show LenV _ _ _ _ from Or.inl ⟨_, (by walk_at "sql"), rfl⟩), ?_⟩
  | refine ⟨_, _, rfl, (show LenV _ _ _ _ from Or.inr ⟨_, (by walk_at "sqt"), rfl⟩), ?_⟩
  | refine ⟨_, (show TruV _ _ _ _ from Or.inl ⟨_, (by walk_at "sql"), rfl⟩), ?_⟩
  | refine ⟨_, (show TruV _ _ _ _ from Or.inr (Or.inl ⟨_, (by walk_at "sqt"), rfl⟩)), ?_⟩
  | refine Or.inl ⟨_, rfl, ?_⟩
  | refine ⟨_, _, rfl, ?_⟩)

local macro_rules | `(tactic| walk_at "pe") => `(tactic| simp (config := {maxSteps := 2000000}) only [bind_bind, bindR, retB, failB, anyB, iteB, wp_retE, wp_failE,
  ↓kSeq_nx, ↓kSeq_rt, ↓kSeq_bk, ↓kSeq_ct, ↓mNext_eq, ↓mBreak_eq, ↓mCont_eq, ↓mDrop_eq, ↓mRet_eq, ↓mRetN_eq, ↓mAsg_eq, ↓mIf_eq, ↓gVar_eq, gAt_v, gAt_o, gAt_b, gAt_t, ↓mRetV_eq, rAt_s, ↓asgR_eq, aAt_v, aAt_o,
  get_0, get_s, set_0', set_s', List.getElem?_cons_zero, List.getElem?_cons_succ, List.set_cons_zero, List.set_cons_succ, ↓aNil_eq, ↓aCons_eq, ↓aTup_eq, ↓mPar_eq, ↓kPar_v, ↓gC_eq, ↓gaNil_eq, ↓gaCons_eq, ↓gTupE_eq, ↓gLst_eq, ↓gOp_eq, ↓gUn_eq, ↓gCall_eq, ↓gFn_eq, map_nilC, map_consC, lend_v, lend_o, lend_b, lend_t,
  ↓gTru_eq, ↓gTest_eq, oBl_b, oTru_v, oTru_o, oTru_b, truD_n, truD_b, truD_i, truD_t, mAnd_r, mOr_r, mAnd_t, mAnd_f, mOr_t, mOr_f, ↓gAnd_eq, ↓gOr_eq, ↓gNot_eq, mAndC_r, mAndC_f, mOrC_r, ↓gAndT_eq, ↓gOrT_eq, ↓gNotT_eq, ↓gIfE_eq, ↓gChain_eq, ↓gNo_eq, ↓gSome_eq, oInt?_i, ↓gSl_eq, oSl_t, oSl_b, ↓gSl2_eq, kSl2_t,
  ↓gIt_eq, ↓gItV_eq, kItV_v, kItV_b, kItV_o, itV_t, itV_s, itV_b, itV_o, itD_t, itD_s, itD_o, ↓gItR1_eq, ↓gItR2_eq, ↓gItR3_eq, itR3_i, itR1_i, itR2_i, ↓gLc_eq, wipe_n, wipe_c, ↓gYes_eq, ↓gR1_eq, kR1_i, ↓gR2_eq, kR2_i, ↓gLstRg_eq, ↓gTupRg_eq, ↓mFor_eq, ↓mForV_eq, ↓mForRev_eq, kForRev_o, kForRev_t, kForV_o, kForV_b, kForV_t, kForV_s, ↓mApp_eq, appAt_o, kApp_v,
  ↓fnU_eq, rp_0, rp_s, ap_n, ap_c, ms_n, ms_c, out_rt, out_nx, oAdd_i, oAdd_s, oAdd_t, oAdd_oo, oAdd_bo, oAdd_bb, oAdd_ob, oInt_v, oMul_i, oNeg_i, oEq_i, oNe_i, oEq_b, oNe_b, oEq_s, oNe_s, oIx_t, oIx_s, oIx_o, oIx_b, atD_0, atD_1, atD_2, atD_3, atD_4, atD_5, atD_6, atD_7, atD_8, datas_n, datas_v, mp_some, oTup_eq, oLst_eq, kTup_s, kLst_s, len_n, len_c,
  o1_v, o1_o, o1_b, lenD_t, lenD_l, lenD_s, absD_i, intD_i, intD_b, oMax2_i, oMin2_i, oGcd_i, oListC_t, oListC_o, oListC_b, oTupC_t, oTupC_o, oTupC_b, isi_bi, isi_ii, isi_ib, isi_bb, isi_ni, isi_ss, isi_nb, oIsi_v, tyD_b, tyD_i, tyD_s, tyD_n, oIsX_n, oIsX_b, isN_n, isN_i, isN_b, isN_s, isN_t, aUnl_o, aUnl_b, oIx_l, kForV_l, truD_l, oSl_l, itD_l, itV_l, oListC_l, oTupC_l, kIdxL_l, oAdd_lo, oAdd_ol, oAdd_ll, oAdd_lb, oAdd_bl, ↓mFrz_eq, kFrz_o, kFrz_v, kFrz_b, kFrz_n, ↓gFrz_eq, frzC_o, frzC_v, ↓gItI_eq, itI_t, itI_l, itI_s, ↓gDcT_eq, ↓gLc2_eq, ↓gLock_eq, lockAt_o, lockC_v, lockC_o, ↓gKeys_eq, keysAt_b, ↓mDPut_eq, dputAt_T, dputAt_K, ↓gNewT_eq, ↓gNewK_eq, ↓gDGet1_eq, ↓mSetAt_eq, setAt_o, ↓mAugI_eq, augAt_i, kAug_i, ↓gZip_eq, zipD_t, ↓gIdxL_eq, kIdxL_b, kIdxL_o, idxA_v, ↓gIdxK_eq, ↓gSix_eq, kSix_s, oLtU_i, oLtU_s, oLtU_b, ↓gFnD_eq, ↓gFnK_eq, kFnK_21, mOrCt, mOrCf, mAndCt, mAndCf, ↓gF_eq, ↓gFt_eq, ↓mF_eq, oIsiX_v, tyX_b, tyX_i, tyX_s, tyX_n, tyX_t, isiX_ts, isiX_tb, isiX_ti, isiX_tt, isiX_st, isiX_sb, isiX_si, isiX_bs, isiX_bt, isiX_is, isiX_it, isiX_ns, isiX_nt, 
  lenOk, decide_eq_true_eq, Nat.reduceAdd, Nat.reduceLeDiff, Nat.reduceEqDiff, Bool.false_xor, Bool.true_xor, Bool.not_false, Bool.not_true, Bool.false_eq_true, if_true, if_false, reduceIte, ↓reduceIte, decide_true, decide_false, List.length_cons, List.length_nil])
local macro_rules | `(tactic| walk_at "pl") => `(tactic| simp (config := {maxSteps := 2000000}) only [bind_bind, bindR, retB, failB, anyB, iteB, wp_retE, wp_failE,
  ↓mSeq_eq, ↓kSeq_nx, ↓kSeq_rt, ↓kSeq_bk, ↓kSeq_ct, ↓mNext_eq, ↓mBreak_eq, ↓mCont_eq, ↓mDrop_eq, ↓mRet_eq, ↓mRetN_eq, ↓mAsg_eq, ↓mIf_eq, ↓gVar_eq, gAt_v, gAt_o, gAt_b, gAt_t, ↓mRetV_eq, rAt_s, ↓asgR_eq, aAt_v, aAt_o,
  get_0, get_s, set_0', set_s', List.getElem?_cons_zero, List.getElem?_cons_succ, List.set_cons_zero, List.set_cons_succ, ↓aNil_eq, ↓aCons_eq, ↓aTup_eq, ↓mPar_eq, ↓kPar_v, ↓gC_eq, ↓gaNil_eq, ↓gaCons_eq, ↓gTupE_eq, ↓gLst_eq, ↓gOp_eq, ↓gUn_eq, ↓gCall_eq, ↓gFn_eq, map_nilC, map_consC, lend_v, lend_o, lend_b, lend_t,
  ↓gTru_eq, ↓gTest_eq, oBl_b, oTru_v, oTru_o, oTru_b, truD_n, truD_b, truD_i, truD_t, mAnd_r, mOr_r, mAnd_t, mAnd_f, mOr_t, mOr_f, ↓gAnd_eq, ↓gOr_eq, ↓gNot_eq, mAndC_r, mAndC_f, mOrC_r, ↓gAndT_eq, ↓gOrT_eq, ↓gNotT_eq, ↓gIfE_eq, ↓gChain_eq, ↓gNo_eq, ↓gSome_eq, oInt?_i, ↓gSl_eq, oSl_t, oSl_b, ↓gSl2_eq, kSl2_t,
  ↓gIt_eq, ↓gItV_eq, kItV_v, kItV_b, kItV_o, itV_t, itV_s, itV_b, itV_o, itD_t, itD_s, itD_o, ↓gItR1_eq, ↓gItR2_eq, ↓gItR3_eq, itR3_i, itR1_i, itR2_i, ↓gLc_eq, wipe_n, wipe_c, ↓gYes_eq, ↓gR1_eq, kR1_i, ↓gR2_eq, kR2_i, ↓gLstRg_eq, ↓gTupRg_eq, ↓mFor_eq, ↓mForV_eq, ↓mForRev_eq, kForRev_o, kForRev_t, kForV_o, kForV_b, kForV_t, kForV_s, ↓mApp_eq, appAt_o, kApp_v,
  ↓fnU_eq, rp_0, rp_s, ap_n, ap_c, ms_n, ms_c, out_rt, out_nx, oAdd_i, oAdd_s, oAdd_t, oAdd_oo, oAdd_bo, oAdd_bb, oAdd_ob, oInt_v, oMul_i, oNeg_i, oEq_i, oNe_i, oEq_b, oNe_b, oEq_s, oNe_s, oIx_t, oIx_s, oIx_o, oIx_b, atD_0, atD_1, atD_2, atD_3, atD_4, atD_5, atD_6, atD_7, atD_8, datas_n, datas_v, mp_some, oTup_eq, oLst_eq, kTup_s, kLst_s, len_n, len_c,
  o1_v, o1_o, o1_b, lenD_t, lenD_l, lenD_s, absD_i, intD_i, intD_b, oMax2_i, oMin2_i, oGcd_i, oListC_t, oListC_o, oListC_b, oTupC_t, oTupC_o, oTupC_b, isi_bi, isi_ii, isi_ib, isi_bb, isi_ni, isi_ss, isi_nb, oIsi_v, tyD_b, tyD_i, tyD_s, tyD_n, oIsX_n, oIsX_b, isN_n, isN_i, isN_b, isN_s, isN_t, aUnl_o, aUnl_b, oIx_l, kForV_l, truD_l, oSl_l, itD_l, itV_l, oListC_l, oTupC_l, kIdxL_l, oAdd_lo, oAdd_ol, oAdd_ll, oAdd_lb, oAdd_bl, ↓mFrz_eq, kFrz_o, kFrz_v, kFrz_b, kFrz_n, ↓gFrz_eq, frzC_o, frzC_v, ↓gItI_eq, itI_t, itI_l, itI_s, ↓gDcT_eq, ↓gLc2_eq, ↓gLock_eq, lockAt_o, lockC_v, lockC_o, ↓gKeys_eq, keysAt_b, ↓mDPut_eq, dputAt_T, dputAt_K, ↓gNewT_eq, ↓gNewK_eq, ↓gDGet1_eq, ↓mSetAt_eq, setAt_o, ↓mAugI_eq, augAt_i, kAug_i, ↓gZip_eq, zipD_t, ↓gIdxL_eq, kIdxL_b, kIdxL_o, idxA_v, ↓gIdxK_eq, ↓gSix_eq, kSix_s, oLtU_i, oLtU_s, oLtU_b, ↓gFnD_eq, ↓gFnK_eq, kFnK_21, mOrCt, mOrCf, mAndCt, mAndCf, ↓gF_eq, ↓gFt_eq, ↓mF_eq, oIsiX_v, tyX_b, tyX_i, tyX_s, tyX_n, tyX_t, isiX_ts, isiX_tb, isiX_ti, isiX_tt, isiX_st, isiX_sb, isiX_si, isiX_bs, isiX_bt, isiX_is, isiX_it, isiX_ns, isiX_nt, 
  lenOk, decide_eq_true_eq, Nat.reduceAdd, Nat.reduceLeDiff, Nat.reduceEqDiff, Bool.false_xor, Bool.true_xor, Bool.not_false, Bool.not_true, Bool.false_eq_true, if_true, if_false, reduceIte, ↓reduceIte, decide_true, decide_false, List.length_cons, List.length_nil])
local macro_rules | `(tactic| walk_at "pr") => `(tactic| ((try walk_at "pl"); try rfl))
local macro_rules | `(tactic| walk_at "wk") => `(tactic| try walk_at "pl")
local macro_rules | `(tactic| walk_at "we") => `(tactic| try walk_at "pe")

def top (i : Nat) : Stmt := PySem.Challenge.pw_chartspec_k94_formulas_and_their_tests.main.body.getD i (.Pass ⟨0, 0, 0, 0⟩)
abbrev s_parts_of : Stmt := top 2
theorem sc_parts_of : FnScope ["expression", "word"] ["expression"] (defScope s_parts_of) := ⟨rfl, rfl, rfl, by decide +kernel, rfl, by decide +kernel, by decide +kernel⟩
abbrev s_is_formula : Stmt := top 5
theorem sc_is_formula : FnScope ["expression", "part"] ["expression"] (defScope s_is_formula) := ⟨rfl, rfl, rfl, by decide +kernel, rfl, by decide +kernel, by decide +kernel⟩
abbrev s_tests_of : Stmt := top 6
theorem sc_tests_of : FnScope ["formula", "part", "test"] ["formula"] (defScope s_tests_of) := ⟨rfl, rfl, rfl, by decide +kernel, rfl, by decide +kernel, by decide +kernel⟩
abbrev s_is_constant : Stmt := top 7
theorem sc_is_constant : FnScope ["expression"] ["expression"] (defScope s_is_constant) := ⟨rfl, rfl, rfl, by decide +kernel, rfl, by decide +kernel, by decide +kernel⟩
abbrev s_is_test : Stmt := top 8
theorem sc_is_test : FnScope ["expression", "word", "part"] ["expression"] (defScope s_is_test) := ⟨rfl, rfl, rfl, by decide +kernel, rfl, by decide +kernel, by decide +kernel⟩
abbrev s_law_tape : Stmt := top 10
theorem sc_law_tape : FnScope ["script", "total", "cell"] ["script"] (defScope s_law_tape) := ⟨rfl, rfl, rfl, by decide +kernel, rfl, by decide +kernel, by decide +kernel⟩
abbrev s_law_draw : Stmt := top 11
theorem sc_law_draw : FnScope ["tape", "many", "place", "number"] ["tape", "many"] (defScope s_law_draw) := ⟨rfl, rfl, rfl, by decide +kernel, rfl, by decide +kernel, by decide +kernel⟩
abbrev s_law_word : Stmt := top 12
theorem sc_law_word : FnScope ["tape", "signs", "word", "k"] ["tape"] (defScope s_law_word) := ⟨rfl, rfl, rfl, by decide +kernel, rfl, by decide +kernel, by decide +kernel⟩
abbrev s_law_lowest : Stmt := top 13
theorem sc_law_lowest : FnScope ["n", "d", "a", "b", "rest"] ["n", "d"] (defScope s_law_lowest) := ⟨rfl, rfl, rfl, by decide +kernel, rfl, by decide +kernel, by decide +kernel⟩
abbrev s_law_number : Stmt := top 14
theorem sc_law_number : FnScope ["tape", "n", "form"] ["tape"] (defScope s_law_number) := ⟨rfl, rfl, rfl, by decide +kernel, rfl, by decide +kernel, by decide +kernel⟩
abbrev s_law_cell : Stmt := top 15
theorem sc_law_cell : FnScope ["tape", "kind"] ["tape", "kind"] (defScope s_law_cell) := ⟨rfl, rfl, rfl, by decide +kernel, rfl, by decide +kernel, by decide +kernel⟩
abbrev s_law_cells : Stmt := top 16
theorem sc_law_cells : FnScope ["tape", "kind", "many", "found", "k", "one"] ["tape", "kind", "many"] (defScope s_law_cells) := ⟨rfl, rfl, rfl, by decide +kernel, rfl, by decide +kernel, by decide +kernel⟩
abbrev s_law_columns : Stmt := top 17
theorem sc_law_columns : FnScope ["tape", "names", "kinds", "turn", "columns", "k"] ["tape"] (defScope s_law_columns) := ⟨rfl, rfl, rfl, by decide +kernel, rfl, by decide +kernel, by decide +kernel⟩
abbrev s_law_test : Stmt := top 18
theorem sc_law_test : FnScope ["tape", "columns", "column", "name", "form", "cell", "sign"] ["tape", "columns"] (defScope s_law_test) := ⟨rfl, rfl, rfl, by decide +kernel, rfl, by decide +kernel, by decide +kernel⟩
abbrev s_law_is_test : Stmt := top 19
theorem sc_law_is_test : FnScope ["expression"] ["expression"] (defScope s_law_is_test) := ⟨rfl, rfl, rfl, by decide +kernel, rfl, by decide +kernel, by decide +kernel⟩
abbrev s_law_tests : Stmt := top 20
theorem sc_law_tests : FnScope ["expression"] ["expression"] (defScope s_law_tests) := ⟨rfl, rfl, rfl, by decide +kernel, rfl, by decide +kernel, by decide +kernel⟩
abbrev s_law_odd : Stmt := top 21
theorem sc_law_odd : FnScope ["tape", "columns", "number", "column", "cell", "test", "odd"] ["tape", "columns"] (defScope s_law_odd) := ⟨rfl, rfl, rfl, by decide +kernel, rfl, by decide +kernel, by decide +kernel⟩
abbrev s_law_wild : Stmt := top 22
theorem sc_law_wild : FnScope ["tape", "columns", "depth", "share", "form", "left"] ["tape", "columns", "depth", "share"] (defScope s_law_wild) := ⟨rfl, rfl, rfl, by decide +kernel, rfl, by decide +kernel, by decide +kernel⟩
abbrev s_law_is_formula : Stmt := top 23
theorem sc_law_is_formula : FnScope ["expression"] ["expression"] (defScope s_law_is_formula) := ⟨rfl, rfl, rfl, by decide +kernel, rfl, by decide +kernel, by decide +kernel⟩
abbrev s_law : Stmt := top 24
theorem sc_law : FnScope ["script", "tape", "columns", "share", "told", "k", "expression", "due", "both"] ["script"] (defScope s_law) := ⟨rfl, rfl, rfl, by decide +kernel, rfl, by decide +kernel, by decide +kernel⟩
structure Blt (mg : Str → Option Value) : Prop where
  abs : mg "abs" = none
  all : mg "all" = none
  int : mg "int" = none
  len : mg "len" = none
  list : mg "list" = none
  max : mg "max" = none
  range : mg "range" = none
  repr : mg "repr" = none
  sorted : mg "sorted" = none
  tuple : mg "tuple" = none

def fuelI : Option (Option C) → Nat
  | some (some (.val (.int i))) => i.natAbs + 1
  | _ => 0
def connS : List Str := ["not", "and", "or"]
def conn : List PyData := connS.map .str
def cmpr : List Str := ["=", "<>", "<", "<=", ">", ">="]
structure FmT (K : PySem.W.Frag) (w : World) (mg : Str → Option Value) : Prop where
  tup : ∃ a : Addr, mg "CONNECTIVES" = some (.ref a) ∧ KTup K a conn
  dic : ∃ d : Addr, mg "COMPARISONS" = some (.ref d) ∧ ∃ (es : Array DictEntry) (n : Nat), KDict K w d es n ∧ ∀ z : Str, ∃ r, PySem.W.nsIn K d z = some r ∧ r.isSome = decide (z ∈ cmpr)
section
variable {P : Program} {w : World} {K : PySem.W.Frag} {mg : Str → Option Value} {base : Heap}
theorem df_law_tape (M : Blt mg) (A : At K mg "_law_tape" s_law_tape) : Df P w K mg base 1 "_law_tape" ["script"] (sp_law_tape K) := by
  have nd := sc_law_tape.nd
  refine Df.of A (fun _ _ _ _ _ _ us hl => match us, hl with | [_], _ => rfl) sc_law_tape (fun vs H Q E h => ?_) (fun cdv A out f s H vs Q E hr hgd h => ?_)
  · obtain ⟨a, ns, rfl, _⟩ := h
    rfl
  · obtain ⟨a, ns, rfl, hS, hl, k⟩ := h
    refine ⟨_, (pss_cons (ps_set (i := 1) nd rfl (Or.inl rfl) pe_int)
      (pss_cons (ps_for PassesOwn.never rfl (pi_list (pv 0)) (pg_name (i := 2) nd rfl (Or.inl rfl)) (pss_one (ps_set (i := 1) nd rfl (Or.inl rfl) (pe_op op_mod (pe_callTy call_int1 (by rfl) M.int (by decide +kernel) (pa_cons (pe_op op_add (pe_op op_mul (pv 1) pe_int) (pe_callB call_abs (by rfl) M.abs (by decide +kernel) (pa_cons (pe_callTy call_int1 (by rfl) M.int (by decide +kernel) (pa_cons (pv 2) pa_nil)) pa_nil))) pa_nil)) pe_int))))
      (pss_one (ps_ret (pe_lst (pa_cons (pe_callTy (listK K) (by rfl) M.list (by decide +kernel) (pa_cons (pv 0) pa_nil)) (pa_cons pe_int (pa_cons pe_int (pa_cons (pv 1) pa_nil))))))))), at_start (st_of (k := 2) rfl (by walk_at "sts")) ?_⟩
    refine ⟨_, rfl, a, rfl, ⟨_, hS⟩, for_list (K := K) (a := a) (xs := ns.map V.int) (fun i σ H2 => H2 = H ∧ ∃ (z : Int) (v : Option V), σ = [some (.ref a), some (.int z), v] ∧ 0 ≤ z) ⟨rfl, 7, none, rfl, by decide⟩ (fun i σ H2 _ e => by rw [e.1]; exact hS) ?_ ?_⟩
    · rintro i y σ H2 hi ⟨rfl, z, v, rfl, hz⟩
      obtain ⟨n, rfl⟩ := int_at hi
      repeat walk_at "rd1"
      exact Int.emod_nonneg _ (by decide)
    · rintro σ H2 ⟨rfl, z, v, rfl, hz⟩
      refine ⟨_, rfl, a, _, rfl, Or.inl hS, fun l hl => ?_⟩
      repeat walk_at "rd1"
      refine ⟨(by show 4 ≤ sizeLine; decide), fun t ht => ?_⟩
      have nlt : l ≠ t := ne_of_none upd_same ht
      refine k t l _ (fun b o e => ?_) ⟨⟨ns, 0, 0, z, upd_same, by rw [upd_ne nlt]; exact upd_same, by decide, by decide, hz⟩, nlt⟩ ((Same.new hl).free ht) hl
      rw [upd_ne (ne_of_none (Same.new hl _ _ e) ht), upd_ne (ne_of_none e hl)]
      exact e
theorem df_law_draw (M : Blt mg) (A : At K mg "_law_draw" s_law_draw) : Df P w K mg base 1 "_law_draw" ["tape", "many"] (sp_law_draw K) := by
  have nd := sc_law_draw.nd
  refine Df.of A (fun _ _ _ _ _ _ us hl => match us, hl with | [_, _], _ => rfl) sc_law_draw (fun vs H Q E h => ?_) (fun cdv A out f s H vs Q E hr hgd h => ?_)
  · obtain ⟨t, l, m, rfl, _⟩ := h
    rfl
  · obtain ⟨t, l, m, rfl, T, hm, k⟩ := h
    obtain ⟨⟨ns, p, r, s, h1, h2, p0, r0, s0⟩, nlt⟩ := id T
    refine ⟨_, (pss_cons (ps_if (pt_cmpR op_eq (pe_ix (ixL K) (pv 0) pe_int (fun _ _ => rfl)) pe_int (nomark _)) (pss_cons (ps_set (i := 2) nd rfl (Or.inl rfl) (pe_ix (ixL K) (pv 0) pe_int (fun _ _ => rfl)))
      (pss_cons (ps_set (i := 3) nd rfl (Or.inl rfl) pe_int)
      (pss_cons (ps_if (pt_cmpR op_lt (pv 2) (pe_callB (lenK K) (by rfl) M.len (by decide +kernel) (pa_cons (pe_ix (ixL K) (pv 0) pe_int (fun _ _ => rfl)) pa_nil)) (nomark _)) (pss_one (ps_set (i := 3) nd rfl (Or.inl rfl) (pe_callB call_abs (by rfl) M.abs (by decide +kernel) (pa_cons (pe_callTy call_int1 (by rfl) M.int (by decide +kernel) (pa_cons (pe_ix (ixL K) (pe_ix (ixL K) (pv 0) pe_int (fun _ _ => rfl)) (pv 2) (fun _ _ => rfl)) pa_nil)) pa_nil)))) (pss_cons (ps_asg (pe_op op_mod (pe_callTy call_int1 (by rfl) M.int (by decide +kernel) (pa_cons (pe_op op_add (pe_op op_add (pe_op op_mul (pe_ix (ixL K) (pv 0) pe_int (fun _ _ => rfl)) pe_int) (pv 2)) pe_int) pa_nil)) pe_int) (pg_sub (pv 0) pe_int set_list))
      (pss_one (ps_set (i := 3) nd rfl (Or.inl rfl) (pe_ix (ixL K) (pv 0) pe_int (fun _ _ => rfl))))))
      (pss_cons (ps_asg (pe_op op_add (pv 2) pe_int) (pg_sub (pv 0) pe_int set_list))
      (pss_cons (ps_if (pt_cmpR op_lt (pv 3) (pe_op op_pow pe_int pe_int) (nomark _)) (pss_cons (ps_set (i := 3) nd rfl (Or.inl rfl) (pe_op op_mod (pe_callTy call_int1 (by rfl) M.int (by decide +kernel) (pa_cons (pe_op op_add (pe_op op_add (pe_op op_mul (pv 3) pe_int) (pe_op op_mul (pv 2) pe_int)) pe_int) pa_nil)) pe_int))
      (pss_cons (ps_set (i := 3) nd rfl (Or.inl rfl) (pe_op op_mod (pe_callTy call_int1 (by rfl) M.int (by decide +kernel) (pa_cons (pe_op op_mul (pv 3) pe_int) pa_nil)) pe_int))
      (pss_one (ps_ret (pe_op op_mod (pe_callTy call_int1 (by rfl) M.int (by decide +kernel) (pa_cons (pv 3) pa_nil)) (pe_callB (call_max2 rfl) (by rfl) M.max (by decide +kernel) (pa_cons (pv 1) (pa_cons pe_int pa_nil)))))))) pss_nil)
      (pss_one (ps_asg (pv 3) (pg_sub (pv 0) pe_int set_list)))))))) pss_nil)
      (pss_cons (ps_set (i := 3) nd rfl (Or.inl rfl) (pe_ix (ixL K) (pv 0) pe_int (fun _ _ => rfl)))
      (pss_cons (ps_asg (pe_op op_fdiv (pv 3) (pe_callB (call_max2 rfl) (by rfl) M.max (by decide +kernel) (pa_cons (pv 1) (pa_cons pe_int pa_nil)))) (pg_sub (pv 0) pe_int set_list))
      (pss_one (ps_ret (pe_op op_mod (pe_callTy call_int1 (by rfl) M.int (by decide +kernel) (pa_cons (pv 3) pa_nil)) (pe_callB (call_max2 rfl) (by rfl) M.max (by decide +kernel) (pa_cons (pv 1) (pa_cons pe_int pa_nil))))))))), at_start (st_of (k := 2) rfl (by walk_at "sts")) ?_⟩
    have fin : ∀ (n : Int) (H1 : Hp) (p' r' s' : Int), H1 t = some (.lst [.ref l, .int p', .int r', .int s']) → Al t H H1 → 0 ≤ p' → 0 ≤ r' → 0 ≤ s' → Q (.int (n % (if (1 : Int) > m then (1 : Int) else m))) H1 := by
      intro n H1 p' r' s' e1 a1 hp hr' hs
      rw [max_one]
      refine k _ H1 ⟨⟨ns, p', r', s', e1, by rw [a1 l nlt]; exact h2, hp, hr', hs⟩, nlt⟩ a1 (Int.emod_nonneg _ (by omega)) (Int.emod_lt_of_pos _ (by omega))
    repeat walk_at "rd1"
    refine if_int (fun hr0 => ?_) (fun hr0 => ?_)
    · subst hr0
      repeat walk_at "rd1"
      refine if_dec (fun hpl => ?_) (fun hpl => ?_)
      · rw [List.length_map] at hpl
        obtain ⟨n, hn⟩ := at_int p0 hpl
        refine ⟨_, rfl, _, _, _, _, rfl, rfl, SqL.of h1, rfl, _, rfl, _, _, _, _, rfl, rfl, SqL.of h2, hn, ?_⟩
        repeat walk_at "rd1"
        refine if_dec (fun h18 => ?_) (fun h18 => ?_)
        · repeat walk_at "rd1"
          exact fin _ _ (p + 1) 0 s upd_same Al.upd (by omega) (by decide) s0
        · repeat walk_at "rd1"
          exact fin _ _ (p + 1) _ s upd_same ((Al.upd.trans Al.upd).trans Al.upd) (by omega) (Int.ediv_nonneg (by split <;> omega) (by split <;> omega)) s0
      · repeat walk_at "rd1"
        refine if_dec (fun h18 => ?_) (fun h18 => ?_)
        · repeat walk_at "rd1"
          exact fin _ _ (p + 1) 0 _ upd_same (Al.upd.trans Al.upd) (by omega) (by decide) (Int.emod_nonneg _ (by decide))
        · repeat walk_at "rd1"
          exact fin _ _ (p + 1) _ _ upd_same (((Al.upd.trans Al.upd).trans Al.upd).trans Al.upd) (by omega) (Int.ediv_nonneg (Int.emod_nonneg _ (by decide)) (by split <;> omega)) (Int.emod_nonneg _ (by decide))
    · repeat walk_at "rd1"
      exact fin _ _ p _ s upd_same Al.upd p0 (Int.ediv_nonneg r0 (by split <;> omega)) s0
end

/-- parts_of(expression); 0 expression, 1 word -/
noncomputable def f_parts_of : List C → M C := fnU 1 1
    (mSeq (mAsg (gOp oIx (gVar 0) (gC (.int 0))) (asgR 1))
      (mSeq (mIf (gTest (gOp oIn (gVar 1) (gTupE (gaCons (gC (.str "cell")) (gaCons (gC (.str "nothing")) (gaCons (gC (.str "column")) gaNil)))))) (mRet (gTupE gaNil)) mNext)
      (mRet (gIfE (gTest (gOp oEq (gVar 1) (gC (.str "in")))) (gSl (gVar 0) (gSome (gC (.int 1))) (gSome (gC (.int 2)))) (gSl (gVar 0) (gSome (gC (.int 1))) gNo)))))
/-- is_constant(expression); 0 expression -/
noncomputable def f_is_constant : List C → M C := fnU 1 0
    (mRet (gOp oIn (gOp oIx (gVar 0) (gC (.int 0))) (gTupE (gaCons (gC (.str "cell")) (gaCons (gC (.str "nothing")) gaNil)))))
/-- tests_of(formula); 0 formula, 1 part, 2 test -/
noncomputable def f_tests_of : Nat → List C → M C
  | 0 => fun _ => .fail
  | n + 1 => fnU 1 2
    (mSeq (mIf (gTest (gInK false conn (gOp oIx (gVar 0) (gC (.int 0))))) (mRet (gCall oTupC (gaCons (gLc2 (gIt (gFn f_parts_of (gaCons (gVar 0) gaNil))) (asgR 1) gYes (gItI (gFn (f_tests_of n) (gaCons (gVar 1) gaNil))) (asgR 2) gYes (gVar 2) [1, 2] [2]) gaNil))) mNext)
      (mRet (gIfE (gTru (gFn f_is_constant (gaCons (gVar 0) gaNil))) (gTupE gaNil) (gTupE (gaCons (gVar 0) gaNil)))))
/-- is_test(expression); 0 expression, 1 word, 2 part -/
noncomputable def f_is_test : List C → M C := fnU 1 2
    (mSeq (mAsg (gOp oIx (gVar 0) (gC (.int 0))) (asgR 1))
      (mSeq (mIf (gTest (gInKd false cmpr (gVar 1))) (mRet (gOp oEq (gCall oSortS (gaCons (gLc (gIt (gSl (gVar 0) (gSome (gC (.int 1))) gNo)) (asgR 2) gYes (gOp oIx (gVar 2) (gC (.int 0))) [2]) gaNil)) (gLst (gaCons (gC (.str "cell")) (gaCons (gC (.str "column")) gaNil))))) mNext)
      (mRet (gOrT (gOp oEq (gVar 1) (gC (.str "column"))) (gAndT (gOp oIn (gVar 1) (gTupE (gaCons (gC (.str "in")) (gaCons (gC (.str "missing")) gaNil)))) (gOp oEq (gOp oIx (gOp oIx (gVar 0) (gC (.int 1))) (gC (.int 0))) (gC (.str "column"))))))))
/-- is_formula(expression); 0 expression, 1 part -/
noncomputable def f_is_formula : Nat → List C → M C
  | 0 => fun _ => .fail
  | n + 1 => fnU 1 1
    (mSeq (mIf (gTest (gInK false conn (gOp oIx (gVar 0) (gC (.int 0))))) (mRet (gCall oAll (gaCons (gLc (gIt (gFn f_parts_of (gaCons (gVar 0) gaNil))) (asgR 1) gYes (gFn (f_is_formula n) (gaCons (gVar 1) gaNil)) [1]) gaNil))) mNext)
      (mRet (gOrT (gFn f_is_constant (gaCons (gVar 0) gaNil)) (gFn f_is_test (gaCons (gVar 0) gaNil)))))
/-- _law_word(tape); 0 tape, 1 signs, 2 word, 3 k -/
noncomputable def f_law_word : List C → M C := fnU 1 3
    (mSeq (mAsg (gC (.str " !\"#$&'()*+,-./0123456789:;<=>?@ABCDEFGHIJKLMNOPQRSTUVWXYZ[\\]^_`")) (asgR 1))
      (mSeq (mAsg (gOp oAdd (gVar 1) (gC (.str "abcdefghijklmnopqrstuvwxyz{|}~"))) (asgR 1))
      (mSeq (mAsg (gC (.str "")) (asgR 2))
      (mSeq (mFor (gItR1 (gaCons (gOp oIx (gLst (gaCons (gC (.int 0)) (gaCons (gC (.int 1)) (gaCons (gC (.int 1)) (gaCons (gC (.int 2)) (gaCons (gC (.int 3)) (gaCons (gC (.int 5)) gaNil))))))) (gCall drawC (gaCons (gVar 0) (gaCons (gC (.int 6)) gaNil)))) gaNil)) (asgR 3) (mAsg (gOp oAdd (gVar 2) (gOp oIx (gVar 1) (gCall drawC (gaCons (gVar 0) (gaCons (gC (.int 94)) gaNil))))) (asgR 2)))
      (mRetV 2)))))
/-- _law_lowest(n, d); 0 n, 1 d, 2 a, 3 b, 4 rest -/
noncomputable def f_law_lowest : List C → M C := fnU 2 3
    (mSeq (mAsg (gCall oAbs (gaCons (gVar 0) gaNil)) (asgR 2))
      (mSeq (mAsg (gCall oAbs (gaCons (gVar 1) gaNil)) (asgR 3))
      (mSeq (mWhile (fun ρ => fuelI (ρ[3]?)) (gTest (gOp oGt (gVar 3) (gC (.int 0)))) (mSeq (mAsg (gOp oMod (gCall oIntC (gaCons (gVar 2) gaNil)) (gVar 3)) (asgR 4))
      (mSeq (mAsg (gVar 3) (asgR 2))
      (mAsg (gVar 4) (asgR 3)))))
      (mSeq (mIf (gTest (gOp oLt (gVar 1) (gC (.int 0)))) (mAsg (gOp oSub (gC (.int 0)) (gVar 2)) (asgR 2)) mNext)
      (mRet (gTupE (gaCons (gOp oFdiv (gVar 0) (gVar 2)) (gaCons (gOp oFdiv (gVar 1) (gVar 2)) gaNil))))))))
/-- _law_number(tape); 0 tape, 1 n, 2 form -/
noncomputable def f_law_number : List C → M C := fnU 1 2
    (mSeq (mAsg (gOp oSub (gCall drawC (gaCons (gVar 0) (gaCons (gC (.int 14)) gaNil))) (gC (.int 3))) (asgR 1))
      (mSeq (mAsg (gCall drawC (gaCons (gVar 0) (gaCons (gC (.int 8)) gaNil))) (asgR 2))
      (mSeq (mIf (gTest (gOp oEq (gVar 2) (gC (.int 0)))) (mRet (gTupE (gaCons (gOp oMul (gVar 1) (gC (.int 1000000007))) (gaCons (gC (.int 1)) gaNil)))) mNext)
      (mSeq (mIf (gTest (gOp oEq (gVar 2) (gC (.int 1)))) (mRet (gFn f_law_lowest (gaCons (gOp oAdd (gOp oMul (gC (.int 2)) (gVar 1)) (gC (.int 1))) (gaCons (gC (.int 2)) gaNil)))) mNext)
      (mSeq (mIf (gTest (gOp oEq (gVar 2) (gC (.int 2)))) (mRet (gFn f_law_lowest (gaCons (gOp oSub (gCall drawC (gaCons (gVar 0) (gaCons (gC (.int 60)) gaNil))) (gC (.int 20))) (gaCons (gOp oAdd (gC (.int 1)) (gCall drawC (gaCons (gVar 0) (gaCons (gC (.int 12)) gaNil)))) gaNil)))) mNext)
      (mRet (gTupE (gaCons (gVar 1) (gaCons (gC (.int 1)) gaNil)))))))))
/-- _law_cell(tape, kind); 0 tape, 1 kind -/
noncomputable def f_law_cell : List C → M C := fnU 2 0
    (mSeq (mIf (gOr (gTest (gOp oEq (gVar 1) (gC (.str "number")))) (gTest (gOp oEq (gVar 1) (gC (.str "linear"))))) (mRet (gFn f_law_number (gaCons (gVar 0) gaNil))) mNext)
      (mSeq (mIf (gTest (gOp oEq (gVar 1) (gC (.str "boolean")))) (mRet (gOp oEq (gCall drawC (gaCons (gVar 0) (gaCons (gC (.int 2)) gaNil))) (gC (.int 1)))) mNext)
      (mRet (gOp oAdd (gOp oIx (gLst (gaCons (gC (.str "")) (gaCons (gC (.str "north")) (gaCons (gC (.str "a")) gaNil)))) (gCall drawC (gaCons (gVar 0) (gaCons (gC (.int 3)) gaNil)))) (gFn f_law_word (gaCons (gVar 0) gaNil))))))
/-- _law_cells(tape, kind, many); 0 tape, 1 kind, 2 many, 3 found, 4 k, 5 one -/
noncomputable def f_law_cells : List C → M C := fnU 3 3
    (mSeq (mAsg (gLst gaNil) (asgR 3))
      (mSeq (mFor (gItR1 (gaCons (gVar 2) gaNil)) (asgR 4) (mSeq (mAsg (gFn f_law_cell (gaCons (gVar 0) (gaCons (gVar 1) gaNil))) (asgR 5))
      (mIf (gTest (gOp oNotIn (gVar 5) (gVar 3))) (mApp 3 (gVar 5)) mNext)))
      (mRetV 3)))
/-- _law_columns(tape); 0 tape, 1 names, 2 kinds, 3 turn, 4 columns, 5 k -/
noncomputable def f_law_columns : List C → M C := fnU 1 5
    (mSeq (mAsg (gLst (gaCons (gC (.str "a")) (gaCons (gC (.str "total")) (gaCons (gC (.str "Region_2")) (gaCons (gC (.str "b")) (gaCons (gC (.str "a1")) gaNil)))))) (asgR 1))
      (mSeq (mAsg (gLst (gaCons (gC (.str "number")) (gaCons (gC (.str "text")) (gaCons (gC (.str "number")) (gaCons (gC (.str "boolean")) (gaCons (gC (.str "text")) gaNil)))))) (asgR 2))
      (mSeq (mAsg (gCall drawC (gaCons (gVar 0) (gaCons (gC (.int 5)) gaNil))) (asgR 3))
      (mSeq (mAsg (gLst (gaCons (gTupE (gaCons (gOp oIx (gVar 1) (gVar 3)) (gaCons (gC (.str "number")) gaNil))) gaNil)) (asgR 4))
      (mSeq (mFor (gItR2 (gaCons (gC (.int 1)) (gaCons (gOp oAdd (gC (.int 2)) (gCall drawC (gaCons (gVar 0) (gaCons (gC (.int 3)) gaNil)))) gaNil))) (asgR 5) (mApp 4 (gTupE (gaCons (gOp oIx (gVar 1) (gOp oMod (gCall oIntC (gaCons (gOp oAdd (gVar 3) (gVar 5)) gaNil)) (gC (.int 5)))) (gaCons (gOp oIx (gVar 2) (gCall drawC (gaCons (gVar 0) (gaCons (gC (.int 5)) gaNil)))) gaNil)))))
      (mRet (gCall oTupC (gaCons (gVar 4) gaNil))))))))
/-- _law_test(tape, columns); 0 tape, 1 columns, 2 column, 3 name, 4 form, 5 cell, 6 sign -/
noncomputable def f_law_test : List C → M C := fnU 2 5
    (mSeq (mAsg (gOp oIx (gVar 1) (gCall drawC (gaCons (gVar 0) (gaCons (gCall oLen (gaCons (gVar 1) gaNil)) gaNil)))) (asgR 2))
      (mSeq (mAsg (gTupE (gaCons (gC (.str "column")) (gaCons (gOp oIx (gVar 2) (gC (.int 0))) gaNil))) (asgR 3))
      (mSeq (mAsg (gCall drawC (gaCons (gVar 0) (gaCons (gC (.int 7)) gaNil))) (asgR 4))
      (mSeq (mAsg (gTupE (gaCons (gC (.str "cell")) (gaCons (gFn f_law_cell (gaCons (gVar 0) (gaCons (gOp oIx (gVar 2) (gC (.int 1))) gaNil))) gaNil))) (asgR 5))
      (mSeq (mIf (gTest (gOp oEq (gVar 4) (gC (.int 0)))) (mRet (gTupE (gaCons (gC (.str "missing")) (gaCons (gVar 3) gaNil)))) mNext)
      (mSeq (mIf (gTest (gOp oEq (gVar 4) (gC (.int 1)))) (mRet (gTupE (gaCons (gC (.str "in")) (gaCons (gVar 3) (gaCons (gCall oTupC (gaCons (gFn f_law_cells (gaCons (gVar 0) (gaCons (gOp oIx (gVar 2) (gC (.int 1))) (gaCons (gC (.int 3)) gaNil)))) gaNil)) gaNil))))) mNext)
      (mSeq (mIf (gAnd (gTest (gOp oEq (gVar 4) (gC (.int 2)))) (gTest (gOp oEq (gOp oIx (gVar 2) (gC (.int 1))) (gC (.str "boolean"))))) (mRetV 3) mNext)
      (mSeq (mAsg (gOp oIx (gLst (gaCons (gC (.str "=")) (gaCons (gC (.str "<>")) (gaCons (gC (.str "<")) (gaCons (gC (.str "<=")) (gaCons (gC (.str ">")) (gaCons (gC (.str ">=")) gaNil))))))) (gCall drawC (gaCons (gVar 0) (gaCons (gC (.int 6)) gaNil)))) (asgR 6))
      (mRet (gOp oIx (gLst (gaCons (gTupE (gaCons (gVar 6) (gaCons (gVar 3) (gaCons (gVar 5) gaNil)))) (gaCons (gTupE (gaCons (gVar 6) (gaCons (gVar 5) (gaCons (gVar 3) gaNil)))) gaNil))) (gCall drawC (gaCons (gVar 0) (gaCons (gC (.int 2)) gaNil)))))))))))))
/-- _law_is_test(expression); 0 expression -/
noncomputable def f_law_is_test : List C → M C := fnU 1 0
    (mSeq (mIf (gOr (gTest (gOp oEq (gOp oIx (gVar 0) (gC (.int 0))) (gC (.str "in")))) (gTest (gOp oEq (gOp oIx (gVar 0) (gC (.int 0))) (gC (.str "missing"))))) (mRet (gOp oEq (gOp oIx (gOp oIx (gVar 0) (gC (.int 1))) (gC (.int 0))) (gC (.str "column")))) mNext)
      (mSeq (mIf (gTest (gOp oIn (gOp oIx (gVar 0) (gC (.int 0))) (gLst (gaCons (gC (.str "=")) (gaCons (gC (.str "<>")) (gaCons (gC (.str "<")) (gaCons (gC (.str "<=")) (gaCons (gC (.str ">")) (gaCons (gC (.str ">=")) gaNil))))))))) (mRet (gOp oEq (gCall oSortS (gaCons (gLst (gaCons (gOp oIx (gOp oIx (gVar 0) (gC (.int 1))) (gC (.int 0))) (gaCons (gOp oIx (gOp oIx (gVar 0) (gC (.int 2))) (gC (.int 0))) gaNil))) gaNil)) (gLst (gaCons (gC (.str "cell")) (gaCons (gC (.str "column")) gaNil))))) mNext)
      (mRet (gOp oEq (gOp oIx (gVar 0) (gC (.int 0))) (gC (.str "column"))))))
/-- _law_tests(expression); 0 expression -/
noncomputable def f_law_tests : Nat → List C → M C
  | 0 => fun _ => .fail
  | n + 1 => fnU 1 0
    (mSeq (mIf (gTest (gOp oEq (gOp oIx (gVar 0) (gC (.int 0))) (gC (.str "not")))) (mRet (gFn (f_law_tests n) (gaCons (gOp oIx (gVar 0) (gC (.int 1))) gaNil))) mNext)
      (mSeq (mIf (gOr (gTest (gOp oEq (gOp oIx (gVar 0) (gC (.int 0))) (gC (.str "and")))) (gTest (gOp oEq (gOp oIx (gVar 0) (gC (.int 0))) (gC (.str "or"))))) (mRet (gOp oAdd (gFn (f_law_tests n) (gaCons (gOp oIx (gVar 0) (gC (.int 1))) gaNil)) (gFn (f_law_tests n) (gaCons (gOp oIx (gVar 0) (gC (.int 2))) gaNil)))) mNext)
      (mSeq (mIf (gTru (gFn f_law_is_test (gaCons (gVar 0) gaNil))) (mRet (gLst (gaCons (gVar 0) gaNil))) mNext)
      (mRet (gLst gaNil)))))
/-- _law_odd(tape, columns); 0 tape, 1 columns, 2 number, 3 column, 4 cell, 5 test, 6 odd -/
noncomputable def f_law_odd : List C → M C := fnU 2 5
    (mSeq (mAsg (gTupE (gaCons (gC (.str "column")) (gaCons (gOp oIx (gLc (gItV false 1) (asgR 3) (gTest (gOp oEq (gOp oIx (gVar 3) (gC (.int 1))) (gC (.str "number")))) (gOp oIx (gVar 3) (gC (.int 0))) [3]) (gC (.int 0))) gaNil))) (asgR 2))
      (mSeq (mAsg (gTupE (gaCons (gC (.str "cell")) (gaCons (gFn f_law_number (gaCons (gVar 0) gaNil)) gaNil))) (asgR 4))
      (mSeq (mAsg (gFn f_law_test (gaCons (gVar 0) (gaCons (gVar 1) gaNil))) (asgR 5))
      (mSeq (mAsg (gLst (gaCons (gTupE (gaCons (gC (.str "=")) (gaCons (gVar 2) (gaCons (gVar 2) gaNil)))) (gaCons (gTupE (gaCons (gC (.str "<")) (gaCons (gTupE (gaCons (gC (.str "+")) (gaCons (gVar 2) (gaCons (gVar 4) gaNil)))) (gaCons (gVar 4) gaNil)))) (gaCons (gTupE (gaCons (gC (.str ">=")) (gaCons (gVar 4) (gaCons (gVar 4) gaNil)))) (gaCons (gTupE (gaCons (gC (.str "missing")) (gaCons (gTupE (gaCons (gC (.str "minus")) (gaCons (gVar 2) gaNil))) gaNil))) gaNil))))) (asgR 6))
      (mSeq (mApp 6 (gTupE (gaCons (gC (.str "in")) (gaCons (gTupE (gaCons (gC (.str "abs")) (gaCons (gVar 2) gaNil))) (gaCons (gTupE (gaCons (gOp oIx (gVar 4) (gC (.int 1))) gaNil)) gaNil)))))
      (mSeq (mApp 6 (gTupE (gaCons (gC (.str "if")) (gaCons (gTupE (gaCons (gC (.str "cell")) (gaCons (gC (.bool true)) gaNil))) (gaCons (gVar 5) (gaCons (gTupE (gaCons (gC (.str "cell")) (gaCons (gC (.bool true)) gaNil))) gaNil))))))
      (mSeq (mApp 6 (gTupE (gaCons (gC (.str "<>")) (gaCons (gTupE (gaCons (gC (.str "text")) (gaCons (gVar 2) gaNil))) (gaCons (gTupE (gaCons (gC (.str "cell")) (gaCons (gC (.str "a")) gaNil))) gaNil)))))
      (mSeq (mApp 6 (gTupE (gaCons (gC (.str "=")) (gaCons (gVar 2) (gaCons (gTupE (gaCons (gC (.str "nothing")) (gaCons (gC (.str "number")) gaNil))) gaNil)))))
      (mSeq (mApp 6 (gTupE (gaCons (gC (.str "missing")) (gaCons (gVar 4) gaNil))))
      (mRet (gOp oIx (gVar 6) (gCall drawC (gaCons (gVar 0) (gaCons (gC (.int 9)) gaNil))))))))))))))
/-- _law_wild(tape, columns, depth, share); 0 tape, 1 columns, 2 depth, 3 share, 4 form, 5 left -/
noncomputable def f_law_wild : Nat → List C → M C
  | 0 => fun _ => .fail
  | n + 1 => fnU 4 2
    (mSeq (mAsg (gCall drawC (gaCons (gVar 0) (gaCons (gC (.int 7)) gaNil))) (asgR 4))
      (mSeq (mIf (gAnd (gTest (gOp oGt (gVar 2) (gC (.int 0)))) (gTest (gOp oEq (gVar 4) (gC (.int 0))))) (mRet (gTupE (gaCons (gC (.str "not")) (gaCons (gFn (f_law_wild n) (gaCons (gVar 0) (gaCons (gVar 1) (gaCons (gOp oSub (gVar 2) (gC (.int 1))) (gaCons (gVar 3) gaNil))))) gaNil)))) mNext)
      (mSeq (mIf (gAnd (gTest (gOp oGt (gVar 2) (gC (.int 0)))) (gTest (gOp oLt (gVar 4) (gC (.int 4))))) (mSeq (mAsg (gFn (f_law_wild n) (gaCons (gVar 0) (gaCons (gVar 1) (gaCons (gOp oSub (gVar 2) (gC (.int 1))) (gaCons (gVar 3) gaNil))))) (asgR 5))
      (mRet (gTupE (gaCons (gOp oIx (gLst (gaCons (gC (.str "and")) (gaCons (gC (.str "or")) (gaCons (gC (.str "and")) gaNil)))) (gOp oSub (gVar 4) (gC (.int 1)))) (gaCons (gVar 5) (gaCons (gFn (f_law_wild n) (gaCons (gVar 0) (gaCons (gVar 1) (gaCons (gOp oSub (gVar 2) (gC (.int 1))) (gaCons (gVar 3) gaNil))))) gaNil)))))) mNext)
      (mSeq (mIf (gTest (gOp oEq (gVar 4) (gC (.int 6)))) (mRet (gOp oIx (gLst (gaCons (gTupE (gaCons (gC (.str "cell")) (gaCons (gC (.bool true)) gaNil))) (gaCons (gTupE (gaCons (gC (.str "cell")) (gaCons (gC (.bool false)) gaNil))) (gaCons (gTupE (gaCons (gC (.str "nothing")) (gaCons (gC (.str "boolean")) gaNil))) gaNil)))) (gCall drawC (gaCons (gVar 0) (gaCons (gC (.int 3)) gaNil))))) mNext)
      (mSeq (mIf (gTest (gOp oLt (gCall drawC (gaCons (gVar 0) (gaCons (gC (.int 5)) gaNil))) (gVar 3))) (mRet (gFn f_law_odd (gaCons (gVar 0) (gaCons (gVar 1) gaNil)))) mNext)
      (mRet (gFn f_law_test (gaCons (gVar 0) (gaCons (gVar 1) gaNil)))))))))
/-- _law_is_formula(expression); 0 expression -/
noncomputable def f_law_is_formula : Nat → List C → M C
  | 0 => fun _ => .fail
  | n + 1 => fnU 1 0
    (mSeq (mIf (gTest (gOp oEq (gOp oIx (gVar 0) (gC (.int 0))) (gC (.str "not")))) (mRet (gFn (f_law_is_formula n) (gaCons (gOp oIx (gVar 0) (gC (.int 1))) gaNil))) mNext)
      (mSeq (mIf (gOr (gTest (gOp oEq (gOp oIx (gVar 0) (gC (.int 0))) (gC (.str "and")))) (gTest (gOp oEq (gOp oIx (gVar 0) (gC (.int 0))) (gC (.str "or"))))) (mRet (gAndT (gFn (f_law_is_formula n) (gaCons (gOp oIx (gVar 0) (gC (.int 1))) gaNil)) (gFn (f_law_is_formula n) (gaCons (gOp oIx (gVar 0) (gC (.int 2))) gaNil)))) mNext)
      (mRet (gOrT (gOp oEq (gOp oIx (gVar 0) (gC (.int 0))) (gC (.str "cell"))) (gOrT (gOp oEq (gOp oIx (gVar 0) (gC (.int 0))) (gC (.str "nothing"))) (gFn f_law_is_test (gaCons (gVar 0) gaNil)))))))
/-- law; 0 script, 1 tape, 2 columns, 3 share, 4 told, 5 k, 6 expression, 7 due, 8 both -/
noncomputable def m_law : Ro → M Res :=
    (mSeq (mAsg (gFn f_law_columns (gaCons (gVar 1) gaNil)) (asgR 2))
      (mSeq (mAsg (gOp oIx (gLst (gaCons (gC (.int 0)) (gaCons (gC (.int 2)) gaNil))) (gCall drawC (gaCons (gVar 1) (gaCons (gC (.int 2)) gaNil)))) (asgR 3))
      (mSeq (mAsg (gLst gaNil) (asgR 4))
      (mSeq (mFor (gItR1 (gaCons (gC (.int 2)) gaNil)) (asgR 5) (mSeq (mAsg (gFn (f_law_wild 3) (gaCons (gVar 1) (gaCons (gVar 2) (gaCons (gC (.int 1)) (gaCons (gVar 3) gaNil))))) (asgR 6))
      (mSeq (mAsg (gFn (f_law_is_formula 5) (gaCons (gVar 6) gaNil)) (asgR 7))
      (mSeq (mIf (gTest (gOp oNe (gCall oRepr (gaCons (gFn (f_is_formula 5) (gaCons (gVar 6) gaNil)) gaNil)) (gCall oRepr (gaCons (gVar 7) gaNil)))) (mRet (gC (.bool false))) mNext)
      (mSeq (mIf (gAnd (gTru (gVar 7)) (gTest (gOp oNe (gCall oRepr (gaCons (gFn (f_tests_of 5) (gaCons (gVar 6) gaNil)) gaNil)) (gCall oRepr (gaCons (gCall oTupC (gaCons (gFn (f_law_tests 5) (gaCons (gVar 6) gaNil)) gaNil)) gaNil))))) (mRet (gC (.bool false))) mNext)
      (mAsg (gOp oAdd (gVar 4) (gLst (gaCons (gTupE (gaCons (gVar 6) (gaCons (gVar 7) gaNil))) gaNil))) (asgR 4)))))))
      (mSeq (mIf (gAnd (gTru (gOp oIx (gOp oIx (gVar 4) (gC (.int 0))) (gC (.int 1)))) (gTru (gOp oIx (gOp oIx (gVar 4) (gC (.int 1))) (gC (.int 1))))) (mSeq (mAsg (gTupE (gaCons (gOp oIx (gLst (gaCons (gC (.str "and")) (gaCons (gC (.str "or")) gaNil))) (gCall drawC (gaCons (gVar 1) (gaCons (gC (.int 2)) gaNil)))) (gaCons (gOp oIx (gOp oIx (gVar 4) (gC (.int 0))) (gC (.int 0))) (gaCons (gOp oIx (gOp oIx (gVar 4) (gC (.int 1))) (gC (.int 0))) gaNil)))) (asgR 8))
      (mRet (gAndT (gOp (oIsX false) (gFn (f_is_formula 5) (gaCons (gVar 8) gaNil)) (gC (.bool true))) (gOp oEq (gCall oRepr (gaCons (gFn (f_tests_of 5) (gaCons (gVar 8) gaNil)) gaNil)) (gCall oRepr (gaCons (gOp oAdd (gFn (f_tests_of 5) (gaCons (gOp oIx (gOp oIx (gVar 4) (gC (.int 0))) (gC (.int 0))) gaNil)) (gFn (f_tests_of 5) (gaCons (gOp oIx (gOp oIx (gVar 4) (gC (.int 1))) (gC (.int 0))) gaNil))) gaNil)))))) mNext)
      (mRet (gC (.bool true))))))))

section
variable {P : Program} {w : World} {K : PySem.W.Frag} {mg : Str → Option Value} {base : Heap}
theorem df_parts_of (M : Blt mg) (A : At K mg "parts_of" s_parts_of) : Df P w K mg base 1 "parts_of" ["expression"] (spU K f_parts_of) := by
  have nd := sc_parts_of.nd
  exact Df.uni A (fun _ _ _ _ _ _ us hl => match us, hl with | [_], _ => rfl) sc_parts_of rfl (fun cdv A out f s H E hr hgd => ⟨_, (pss_cons (ps_set (i := 1) nd rfl (Or.inl rfl) (pe_ix (ixU K) (pv 0) pe_int (fun _ _ => rfl)))
      (pss_cons (ps_if (pt_cmpR (opIn K (u65 hr)) (pv 1) (pe_tup (pa_cons pe_str (pa_cons pe_str (pa_cons pe_str pa_nil)))) rfl) (pss_one (ps_ret (pe_tup pa_nil))) pss_nil)
      (pss_one (ps_ret (pe_ifExp (pt_cmpR (opEq K hr.units) (pv 1) pe_str (nomark _)) (pe_slice (slU K) (pv 0) (po_some pe_int) (po_some pe_int)) (pe_slice (slU K) (pv 0) (po_some pe_int) po_none)))))),
    (rs_seq (rs_asg (re_op os_ix (re_var (i := 0)) re_int) (rg_name (i := 1)))
      (rs_seq (rs_if (rt_test (re_op os_in (re_var (i := 1)) (re_tup (ra_cons re_str (ra_cons re_str (ra_cons re_str ra_nil)))))) (rs_ret (re_tup ra_nil)) rs_next)
      (rs_ret (re_if (rt_test (re_op os_eq (re_var (i := 1)) re_str)) (re_sl (re_var (i := 0)) (ro_some re_int) (ro_some re_int)) (re_sl (re_var (i := 0)) (ro_some re_int) ro_no)))))⟩)
theorem df_is_constant (M : Blt mg) (A : At K mg "is_constant" s_is_constant) : Df P w K mg base 1 "is_constant" ["expression"] (spU K f_is_constant) := by
  have nd := sc_is_constant.nd
  exact Df.uni A (fun _ _ _ _ _ _ us hl => match us, hl with | [_], _ => rfl) sc_is_constant rfl (fun cdv A out f s H E hr hgd => ⟨_, (pss_one (ps_ret (pe_cmpR (opIn K (u65 hr)) (pe_ix (ixU K) (pv 0) pe_int (fun _ _ => rfl)) (pe_tup (pa_cons pe_str (pa_cons pe_str pa_nil))) rfl))),
    (rs_ret (re_op os_in (re_op os_ix (re_var (i := 0)) re_int) (re_tup (ra_cons re_str (ra_cons re_str ra_nil)))))⟩)
theorem df_tests_of (M : Blt mg) (A : At K mg "tests_of" s_tests_of) (G : FmT K w mg) (D_is_constant : Df P w K mg base 1 "is_constant" ["expression"] (spU K f_is_constant)) (D_parts_of : Df P w K mg base 1 "parts_of" ["expression"] (spU K f_parts_of)) : ∀ n : Nat, Df P w K mg base (2 + n) "tests_of" ["formula"] (spU K (f_tests_of n))
  | 0 => by
    exact Df.rec0 A (fun _ _ _ _ _ _ us hl => match us, hl with | [_], _ => rfl) sc_tests_of
  | n + 1 => by
    have nd := sc_tests_of.nd
    have D_tests_of := df_tests_of M A G D_is_constant D_parts_of n
    exact Df.uni (k := 2 + n) A (fun _ _ _ _ _ _ us hl => match us, hl with | [_], _ => rfl) sc_tests_of rfl (fun cdv A out f s H E hr hgd => ⟨_, (pss_cons (ps_if (pt_cmpR (opIn K (u65 hr)) (pe_ix (ixU K) (pv 0) pe_int (fun _ _ => rfl)) (pe_ktup rfl (Classical.choose_spec G.tup).1) rfl) (pss_one (ps_ret (pe_callTy (tupK K) (by rfl) M.tuple (by decide +kernel) (pa_cons (pe_lc2 (own := [("part", 1), ("test", 2)]) (vs1 := [2]) (g := (gName 1)) (g1 := (gName 2)) (tt := tYes) (tt1 := tYes) rfl nd (pi_seq K (pe_df D_parts_of (hr.mono (by omega)) hgd rfl (pa_cons (pv 0) pa_nil))) (blkOk_by (N := ["formula", "part", "test"]) (sc := (defScope s_tests_of)) (by decide +kernel)) (by decide) (fun _ _ _ _ _ => (pg_name (i := 1) nd rfl (Or.inl rfl))) (fun _ _ _ _ _ => pts_nil) (fun _ _ _ _ _ => (pi_seq K (pe_df D_tests_of (hr.mono (by omega)) hgd rfl (pa_cons (pv 1) pa_nil)))) (fun _ _ _ _ _ => (pg_name (i := 2) nd rfl (Or.inl rfl))) (fun _ _ _ _ _ => pts_nil) (fun _ _ _ _ _ => (pv 2))) pa_nil)))) pss_nil)
      (pss_one (ps_ret (pe_ifExp (truK K (pe_df D_is_constant (hr.mono (by omega)) hgd rfl (pa_cons (pv 0) pa_nil))) (pe_tup pa_nil) (pe_tup (pa_cons (pv 0) pa_nil)))))),
    (rs_seq (rs_if (rt_test (re_inK (Classical.choose_spec G.tup).2 (re_op os_ix (re_var (i := 0)) re_int))) (rs_ret (re_call cs_tuple (ra_cons (re_lc2 (s := false) (ri_seq (s := false) (re_fn (ra_cons (re_var (i := 0)) ra_nil))) (rg_name (i := 1)) rt_yes ov_name (rii_seq (re_fn (ra_cons (re_var (i := 1)) ra_nil))) (rg_name (i := 2)) rt_yes (re_var (i := 2)) (by decide) (by decide)) ra_nil))) rs_next)
      (rs_ret (re_if (rt_tru (re_fn (ra_cons (re_var (i := 0)) ra_nil))) (re_tup ra_nil) (re_tup (ra_cons (re_var (i := 0)) ra_nil)))))⟩)
theorem df_is_test (M : Blt mg) (A : At K mg "is_test" s_is_test) (G : FmT K w mg) : Df P w K mg base 1 "is_test" ["expression"] (spU K f_is_test) := by
  have nd := sc_is_test.nd
  exact Df.uni A (fun _ _ _ _ _ _ us hl => match us, hl with | [_], _ => rfl) sc_is_test rfl (fun cdv A out f s H E hr hgd => ⟨_, (pss_cons (ps_set (i := 1) nd rfl (Or.inl rfl) (pe_ix (ixU K) (pv 0) pe_int (fun _ _ => rfl)))
      (pss_cons (ps_if (pt_cmpR (opInKd K (Classical.choose_spec G.dic).2.choose_spec.choose_spec.1) (pv 1) (pe_glob (v := .ref (Classical.choose G.dic)) rfl (Classical.choose_spec G.dic).1 rfl) rfl) (pss_one (ps_ret (pe_cmpR (opEq K hr.units) (pe_callB (callSortS K) (by rfl) M.sorted (by decide +kernel) (pa_cons (pe_lc (own := [("part", 2)]) (g := (gName 2)) (tt := tYes) rfl nd (pi_seq K (pe_slice (slU K) (pv 0) (po_some pe_int) po_none)) (blkOk_by (N := ["expression", "word", "part"]) (sc := (defScope s_is_test)) (by decide +kernel)) (fun _ _ _ _ _ => (pg_name (i := 2) nd rfl (Or.inl rfl))) (fun _ _ _ _ _ => pts_nil) (fun _ _ _ _ _ => (pe_ix (ixU K) (pv 2) pe_int (fun _ _ => rfl)))) pa_nil)) (pe_lst (pa_cons pe_str (pa_cons pe_str pa_nil))) (nomark _)))) pss_nil)
      (pss_one (ps_ret (orT K (pe_cmpR (opEq K hr.units) (pv 1) pe_str (nomark _)) (pe_one (andT K (pe_cmpR (opIn K (u65 hr)) (pv 1) (pe_tup (pa_cons pe_str (pa_cons pe_str pa_nil))) rfl) (pe_one (pe_cmpR (opEq K hr.units) (pe_ix (ixU K) (pe_ix (ixU K) (pv 0) pe_int (fun _ _ => rfl)) pe_int (fun _ _ => rfl)) pe_str (nomark _)))))))))),
    (rs_seq (rs_asg (re_op os_ix (re_var (i := 0)) re_int) (rg_name (i := 1)))
      (rs_seq (rs_if (rt_test (re_inKd (Classical.choose_spec G.dic).2.choose_spec.choose_spec.2 (re_var (i := 1)))) (rs_ret (re_op os_eq (re_call cs_sortS (ra_cons (re_lc (s := false) (ri_seq (s := false) (re_sl (re_var (i := 0)) (ro_some re_int) ro_no)) (rg_name (i := 2)) rt_yes (re_op os_ix (re_var (i := 2)) re_int) (by decide)) ra_nil)) (re_lst (ra_cons re_str (ra_cons re_str ra_nil))))) rs_next)
      (rs_ret (re_or (re_op os_eq (re_var (i := 1)) re_str) (re_and (re_op os_in (re_var (i := 1)) (re_tup (ra_cons re_str (ra_cons re_str ra_nil)))) (re_op os_eq (re_op os_ix (re_op os_ix (re_var (i := 0)) re_int) re_int) re_str))))))⟩)
end
section
variable {P : Program} {w : World} {K : PySem.W.Frag} {mg : Str → Option Value} {base : Heap}
theorem df_is_formula (M : Blt mg) (A : At K mg "is_formula" s_is_formula) (G : FmT K w mg) (D_is_constant : Df P w K mg base 1 "is_constant" ["expression"] (spU K f_is_constant)) (D_is_test : Df P w K mg base 1 "is_test" ["expression"] (spU K f_is_test)) (D_parts_of : Df P w K mg base 1 "parts_of" ["expression"] (spU K f_parts_of)) : ∀ n : Nat, Df P w K mg base (2 + n) "is_formula" ["expression"] (spU K (f_is_formula n))
  | 0 => by
    exact Df.rec0 A (fun _ _ _ _ _ _ us hl => match us, hl with | [_], _ => rfl) sc_is_formula
  | n + 1 => by
    have nd := sc_is_formula.nd
    have D_is_formula := df_is_formula M A G D_is_constant D_is_test D_parts_of n
    exact Df.uni (k := 2 + n) A (fun _ _ _ _ _ _ us hl => match us, hl with | [_], _ => rfl) sc_is_formula rfl (fun cdv A out f s H E hr hgd => ⟨_, (pss_cons (ps_if (pt_cmpR (opIn K (u65 hr)) (pe_ix (ixU K) (pv 0) pe_int (fun _ _ => rfl)) (pe_ktup rfl (Classical.choose_spec G.tup).1) rfl) (pss_one (ps_ret (pe_callB (allK K rfl) (by rfl) M.all (by decide +kernel) (pa_cons (pe_lc (own := [("part", 1)]) (g := (gName 1)) (tt := tYes) rfl nd (pi_seq K (pe_df D_parts_of (hr.mono (by omega)) hgd rfl (pa_cons (pv 0) pa_nil))) (blkOk_by (N := ["expression", "part"]) (sc := (defScope s_is_formula)) (by decide +kernel)) (fun _ _ _ _ _ => (pg_name (i := 1) nd rfl (Or.inl rfl))) (fun _ _ _ _ _ => pts_nil) (fun _ _ _ _ _ => (pe_df D_is_formula (hr.mono (by omega)) hgd rfl (pa_cons (pv 1) pa_nil)))) pa_nil)))) pss_nil)
      (pss_one (ps_ret (orT K (pe_df D_is_constant (hr.mono (by omega)) hgd rfl (pa_cons (pv 0) pa_nil)) (pe_one (pe_df D_is_test (hr.mono (by omega)) hgd rfl (pa_cons (pv 0) pa_nil))))))),
    (rs_seq (rs_if (rt_test (re_inK (Classical.choose_spec G.tup).2 (re_op os_ix (re_var (i := 0)) re_int))) (rs_ret (re_call cs_all (ra_cons (re_lc (s := false) (ri_seq (s := false) (re_fn (ra_cons (re_var (i := 0)) ra_nil))) (rg_name (i := 1)) rt_yes (re_fn (ra_cons (re_var (i := 1)) ra_nil)) (by decide)) ra_nil))) rs_next)
      (rs_ret (re_or (re_fn (ra_cons (re_var (i := 0)) ra_nil)) (re_fn (ra_cons (re_var (i := 0)) ra_nil)))))⟩)
theorem df_law_word (M : Blt mg) (A : At K mg "_law_word" s_law_word) (D_law_draw : Df P w K mg base 1 "_law_draw" ["tape", "many"] (sp_law_draw K)) : Df P w K mg base 2 "_law_word" ["tape"] (spU K f_law_word) := by
  have nd := sc_law_word.nd
  exact Df.uni A (fun _ _ _ _ _ _ us hl => match us, hl with | [_], _ => rfl) sc_law_word rfl (fun cdv A out f s H E hr hgd => ⟨_, (pss_cons (ps_set (i := 1) nd rfl (Or.inl rfl) pe_str)
      (pss_cons (ps_set (i := 1) nd rfl (Or.inl rfl) (pe_op (opAdd K) (pv 1) pe_str))
      (pss_cons (ps_set (i := 2) nd rfl (Or.inl rfl) pe_str)
      (pss_cons (ps_for PassesOwn.never rfl (pi_range1 rfl M.range (pa_cons (pe_ix (ixU K) (pe_lst (pa_cons pe_int (pa_cons pe_int (pa_cons pe_int (pa_cons pe_int (pa_cons pe_int (pa_cons pe_int pa_nil))))))) (pe_df D_law_draw (hr.mono (by decide)) hgd rfl (pa_cons (pv 0) (pa_cons pe_int pa_nil))) (fun _ _ => rfl)) pa_nil)) (pg_name (i := 3) nd rfl (Or.inl rfl)) (pss_one (ps_set (i := 2) nd rfl (Or.inl rfl) (pe_op (opAdd K) (pv 2) (pe_ix (ixU K) (pv 1) (pe_df D_law_draw (hr.mono (by decide)) hgd rfl (pa_cons (pv 0) (pa_cons pe_int pa_nil))) (fun _ _ => rfl))))))
      (pss_one (ps_ret (pv 2))))))),
    (rs_seq (rs_asg re_str (rg_name (i := 1)))
      (rs_seq (rs_asg (re_op os_add (re_var (i := 1)) re_str) (rg_name (i := 1)))
      (rs_seq (rs_asg re_str (rg_name (i := 2)))
      (rs_seq (rs_for (ri_rng1 (s := true) (ra_cons (re_op os_ix (re_lst (ra_cons re_int (ra_cons re_int (ra_cons re_int (ra_cons re_int (ra_cons re_int (ra_cons re_int ra_nil))))))) (re_draw (ra_cons (re_var (i := 0)) (ra_cons re_int ra_nil)))) ra_nil)) (rg_name (i := 3)) (rs_asg (re_op os_add (re_var (i := 2)) (re_op os_ix (re_var (i := 1)) (re_draw (ra_cons (re_var (i := 0)) (ra_cons re_int ra_nil))))) (rg_name (i := 2))))
      (rs_retV (i := 2))))))⟩)
theorem df_law_lowest (M : Blt mg) (A : At K mg "_law_lowest" s_law_lowest) : Df P w K mg base 1 "_law_lowest" ["n", "d"] (spU K f_law_lowest) := by
  have nd := sc_law_lowest.nd
  exact Df.uni A (fun _ _ _ _ _ _ us hl => match us, hl with | [_, _], _ => rfl) sc_law_lowest rfl (fun cdv A out f s H E hr hgd => ⟨_, (pss_cons (ps_set (i := 2) nd rfl (Or.inl rfl) (pe_callB call_abs (by rfl) M.abs (by decide +kernel) (pa_cons (pv 0) pa_nil)))
      (pss_cons (ps_set (i := 3) nd rfl (Or.inl rfl) (pe_callB call_abs (by rfl) M.abs (by decide +kernel) (pa_cons (pv 1) pa_nil)))
      (pss_cons (ps_while PassesOwn.never (pt_cmpR op_gt (pv 3) pe_int (nomark _)) (pss_cons (ps_set (i := 4) nd rfl (Or.inl rfl) (pe_op op_mod (pe_callTy call_int1 (by rfl) M.int (by decide +kernel) (pa_cons (pv 2) pa_nil)) (pv 3)))
      (pss_cons (ps_set (i := 2) nd rfl (Or.inl rfl) (pv 3))
      (pss_one (ps_set (i := 3) nd rfl (Or.inl rfl) (pv 4))))))
      (pss_cons (ps_if (pt_cmpR op_lt (pv 1) pe_int (nomark _)) (pss_one (ps_set (i := 2) nd rfl (Or.inl rfl) (pe_op op_sub pe_int (pv 2)))) pss_nil)
      (pss_one (ps_ret (pe_tup (pa_cons (pe_op op_fdivW (pv 0) (pv 2)) (pa_cons (pe_op op_fdivW (pv 1) (pv 2)) pa_nil))))))))),
    (rs_seq (rs_asg (re_call cs_abs (ra_cons (re_var (i := 0)) ra_nil)) (rg_name (i := 2)))
      (rs_seq (rs_asg (re_call cs_abs (ra_cons (re_var (i := 1)) ra_nil)) (rg_name (i := 3)))
      (rs_seq (rs_while (rt_test (re_op os_cmp0 (re_var (i := 3)) re_int)) (rs_seq (rs_asg (re_op os_mod (re_call cs_int (ra_cons (re_var (i := 2)) ra_nil)) (re_var (i := 3))) (rg_name (i := 4)))
      (rs_seq (rs_asg (re_var (i := 3)) (rg_name (i := 2)))
      (rs_asg (re_var (i := 4)) (rg_name (i := 3))))))
      (rs_seq (rs_if (rt_test (re_op os_cmp0 (re_var (i := 1)) re_int)) (rs_asg (re_op os_sub re_int (re_var (i := 2))) (rg_name (i := 2))) rs_next)
      (rs_ret (re_tup (ra_cons (re_op os_fdiv (re_var (i := 0)) (re_var (i := 2))) (ra_cons (re_op os_fdiv (re_var (i := 1)) (re_var (i := 2))) ra_nil))))))))⟩)
theorem df_law_number (M : Blt mg) (A : At K mg "_law_number" s_law_number) (D_law_draw : Df P w K mg base 1 "_law_draw" ["tape", "many"] (sp_law_draw K)) (D_law_lowest : Df P w K mg base 1 "_law_lowest" ["n", "d"] (spU K f_law_lowest)) : Df P w K mg base 2 "_law_number" ["tape"] (spU K f_law_number) := by
  have nd := sc_law_number.nd
  exact Df.uni A (fun _ _ _ _ _ _ us hl => match us, hl with | [_], _ => rfl) sc_law_number rfl (fun cdv A out f s H E hr hgd => ⟨_, (pss_cons (ps_set (i := 1) nd rfl (Or.inl rfl) (pe_op op_sub (pe_df D_law_draw (hr.mono (by decide)) hgd rfl (pa_cons (pv 0) (pa_cons pe_int pa_nil))) pe_int))
      (pss_cons (ps_set (i := 2) nd rfl (Or.inl rfl) (pe_df D_law_draw (hr.mono (by decide)) hgd rfl (pa_cons (pv 0) (pa_cons pe_int pa_nil))))
      (pss_cons (ps_if (pt_cmpR (opEq K hr.units) (pv 2) pe_int (nomark _)) (pss_one (ps_ret (pe_tup (pa_cons (pe_op (opMul K) (pv 1) pe_int) (pa_cons pe_int pa_nil))))) pss_nil)
      (pss_cons (ps_if (pt_cmpR (opEq K hr.units) (pv 2) pe_int (nomark _)) (pss_one (ps_ret (pe_df D_law_lowest (hr.mono (by decide)) hgd rfl (pa_cons (pe_op (opAdd K) (pe_op (opMul K) pe_int (pv 1)) pe_int) (pa_cons pe_int pa_nil))))) pss_nil)
      (pss_cons (ps_if (pt_cmpR (opEq K hr.units) (pv 2) pe_int (nomark _)) (pss_one (ps_ret (pe_df D_law_lowest (hr.mono (by decide)) hgd rfl (pa_cons (pe_op op_sub (pe_df D_law_draw (hr.mono (by decide)) hgd rfl (pa_cons (pv 0) (pa_cons pe_int pa_nil))) pe_int) (pa_cons (pe_op (opAdd K) pe_int (pe_df D_law_draw (hr.mono (by decide)) hgd rfl (pa_cons (pv 0) (pa_cons pe_int pa_nil)))) pa_nil))))) pss_nil)
      (pss_one (ps_ret (pe_tup (pa_cons (pv 1) (pa_cons pe_int pa_nil)))))))))),
    (rs_seq (rs_asg (re_op os_sub (re_draw (ra_cons (re_var (i := 0)) (ra_cons re_int ra_nil))) re_int) (rg_name (i := 1)))
      (rs_seq (rs_asg (re_draw (ra_cons (re_var (i := 0)) (ra_cons re_int ra_nil))) (rg_name (i := 2)))
      (rs_seq (rs_if (rt_test (re_op os_eq (re_var (i := 2)) re_int)) (rs_ret (re_tup (ra_cons (re_op os_mul (re_var (i := 1)) re_int) (ra_cons re_int ra_nil)))) rs_next)
      (rs_seq (rs_if (rt_test (re_op os_eq (re_var (i := 2)) re_int)) (rs_ret (re_fn (ra_cons (re_op os_add (re_op os_mul re_int (re_var (i := 1))) re_int) (ra_cons re_int ra_nil)))) rs_next)
      (rs_seq (rs_if (rt_test (re_op os_eq (re_var (i := 2)) re_int)) (rs_ret (re_fn (ra_cons (re_op os_sub (re_draw (ra_cons (re_var (i := 0)) (ra_cons re_int ra_nil))) re_int) (ra_cons (re_op os_add re_int (re_draw (ra_cons (re_var (i := 0)) (ra_cons re_int ra_nil)))) ra_nil)))) rs_next)
      (rs_ret (re_tup (ra_cons (re_var (i := 1)) (ra_cons re_int ra_nil)))))))))⟩)
end
section
variable {P : Program} {w : World} {K : PySem.W.Frag} {mg : Str → Option Value} {base : Heap}
theorem df_law_cell (M : Blt mg) (A : At K mg "_law_cell" s_law_cell) (D_law_number : Df P w K mg base 2 "_law_number" ["tape"] (spU K f_law_number)) (D_law_word : Df P w K mg base 2 "_law_word" ["tape"] (spU K f_law_word)) (D_law_draw : Df P w K mg base 1 "_law_draw" ["tape", "many"] (sp_law_draw K)) : Df P w K mg base 3 "_law_cell" ["tape", "kind"] (spU K f_law_cell) := by
  have nd := sc_law_cell.nd
  exact Df.uni A (fun _ _ _ _ _ _ us hl => match us, hl with | [_, _], _ => rfl) sc_law_cell rfl (fun cdv A out f s H E hr hgd => ⟨_, (pss_cons (ps_if (PW.pt (pw_or (pt_cmpR (opEq K hr.units) (pv 1) pe_str (nomark _)) (pw_or1 (pt_cmpR (opEq K hr.units) (pv 1) pe_str (nomark _))))) (pss_one (ps_ret (pe_df D_law_number (hr.mono (by decide)) hgd rfl (pa_cons (pv 0) pa_nil)))) pss_nil)
      (pss_cons (ps_if (pt_cmpR (opEq K hr.units) (pv 1) pe_str (nomark _)) (pss_one (ps_ret (pe_cmpR (opEq K hr.units) (pe_df D_law_draw (hr.mono (by decide)) hgd rfl (pa_cons (pv 0) (pa_cons pe_int pa_nil))) pe_int (nomark _)))) pss_nil)
      (pss_one (ps_ret (pe_op (opAdd K) (pe_ix (ixU K) (pe_lst (pa_cons pe_str (pa_cons pe_str (pa_cons pe_str pa_nil)))) (pe_df D_law_draw (hr.mono (by decide)) hgd rfl (pa_cons (pv 0) (pa_cons pe_int pa_nil))) (fun _ _ => rfl)) (pe_df D_law_word (hr.mono (by decide)) hgd rfl (pa_cons (pv 0) pa_nil))))))),
    (rs_seq (rs_if (rt_or (rt_test (re_op os_eq (re_var (i := 1)) re_str)) (rt_test (re_op os_eq (re_var (i := 1)) re_str))) (rs_ret (re_fn (ra_cons (re_var (i := 0)) ra_nil))) rs_next)
      (rs_seq (rs_if (rt_test (re_op os_eq (re_var (i := 1)) re_str)) (rs_ret (re_op os_eq (re_draw (ra_cons (re_var (i := 0)) (ra_cons re_int ra_nil))) re_int)) rs_next)
      (rs_ret (re_op os_add (re_op os_ix (re_lst (ra_cons re_str (ra_cons re_str (ra_cons re_str ra_nil)))) (re_draw (ra_cons (re_var (i := 0)) (ra_cons re_int ra_nil)))) (re_fn (ra_cons (re_var (i := 0)) ra_nil))))))⟩)
theorem df_law_cells (M : Blt mg) (A : At K mg "_law_cells" s_law_cells) (D_law_cell : Df P w K mg base 3 "_law_cell" ["tape", "kind"] (spU K f_law_cell)) : Df P w K mg base 4 "_law_cells" ["tape", "kind", "many"] (spU K f_law_cells) := by
  have nd := sc_law_cells.nd
  exact Df.uni A (fun _ _ _ _ _ _ us hl => match us, hl with | [_, _, _], _ => rfl) sc_law_cells rfl (fun cdv A out f s H E hr hgd => ⟨_, (pss_cons (ps_set (i := 3) nd rfl (Or.inl rfl) (pe_lst pa_nil))
      (pss_cons (ps_for PassesOwn.never rfl (pi_range1 rfl M.range (pa_cons (pv 2) pa_nil)) (pg_name (i := 4) nd rfl (Or.inl rfl)) (pss_cons (ps_set (i := 5) nd rfl (Or.inl rfl) (pe_df D_law_cell (hr.mono (by decide)) hgd rfl (pa_cons (pv 0) (pa_cons (pv 1) pa_nil))))
      (pss_one (ps_if (pt_cmpR (opNotIn K (u65 hr)) (pv 5) (pv 3) rfl) (pss_one (ps_expr (pe_bm PySem.F.plainAttrs_list PySem.F.slot_list_append PySem.F.type_list_append mt_append (pv 3) (pa_cons (pv 5) pa_nil)))) pss_nil))))
      (pss_one (ps_ret (pv 3))))),
    (rs_seq (rs_asg (re_lst ra_nil) (rg_name (i := 3)))
      (rs_seq (rs_for (ri_rng1 (s := true) (ra_cons (re_var (i := 2)) ra_nil)) (rg_name (i := 4)) (rs_seq (rs_asg (re_fn (ra_cons (re_var (i := 0)) (ra_cons (re_var (i := 1)) ra_nil))) (rg_name (i := 5)))
      (rs_if (rt_test (re_op os_notin (re_var (i := 5)) (re_var (i := 3)))) (rs_app (i := 3) (re_var (i := 5))) rs_next)))
      (rs_retV (i := 3))))⟩)
theorem df_law_columns (M : Blt mg) (A : At K mg "_law_columns" s_law_columns) (D_law_draw : Df P w K mg base 1 "_law_draw" ["tape", "many"] (sp_law_draw K)) : Df P w K mg base 2 "_law_columns" ["tape"] (spU K f_law_columns) := by
  have nd := sc_law_columns.nd
  exact Df.uni A (fun _ _ _ _ _ _ us hl => match us, hl with | [_], _ => rfl) sc_law_columns rfl (fun cdv A out f s H E hr hgd => ⟨_, (pss_cons (ps_set (i := 1) nd rfl (Or.inl rfl) (pe_lst (pa_cons pe_str (pa_cons pe_str (pa_cons pe_str (pa_cons pe_str (pa_cons pe_str pa_nil)))))))
      (pss_cons (ps_set (i := 2) nd rfl (Or.inl rfl) (pe_lst (pa_cons pe_str (pa_cons pe_str (pa_cons pe_str (pa_cons pe_str (pa_cons pe_str pa_nil)))))))
      (pss_cons (ps_set (i := 3) nd rfl (Or.inl rfl) (pe_df D_law_draw (hr.mono (by decide)) hgd rfl (pa_cons (pv 0) (pa_cons pe_int pa_nil))))
      (pss_cons (ps_set (i := 4) nd rfl (Or.inl rfl) (pe_lst (pa_cons (pe_tup (pa_cons (pe_ix (ixU K) (pv 1) (pv 3) (fun _ _ => rfl)) (pa_cons pe_str pa_nil))) pa_nil)))
      (pss_cons (ps_for PassesOwn.never rfl (pi_range2 rfl M.range (pa_cons pe_int (pa_cons (pe_op (opAdd K) pe_int (pe_df D_law_draw (hr.mono (by decide)) hgd rfl (pa_cons (pv 0) (pa_cons pe_int pa_nil)))) pa_nil))) (pg_name (i := 5) nd rfl (Or.inl rfl)) (pss_one (ps_expr (pe_bm PySem.F.plainAttrs_list PySem.F.slot_list_append PySem.F.type_list_append mt_append (pv 4) (pa_cons (pe_tup (pa_cons (pe_ix (ixU K) (pv 1) (pe_op op_mod (pe_callTy call_int1 (by rfl) M.int (by decide +kernel) (pa_cons (pe_op (opAdd K) (pv 3) (pv 5)) pa_nil)) pe_int) (fun _ _ => rfl)) (pa_cons (pe_ix (ixU K) (pv 2) (pe_df D_law_draw (hr.mono (by decide)) hgd rfl (pa_cons (pv 0) (pa_cons pe_int pa_nil))) (fun _ _ => rfl)) pa_nil))) pa_nil)))))
      (pss_one (ps_ret (pe_callTy (tupK K) (by rfl) M.tuple (by decide +kernel) (pa_cons (pv 4) pa_nil))))))))),
    (rs_seq (rs_asg (re_lst (ra_cons re_str (ra_cons re_str (ra_cons re_str (ra_cons re_str (ra_cons re_str ra_nil)))))) (rg_name (i := 1)))
      (rs_seq (rs_asg (re_lst (ra_cons re_str (ra_cons re_str (ra_cons re_str (ra_cons re_str (ra_cons re_str ra_nil)))))) (rg_name (i := 2)))
      (rs_seq (rs_asg (re_draw (ra_cons (re_var (i := 0)) (ra_cons re_int ra_nil))) (rg_name (i := 3)))
      (rs_seq (rs_asg (re_lst (ra_cons (re_tup (ra_cons (re_op os_ix (re_var (i := 1)) (re_var (i := 3))) (ra_cons re_str ra_nil))) ra_nil)) (rg_name (i := 4)))
      (rs_seq (rs_for (ri_rng2 (s := true) (ra_cons re_int (ra_cons (re_op os_add re_int (re_draw (ra_cons (re_var (i := 0)) (ra_cons re_int ra_nil)))) ra_nil))) (rg_name (i := 5)) (rs_app (i := 4) (re_tup (ra_cons (re_op os_ix (re_var (i := 1)) (re_op os_mod (re_call cs_int (ra_cons (re_op os_add (re_var (i := 3)) (re_var (i := 5))) ra_nil)) re_int)) (ra_cons (re_op os_ix (re_var (i := 2)) (re_draw (ra_cons (re_var (i := 0)) (ra_cons re_int ra_nil)))) ra_nil)))))
      (rs_ret (re_call cs_tuple (ra_cons (re_var (i := 4)) ra_nil))))))))⟩)
theorem df_law_test (M : Blt mg) (A : At K mg "_law_test" s_law_test) (D_law_draw : Df P w K mg base 1 "_law_draw" ["tape", "many"] (sp_law_draw K)) (D_law_cell : Df P w K mg base 3 "_law_cell" ["tape", "kind"] (spU K f_law_cell)) (D_law_cells : Df P w K mg base 4 "_law_cells" ["tape", "kind", "many"] (spU K f_law_cells)) : Df P w K mg base 5 "_law_test" ["tape", "columns"] (spU K f_law_test) := by
  have nd := sc_law_test.nd
  exact Df.uni A (fun _ _ _ _ _ _ us hl => match us, hl with | [_, _], _ => rfl) sc_law_test rfl (fun cdv A out f s H E hr hgd => ⟨_, (pss_cons (ps_set (i := 2) nd rfl (Or.inl rfl) (pe_ix (ixU K) (pv 1) (pe_df D_law_draw (hr.mono (by decide)) hgd rfl (pa_cons (pv 0) (pa_cons (pe_callB (lenK K) (by rfl) M.len (by decide +kernel) (pa_cons (pv 1) pa_nil)) pa_nil))) (fun _ _ => rfl)))
      (pss_cons (ps_set (i := 3) nd rfl (Or.inl rfl) (pe_tup (pa_cons pe_str (pa_cons (pe_ix (ixU K) (pv 2) pe_int (fun _ _ => rfl)) pa_nil))))
      (pss_cons (ps_set (i := 4) nd rfl (Or.inl rfl) (pe_df D_law_draw (hr.mono (by decide)) hgd rfl (pa_cons (pv 0) (pa_cons pe_int pa_nil))))
      (pss_cons (ps_set (i := 5) nd rfl (Or.inl rfl) (pe_tup (pa_cons pe_str (pa_cons (pe_df D_law_cell (hr.mono (by decide)) hgd rfl (pa_cons (pv 0) (pa_cons (pe_ix (ixU K) (pv 2) pe_int (fun _ _ => rfl)) pa_nil))) pa_nil))))
      (pss_cons (ps_if (pt_cmpR (opEq K hr.units) (pv 4) pe_int (nomark _)) (pss_one (ps_ret (pe_tup (pa_cons pe_str (pa_cons (pv 3) pa_nil))))) pss_nil)
      (pss_cons (ps_if (pt_cmpR (opEq K hr.units) (pv 4) pe_int (nomark _)) (pss_one (ps_ret (pe_tup (pa_cons pe_str (pa_cons (pv 3) (pa_cons (pe_callTy (tupK K) (by rfl) M.tuple (by decide +kernel) (pa_cons (pe_df D_law_cells (hr.mono (by decide)) hgd rfl (pa_cons (pv 0) (pa_cons (pe_ix (ixU K) (pv 2) pe_int (fun _ _ => rfl)) (pa_cons pe_int pa_nil)))) pa_nil)) pa_nil)))))) pss_nil)
      (pss_cons (ps_if (PW.pt (pw_and (pt_cmpR (opEq K hr.units) (pv 4) pe_int (nomark _)) (pw_and1 (pt_cmpR (opEq K hr.units) (pe_ix (ixU K) (pv 2) pe_int (fun _ _ => rfl)) pe_str (nomark _))))) (pss_one (ps_ret (pv 3))) pss_nil)
      (pss_cons (ps_set (i := 6) nd rfl (Or.inl rfl) (pe_ix (ixU K) (pe_lst (pa_cons pe_str (pa_cons pe_str (pa_cons pe_str (pa_cons pe_str (pa_cons pe_str (pa_cons pe_str pa_nil))))))) (pe_df D_law_draw (hr.mono (by decide)) hgd rfl (pa_cons (pv 0) (pa_cons pe_int pa_nil))) (fun _ _ => rfl)))
      (pss_one (ps_ret (pe_ix (ixU K) (pe_lst (pa_cons (pe_tup (pa_cons (pv 6) (pa_cons (pv 3) (pa_cons (pv 5) pa_nil)))) (pa_cons (pe_tup (pa_cons (pv 6) (pa_cons (pv 5) (pa_cons (pv 3) pa_nil)))) pa_nil))) (pe_df D_law_draw (hr.mono (by decide)) hgd rfl (pa_cons (pv 0) (pa_cons pe_int pa_nil))) (fun _ _ => rfl)))))))))))),
    (rs_seq (rs_asg (re_op os_ix (re_var (i := 1)) (re_draw (ra_cons (re_var (i := 0)) (ra_cons (re_call cs_len (ra_cons (re_var (i := 1)) ra_nil)) ra_nil)))) (rg_name (i := 2)))
      (rs_seq (rs_asg (re_tup (ra_cons re_str (ra_cons (re_op os_ix (re_var (i := 2)) re_int) ra_nil))) (rg_name (i := 3)))
      (rs_seq (rs_asg (re_draw (ra_cons (re_var (i := 0)) (ra_cons re_int ra_nil))) (rg_name (i := 4)))
      (rs_seq (rs_asg (re_tup (ra_cons re_str (ra_cons (re_fn (ra_cons (re_var (i := 0)) (ra_cons (re_op os_ix (re_var (i := 2)) re_int) ra_nil))) ra_nil))) (rg_name (i := 5)))
      (rs_seq (rs_if (rt_test (re_op os_eq (re_var (i := 4)) re_int)) (rs_ret (re_tup (ra_cons re_str (ra_cons (re_var (i := 3)) ra_nil)))) rs_next)
      (rs_seq (rs_if (rt_test (re_op os_eq (re_var (i := 4)) re_int)) (rs_ret (re_tup (ra_cons re_str (ra_cons (re_var (i := 3)) (ra_cons (re_call cs_tuple (ra_cons (re_fn (ra_cons (re_var (i := 0)) (ra_cons (re_op os_ix (re_var (i := 2)) re_int) (ra_cons re_int ra_nil)))) ra_nil)) ra_nil))))) rs_next)
      (rs_seq (rs_if (rt_and (rt_test (re_op os_eq (re_var (i := 4)) re_int)) (rt_test (re_op os_eq (re_op os_ix (re_var (i := 2)) re_int) re_str))) (rs_retV (i := 3)) rs_next)
      (rs_seq (rs_asg (re_op os_ix (re_lst (ra_cons re_str (ra_cons re_str (ra_cons re_str (ra_cons re_str (ra_cons re_str (ra_cons re_str ra_nil))))))) (re_draw (ra_cons (re_var (i := 0)) (ra_cons re_int ra_nil)))) (rg_name (i := 6)))
      (rs_ret (re_op os_ix (re_lst (ra_cons (re_tup (ra_cons (re_var (i := 6)) (ra_cons (re_var (i := 3)) (ra_cons (re_var (i := 5)) ra_nil)))) (ra_cons (re_tup (ra_cons (re_var (i := 6)) (ra_cons (re_var (i := 5)) (ra_cons (re_var (i := 3)) ra_nil)))) ra_nil))) (re_draw (ra_cons (re_var (i := 0)) (ra_cons re_int ra_nil)))))))))))))⟩)
end
section
variable {P : Program} {w : World} {K : PySem.W.Frag} {mg : Str → Option Value} {base : Heap}
theorem df_law_is_test (M : Blt mg) (A : At K mg "_law_is_test" s_law_is_test) : Df P w K mg base 1 "_law_is_test" ["expression"] (spU K f_law_is_test) := by
  have nd := sc_law_is_test.nd
  exact Df.uni A (fun _ _ _ _ _ _ us hl => match us, hl with | [_], _ => rfl) sc_law_is_test rfl (fun cdv A out f s H E hr hgd => ⟨_, (pss_cons (ps_if (PW.pt (pw_or (pt_cmpR (opEq K hr.units) (pe_ix (ixU K) (pv 0) pe_int (fun _ _ => rfl)) pe_str (nomark _)) (pw_or1 (pt_cmpR (opEq K hr.units) (pe_ix (ixU K) (pv 0) pe_int (fun _ _ => rfl)) pe_str (nomark _))))) (pss_one (ps_ret (pe_cmpR (opEq K hr.units) (pe_ix (ixU K) (pe_ix (ixU K) (pv 0) pe_int (fun _ _ => rfl)) pe_int (fun _ _ => rfl)) pe_str (nomark _)))) pss_nil)
      (pss_cons (ps_if (pt_cmpR (opIn K (u65 hr)) (pe_ix (ixU K) (pv 0) pe_int (fun _ _ => rfl)) (pe_lst (pa_cons pe_str (pa_cons pe_str (pa_cons pe_str (pa_cons pe_str (pa_cons pe_str (pa_cons pe_str pa_nil))))))) rfl) (pss_one (ps_ret (pe_cmpR (opEq K hr.units) (pe_callB (callSortS K) (by rfl) M.sorted (by decide +kernel) (pa_cons (pe_lst (pa_cons (pe_ix (ixU K) (pe_ix (ixU K) (pv 0) pe_int (fun _ _ => rfl)) pe_int (fun _ _ => rfl)) (pa_cons (pe_ix (ixU K) (pe_ix (ixU K) (pv 0) pe_int (fun _ _ => rfl)) pe_int (fun _ _ => rfl)) pa_nil))) pa_nil)) (pe_lst (pa_cons pe_str (pa_cons pe_str pa_nil))) (nomark _)))) pss_nil)
      (pss_one (ps_ret (pe_cmpR (opEq K hr.units) (pe_ix (ixU K) (pv 0) pe_int (fun _ _ => rfl)) pe_str (nomark _)))))),
    (rs_seq (rs_if (rt_or (rt_test (re_op os_eq (re_op os_ix (re_var (i := 0)) re_int) re_str)) (rt_test (re_op os_eq (re_op os_ix (re_var (i := 0)) re_int) re_str))) (rs_ret (re_op os_eq (re_op os_ix (re_op os_ix (re_var (i := 0)) re_int) re_int) re_str)) rs_next)
      (rs_seq (rs_if (rt_test (re_op os_in (re_op os_ix (re_var (i := 0)) re_int) (re_lst (ra_cons re_str (ra_cons re_str (ra_cons re_str (ra_cons re_str (ra_cons re_str (ra_cons re_str ra_nil))))))))) (rs_ret (re_op os_eq (re_call cs_sortS (ra_cons (re_lst (ra_cons (re_op os_ix (re_op os_ix (re_var (i := 0)) re_int) re_int) (ra_cons (re_op os_ix (re_op os_ix (re_var (i := 0)) re_int) re_int) ra_nil))) ra_nil)) (re_lst (ra_cons re_str (ra_cons re_str ra_nil))))) rs_next)
      (rs_ret (re_op os_eq (re_op os_ix (re_var (i := 0)) re_int) re_str))))⟩)
theorem df_law_tests (M : Blt mg) (A : At K mg "_law_tests" s_law_tests) (D_law_is_test : Df P w K mg base 1 "_law_is_test" ["expression"] (spU K f_law_is_test)) : ∀ n : Nat, Df P w K mg base (2 + n) "_law_tests" ["expression"] (spU K (f_law_tests n))
  | 0 => by
    exact Df.rec0 A (fun _ _ _ _ _ _ us hl => match us, hl with | [_], _ => rfl) sc_law_tests
  | n + 1 => by
    have nd := sc_law_tests.nd
    have D_law_tests := df_law_tests M A D_law_is_test n
    exact Df.uni (k := 2 + n) A (fun _ _ _ _ _ _ us hl => match us, hl with | [_], _ => rfl) sc_law_tests rfl (fun cdv A out f s H E hr hgd => ⟨_, (pss_cons (ps_if (pt_cmpR (opEq K hr.units) (pe_ix (ixU K) (pv 0) pe_int (fun _ _ => rfl)) pe_str (nomark _)) (pss_one (ps_ret (pe_df D_law_tests (hr.mono (by omega)) hgd rfl (pa_cons (pe_ix (ixU K) (pv 0) pe_int (fun _ _ => rfl)) pa_nil)))) pss_nil)
      (pss_cons (ps_if (PW.pt (pw_or (pt_cmpR (opEq K hr.units) (pe_ix (ixU K) (pv 0) pe_int (fun _ _ => rfl)) pe_str (nomark _)) (pw_or1 (pt_cmpR (opEq K hr.units) (pe_ix (ixU K) (pv 0) pe_int (fun _ _ => rfl)) pe_str (nomark _))))) (pss_one (ps_ret (pe_op (opAdd K) (pe_df D_law_tests (hr.mono (by omega)) hgd rfl (pa_cons (pe_ix (ixU K) (pv 0) pe_int (fun _ _ => rfl)) pa_nil)) (pe_df D_law_tests (hr.mono (by omega)) hgd rfl (pa_cons (pe_ix (ixU K) (pv 0) pe_int (fun _ _ => rfl)) pa_nil))))) pss_nil)
      (pss_cons (ps_if (truK K (pe_df D_law_is_test (hr.mono (by omega)) hgd rfl (pa_cons (pv 0) pa_nil))) (pss_one (ps_ret (pe_lst (pa_cons (pv 0) pa_nil)))) pss_nil)
      (pss_one (ps_ret (pe_lst pa_nil)))))),
    (rs_seq (rs_if (rt_test (re_op os_eq (re_op os_ix (re_var (i := 0)) re_int) re_str)) (rs_ret (re_fn (ra_cons (re_op os_ix (re_var (i := 0)) re_int) ra_nil))) rs_next)
      (rs_seq (rs_if (rt_or (rt_test (re_op os_eq (re_op os_ix (re_var (i := 0)) re_int) re_str)) (rt_test (re_op os_eq (re_op os_ix (re_var (i := 0)) re_int) re_str))) (rs_ret (re_op os_add (re_fn (ra_cons (re_op os_ix (re_var (i := 0)) re_int) ra_nil)) (re_fn (ra_cons (re_op os_ix (re_var (i := 0)) re_int) ra_nil)))) rs_next)
      (rs_seq (rs_if (rt_tru (re_fn (ra_cons (re_var (i := 0)) ra_nil))) (rs_ret (re_lst (ra_cons (re_var (i := 0)) ra_nil))) rs_next)
      (rs_ret (re_lst ra_nil)))))⟩)
theorem df_law_odd (M : Blt mg) (A : At K mg "_law_odd" s_law_odd) (D_law_test : Df P w K mg base 5 "_law_test" ["tape", "columns"] (spU K f_law_test)) (D_law_number : Df P w K mg base 2 "_law_number" ["tape"] (spU K f_law_number)) (D_law_draw : Df P w K mg base 1 "_law_draw" ["tape", "many"] (sp_law_draw K)) : Df P w K mg base 6 "_law_odd" ["tape", "columns"] (spU K f_law_odd) := by
  have nd := sc_law_odd.nd
  exact Df.uni A (fun _ _ _ _ _ _ us hl => match us, hl with | [_, _], _ => rfl) sc_law_odd rfl (fun cdv A out f s H E hr hgd => ⟨_, (pss_cons (ps_set (i := 2) nd rfl (Or.inl rfl) (pe_tup (pa_cons pe_str (pa_cons (pe_ix (ixU K) (pe_lc (own := [("column", 3)]) (g := (gName 3)) rfl nd (pi_seq K (pv 1)) (blkOk_by (N := ["tape", "columns", "number", "column", "cell", "test", "odd"]) (sc := (defScope s_law_odd)) (by decide +kernel)) (fun _ _ _ _ _ => (pg_name (i := 3) nd rfl (Or.inl rfl))) (fun _ _ _ _ _ => (pts_one (pt_cmpR (opEq K hr.units) (pe_ix (ixU K) (pv 3) pe_int (fun _ _ => rfl)) pe_str (nomark _)))) (fun _ _ _ _ _ => (pe_ix (ixU K) (pv 3) pe_int (fun _ _ => rfl)))) pe_int (fun _ _ => rfl)) pa_nil))))
      (pss_cons (ps_set (i := 4) nd rfl (Or.inl rfl) (pe_tup (pa_cons pe_str (pa_cons (pe_df D_law_number (hr.mono (by decide)) hgd rfl (pa_cons (pv 0) pa_nil)) pa_nil))))
      (pss_cons (ps_set (i := 5) nd rfl (Or.inl rfl) (pe_df D_law_test (hr.mono (by decide)) hgd rfl (pa_cons (pv 0) (pa_cons (pv 1) pa_nil))))
      (pss_cons (ps_set (i := 6) nd rfl (Or.inl rfl) (pe_lst (pa_cons (pe_tup (pa_cons pe_str (pa_cons (pv 2) (pa_cons (pv 2) pa_nil)))) (pa_cons (pe_tup (pa_cons pe_str (pa_cons (pe_tup (pa_cons pe_str (pa_cons (pv 2) (pa_cons (pv 4) pa_nil)))) (pa_cons (pv 4) pa_nil)))) (pa_cons (pe_tup (pa_cons pe_str (pa_cons (pv 4) (pa_cons (pv 4) pa_nil)))) (pa_cons (pe_tup (pa_cons pe_str (pa_cons (pe_tup (pa_cons pe_str (pa_cons (pv 2) pa_nil))) pa_nil))) pa_nil))))))
      (pss_cons (ps_expr (pe_bm PySem.F.plainAttrs_list PySem.F.slot_list_append PySem.F.type_list_append mt_append (pv 6) (pa_cons (pe_tup (pa_cons pe_str (pa_cons (pe_tup (pa_cons pe_str (pa_cons (pv 2) pa_nil))) (pa_cons (pe_tup (pa_cons (pe_ix (ixU K) (pv 4) pe_int (fun _ _ => rfl)) pa_nil)) pa_nil)))) pa_nil)))
      (pss_cons (ps_expr (pe_bm PySem.F.plainAttrs_list PySem.F.slot_list_append PySem.F.type_list_append mt_append (pv 6) (pa_cons (pe_tup (pa_cons pe_str (pa_cons (pe_tup (pa_cons pe_str (pa_cons pe_bl pa_nil))) (pa_cons (pv 5) (pa_cons (pe_tup (pa_cons pe_str (pa_cons pe_bl pa_nil))) pa_nil))))) pa_nil)))
      (pss_cons (ps_expr (pe_bm PySem.F.plainAttrs_list PySem.F.slot_list_append PySem.F.type_list_append mt_append (pv 6) (pa_cons (pe_tup (pa_cons pe_str (pa_cons (pe_tup (pa_cons pe_str (pa_cons (pv 2) pa_nil))) (pa_cons (pe_tup (pa_cons pe_str (pa_cons pe_str pa_nil))) pa_nil)))) pa_nil)))
      (pss_cons (ps_expr (pe_bm PySem.F.plainAttrs_list PySem.F.slot_list_append PySem.F.type_list_append mt_append (pv 6) (pa_cons (pe_tup (pa_cons pe_str (pa_cons (pv 2) (pa_cons (pe_tup (pa_cons pe_str (pa_cons pe_str pa_nil))) pa_nil)))) pa_nil)))
      (pss_cons (ps_expr (pe_bm PySem.F.plainAttrs_list PySem.F.slot_list_append PySem.F.type_list_append mt_append (pv 6) (pa_cons (pe_tup (pa_cons pe_str (pa_cons (pv 4) pa_nil))) pa_nil)))
      (pss_one (ps_ret (pe_ix (ixU K) (pv 6) (pe_df D_law_draw (hr.mono (by decide)) hgd rfl (pa_cons (pv 0) (pa_cons pe_int pa_nil))) (fun _ _ => rfl))))))))))))),
    (rs_seq (rs_asg (re_tup (ra_cons re_str (ra_cons (re_op os_ix (re_lc (s := false) (ri_var (i := 1) (s := false)) (rg_name (i := 3)) (rt_test (re_op os_eq (re_op os_ix (re_var (i := 3)) re_int) re_str)) (re_op os_ix (re_var (i := 3)) re_int) (by decide)) re_int) ra_nil))) (rg_name (i := 2)))
      (rs_seq (rs_asg (re_tup (ra_cons re_str (ra_cons (re_fn (ra_cons (re_var (i := 0)) ra_nil)) ra_nil))) (rg_name (i := 4)))
      (rs_seq (rs_asg (re_fn (ra_cons (re_var (i := 0)) (ra_cons (re_var (i := 1)) ra_nil))) (rg_name (i := 5)))
      (rs_seq (rs_asg (re_lst (ra_cons (re_tup (ra_cons re_str (ra_cons (re_var (i := 2)) (ra_cons (re_var (i := 2)) ra_nil)))) (ra_cons (re_tup (ra_cons re_str (ra_cons (re_tup (ra_cons re_str (ra_cons (re_var (i := 2)) (ra_cons (re_var (i := 4)) ra_nil)))) (ra_cons (re_var (i := 4)) ra_nil)))) (ra_cons (re_tup (ra_cons re_str (ra_cons (re_var (i := 4)) (ra_cons (re_var (i := 4)) ra_nil)))) (ra_cons (re_tup (ra_cons re_str (ra_cons (re_tup (ra_cons re_str (ra_cons (re_var (i := 2)) ra_nil))) ra_nil))) ra_nil))))) (rg_name (i := 6)))
      (rs_seq (rs_app (i := 6) (re_tup (ra_cons re_str (ra_cons (re_tup (ra_cons re_str (ra_cons (re_var (i := 2)) ra_nil))) (ra_cons (re_tup (ra_cons (re_op os_ix (re_var (i := 4)) re_int) ra_nil)) ra_nil)))))
      (rs_seq (rs_app (i := 6) (re_tup (ra_cons re_str (ra_cons (re_tup (ra_cons re_str (ra_cons re_bl ra_nil))) (ra_cons (re_var (i := 5)) (ra_cons (re_tup (ra_cons re_str (ra_cons re_bl ra_nil))) ra_nil))))))
      (rs_seq (rs_app (i := 6) (re_tup (ra_cons re_str (ra_cons (re_tup (ra_cons re_str (ra_cons (re_var (i := 2)) ra_nil))) (ra_cons (re_tup (ra_cons re_str (ra_cons re_str ra_nil))) ra_nil)))))
      (rs_seq (rs_app (i := 6) (re_tup (ra_cons re_str (ra_cons (re_var (i := 2)) (ra_cons (re_tup (ra_cons re_str (ra_cons re_str ra_nil))) ra_nil)))))
      (rs_seq (rs_app (i := 6) (re_tup (ra_cons re_str (ra_cons (re_var (i := 4)) ra_nil))))
      (rs_ret (re_op os_ix (re_var (i := 6)) (re_draw (ra_cons (re_var (i := 0)) (ra_cons re_int ra_nil))))))))))))))⟩)
theorem df_law_wild (M : Blt mg) (A : At K mg "_law_wild" s_law_wild) (D_law_draw : Df P w K mg base 1 "_law_draw" ["tape", "many"] (sp_law_draw K)) (D_law_test : Df P w K mg base 5 "_law_test" ["tape", "columns"] (spU K f_law_test)) (D_law_odd : Df P w K mg base 6 "_law_odd" ["tape", "columns"] (spU K f_law_odd)) : ∀ n : Nat, Df P w K mg base (7 + n) "_law_wild" ["tape", "columns", "depth", "share"] (spU K (f_law_wild n))
  | 0 => by
    exact Df.rec0 A (fun _ _ _ _ _ _ us hl => match us, hl with | [_, _, _, _], _ => rfl) sc_law_wild
  | n + 1 => by
    have nd := sc_law_wild.nd
    have D_law_wild := df_law_wild M A D_law_draw D_law_test D_law_odd n
    exact Df.uni (k := 7 + n) A (fun _ _ _ _ _ _ us hl => match us, hl with | [_, _, _, _], _ => rfl) sc_law_wild rfl (fun cdv A out f s H E hr hgd => ⟨_, (pss_cons (ps_set (i := 4) nd rfl (Or.inl rfl) (pe_df D_law_draw (hr.mono (by omega)) hgd rfl (pa_cons (pv 0) (pa_cons pe_int pa_nil))))
      (pss_cons (ps_if (PW.pt (pw_and (pt_cmpR op_gt (pv 2) pe_int (nomark _)) (pw_and1 (pt_cmpR (opEq K hr.units) (pv 4) pe_int (nomark _))))) (pss_one (ps_ret (pe_tup (pa_cons pe_str (pa_cons (pe_df D_law_wild (hr.mono (by omega)) hgd rfl (pa_cons (pv 0) (pa_cons (pv 1) (pa_cons (pe_op op_sub (pv 2) pe_int) (pa_cons (pv 3) pa_nil))))) pa_nil))))) pss_nil)
      (pss_cons (ps_if (PW.pt (pw_and (pt_cmpR op_gt (pv 2) pe_int (nomark _)) (pw_and1 (pt_cmpR op_lt (pv 4) pe_int (nomark _))))) (pss_cons (ps_set (i := 5) nd rfl (Or.inl rfl) (pe_df D_law_wild (hr.mono (by omega)) hgd rfl (pa_cons (pv 0) (pa_cons (pv 1) (pa_cons (pe_op op_sub (pv 2) pe_int) (pa_cons (pv 3) pa_nil))))))
      (pss_one (ps_ret (pe_tup (pa_cons (pe_ix (ixU K) (pe_lst (pa_cons pe_str (pa_cons pe_str (pa_cons pe_str pa_nil)))) (pe_op op_sub (pv 4) pe_int) (fun _ _ => rfl)) (pa_cons (pv 5) (pa_cons (pe_df D_law_wild (hr.mono (by omega)) hgd rfl (pa_cons (pv 0) (pa_cons (pv 1) (pa_cons (pe_op op_sub (pv 2) pe_int) (pa_cons (pv 3) pa_nil))))) pa_nil))))))) pss_nil)
      (pss_cons (ps_if (pt_cmpR (opEq K hr.units) (pv 4) pe_int (nomark _)) (pss_one (ps_ret (pe_ix (ixU K) (pe_lst (pa_cons (pe_tup (pa_cons pe_str (pa_cons pe_bl pa_nil))) (pa_cons (pe_tup (pa_cons pe_str (pa_cons pe_bl pa_nil))) (pa_cons (pe_tup (pa_cons pe_str (pa_cons pe_str pa_nil))) pa_nil)))) (pe_df D_law_draw (hr.mono (by omega)) hgd rfl (pa_cons (pv 0) (pa_cons pe_int pa_nil))) (fun _ _ => rfl)))) pss_nil)
      (pss_cons (ps_if (pt_cmpR op_lt (pe_df D_law_draw (hr.mono (by omega)) hgd rfl (pa_cons (pv 0) (pa_cons pe_int pa_nil))) (pv 3) (nomark _)) (pss_one (ps_ret (pe_df D_law_odd (hr.mono (by omega)) hgd rfl (pa_cons (pv 0) (pa_cons (pv 1) pa_nil))))) pss_nil)
      (pss_one (ps_ret (pe_df D_law_test (hr.mono (by omega)) hgd rfl (pa_cons (pv 0) (pa_cons (pv 1) pa_nil)))))))))),
    (rs_seq (rs_asg (re_draw (ra_cons (re_var (i := 0)) (ra_cons re_int ra_nil))) (rg_name (i := 4)))
      (rs_seq (rs_if (rt_and (rt_test (re_op os_cmp0 (re_var (i := 2)) re_int)) (rt_test (re_op os_eq (re_var (i := 4)) re_int))) (rs_ret (re_tup (ra_cons re_str (ra_cons (re_fn (ra_cons (re_var (i := 0)) (ra_cons (re_var (i := 1)) (ra_cons (re_op os_sub (re_var (i := 2)) re_int) (ra_cons (re_var (i := 3)) ra_nil))))) ra_nil)))) rs_next)
      (rs_seq (rs_if (rt_and (rt_test (re_op os_cmp0 (re_var (i := 2)) re_int)) (rt_test (re_op os_cmp0 (re_var (i := 4)) re_int))) (rs_seq (rs_asg (re_fn (ra_cons (re_var (i := 0)) (ra_cons (re_var (i := 1)) (ra_cons (re_op os_sub (re_var (i := 2)) re_int) (ra_cons (re_var (i := 3)) ra_nil))))) (rg_name (i := 5)))
      (rs_ret (re_tup (ra_cons (re_op os_ix (re_lst (ra_cons re_str (ra_cons re_str (ra_cons re_str ra_nil)))) (re_op os_sub (re_var (i := 4)) re_int)) (ra_cons (re_var (i := 5)) (ra_cons (re_fn (ra_cons (re_var (i := 0)) (ra_cons (re_var (i := 1)) (ra_cons (re_op os_sub (re_var (i := 2)) re_int) (ra_cons (re_var (i := 3)) ra_nil))))) ra_nil)))))) rs_next)
      (rs_seq (rs_if (rt_test (re_op os_eq (re_var (i := 4)) re_int)) (rs_ret (re_op os_ix (re_lst (ra_cons (re_tup (ra_cons re_str (ra_cons re_bl ra_nil))) (ra_cons (re_tup (ra_cons re_str (ra_cons re_bl ra_nil))) (ra_cons (re_tup (ra_cons re_str (ra_cons re_str ra_nil))) ra_nil)))) (re_draw (ra_cons (re_var (i := 0)) (ra_cons re_int ra_nil))))) rs_next)
      (rs_seq (rs_if (rt_test (re_op os_cmp0 (re_draw (ra_cons (re_var (i := 0)) (ra_cons re_int ra_nil))) (re_var (i := 3)))) (rs_ret (re_fn (ra_cons (re_var (i := 0)) (ra_cons (re_var (i := 1)) ra_nil)))) rs_next)
      (rs_ret (re_fn (ra_cons (re_var (i := 0)) (ra_cons (re_var (i := 1)) ra_nil)))))))))⟩)
end
section
variable {P : Program} {w : World} {K : PySem.W.Frag} {mg : Str → Option Value} {base : Heap}
theorem df_law_is_formula (M : Blt mg) (A : At K mg "_law_is_formula" s_law_is_formula) (D_law_is_test : Df P w K mg base 1 "_law_is_test" ["expression"] (spU K f_law_is_test)) : ∀ n : Nat, Df P w K mg base (2 + n) "_law_is_formula" ["expression"] (spU K (f_law_is_formula n))
  | 0 => by
    exact Df.rec0 A (fun _ _ _ _ _ _ us hl => match us, hl with | [_], _ => rfl) sc_law_is_formula
  | n + 1 => by
    have nd := sc_law_is_formula.nd
    have D_law_is_formula := df_law_is_formula M A D_law_is_test n
    exact Df.uni (k := 2 + n) A (fun _ _ _ _ _ _ us hl => match us, hl with | [_], _ => rfl) sc_law_is_formula rfl (fun cdv A out f s H E hr hgd => ⟨_, (pss_cons (ps_if (pt_cmpR (opEq K hr.units) (pe_ix (ixU K) (pv 0) pe_int (fun _ _ => rfl)) pe_str (nomark _)) (pss_one (ps_ret (pe_df D_law_is_formula (hr.mono (by omega)) hgd rfl (pa_cons (pe_ix (ixU K) (pv 0) pe_int (fun _ _ => rfl)) pa_nil)))) pss_nil)
      (pss_cons (ps_if (PW.pt (pw_or (pt_cmpR (opEq K hr.units) (pe_ix (ixU K) (pv 0) pe_int (fun _ _ => rfl)) pe_str (nomark _)) (pw_or1 (pt_cmpR (opEq K hr.units) (pe_ix (ixU K) (pv 0) pe_int (fun _ _ => rfl)) pe_str (nomark _))))) (pss_one (ps_ret (andT K (pe_df D_law_is_formula (hr.mono (by omega)) hgd rfl (pa_cons (pe_ix (ixU K) (pv 0) pe_int (fun _ _ => rfl)) pa_nil)) (pe_one (pe_df D_law_is_formula (hr.mono (by omega)) hgd rfl (pa_cons (pe_ix (ixU K) (pv 0) pe_int (fun _ _ => rfl)) pa_nil)))))) pss_nil)
      (pss_one (ps_ret (orT K (pe_cmpR (opEq K hr.units) (pe_ix (ixU K) (pv 0) pe_int (fun _ _ => rfl)) pe_str (nomark _)) (orT K (pe_cmpR (opEq K hr.units) (pe_ix (ixU K) (pv 0) pe_int (fun _ _ => rfl)) pe_str (nomark _)) (pe_one (pe_df D_law_is_test (hr.mono (by omega)) hgd rfl (pa_cons (pv 0) pa_nil))))))))),
    (rs_seq (rs_if (rt_test (re_op os_eq (re_op os_ix (re_var (i := 0)) re_int) re_str)) (rs_ret (re_fn (ra_cons (re_op os_ix (re_var (i := 0)) re_int) ra_nil))) rs_next)
      (rs_seq (rs_if (rt_or (rt_test (re_op os_eq (re_op os_ix (re_var (i := 0)) re_int) re_str)) (rt_test (re_op os_eq (re_op os_ix (re_var (i := 0)) re_int) re_str))) (rs_ret (re_and (re_fn (ra_cons (re_op os_ix (re_var (i := 0)) re_int) ra_nil)) (re_fn (ra_cons (re_op os_ix (re_var (i := 0)) re_int) ra_nil)))) rs_next)
      (rs_ret (re_or (re_op os_eq (re_op os_ix (re_var (i := 0)) re_int) re_str) (re_or (re_op os_eq (re_op os_ix (re_var (i := 0)) re_int) re_str) (re_fn (ra_cons (re_var (i := 0)) ra_nil)))))))⟩)
end

local macro_rules | `(tactic| walk_at "pe") => `(tactic| simp (config := {maxSteps := 2000000}) only [bind_bind, bindR, retB, failB, anyB, iteB, wp_retE, wp_failE,
  ↓kSeq_nx, ↓kSeq_rt, ↓kSeq_bk, ↓kSeq_ct, ↓mNext_eq, ↓mBreak_eq, ↓mCont_eq, ↓mDrop_eq, ↓mRet_eq, ↓mRetN_eq, ↓mAsg_eq, ↓mIf_eq, ↓gVar_eq, gAt_v, gAt_o, gAt_b, gAt_t, ↓mRetV_eq, rAt_s, ↓asgR_eq, aAt_v, aAt_o,
  get_0, get_s, set_0', set_s', List.getElem?_cons_zero, List.getElem?_cons_succ, List.set_cons_zero, List.set_cons_succ, ↓aNil_eq, ↓aCons_eq, ↓aTup_eq, ↓mPar_eq, ↓kPar_v, ↓gC_eq, ↓gaNil_eq, ↓gaCons_eq, ↓gTupE_eq, ↓gLst_eq, ↓gOp_eq, ↓gUn_eq, ↓gCall_eq, ↓gFn_eq, map_nilC, map_consC, lend_v, lend_o, lend_b, lend_t,
  ↓gTru_eq, ↓gTest_eq, oBl_b, oTru_v, oTru_o, oTru_b, truD_n, truD_b, truD_i, truD_t, mAnd_r, mOr_r, mAnd_t, mAnd_f, mOr_t, mOr_f, ↓gAnd_eq, ↓gOr_eq, ↓gNot_eq, mAndC_r, mAndC_f, mOrC_r, ↓gAndT_eq, ↓gOrT_eq, ↓gNotT_eq, ↓gIfE_eq, ↓gChain_eq, ↓gNo_eq, ↓gSome_eq, oInt?_i, ↓gSl_eq, oSl_t, oSl_b, ↓gSl2_eq, kSl2_t,
  ↓gIt_eq, ↓gItV_eq, kItV_v, kItV_b, kItV_o, itV_t, itV_s, itV_b, itV_o, itD_t, itD_s, itD_o, ↓gItR1_eq, ↓gItR2_eq, ↓gItR3_eq, itR3_i, itR1_i, itR2_i, ↓gLc_eq, wipe_n, wipe_c, ↓gYes_eq, ↓gR1_eq, kR1_i, ↓gR2_eq, kR2_i, ↓gLstRg_eq, ↓gTupRg_eq, ↓mFor_eq, ↓mForV_eq, ↓mForRev_eq, kForRev_o, kForRev_t, kForV_o, kForV_b, kForV_t, kForV_s, ↓mApp_eq, appAt_o, kApp_v,
  ↓fnU_eq, rp_0, rp_s, ap_n, ap_c, ms_n, ms_c, out_rt, out_nx, oAdd_i, oAdd_s, oAdd_t, oAdd_oo, oAdd_bo, oAdd_bb, oAdd_ob, oInt_v, oMul_i, oNeg_i, oEq_i, oNe_i, oEq_b, oNe_b, oEq_s, oNe_s, oIx_t, oIx_s, oIx_o, oIx_b, atD_0, atD_1, atD_2, atD_3, atD_4, atD_5, atD_6, atD_7, atD_8, datas_n, datas_v, mp_some, oTup_eq, oLst_eq, kTup_s, kLst_s, len_n, len_c,
  o1_v, o1_o, o1_b, lenD_t, lenD_l, lenD_s, absD_i, intD_i, intD_b, oMax2_i, oMin2_i, oGcd_i, oListC_t, oListC_o, oListC_b, oTupC_t, oTupC_o, oTupC_b, isi_bi, isi_ii, isi_ib, isi_bb, isi_ni, isi_ss, isi_nb, oIsi_v, tyD_b, tyD_i, tyD_s, tyD_n, oIsX_n, oIsX_b, isN_n, isN_i, isN_b, isN_s, isN_t, aUnl_o, aUnl_b, oIx_l, ↓gTRev_eq, ↓gInK_eq, ↓gInKd_eq, oTRev_t, ↓gEnT_eq, enC_t, ↓gDZip_eq, kForV_l, truD_l, oSl_l, itD_l, itV_l, oListC_l, oTupC_l, kIdxL_l, oAdd_lo, oAdd_ol, oAdd_ll, oAdd_lb, oAdd_bl, ↓mFrz_eq, kFrz_o, kFrz_v, kFrz_b, kFrz_n, ↓gFrz_eq, frzC_o, frzC_v, ↓gItI_eq, itI_t, itI_l, itI_s, ↓gDcT_eq, ↓gLc2_eq, ↓gLock_eq, lockAt_o, lockC_v, lockC_o, ↓gKeys_eq, keysAt_b, ↓mDPut_eq, dputAt_T, dputAt_K, ↓gNewT_eq, ↓gNewK_eq, ↓gDGet1_eq, ↓mSetAt_eq, setAt_o, ↓mAugI_eq, augAt_i, kAug_i, ↓gZip_eq, zipD_t, ↓gIdxL_eq, kIdxL_b, kIdxL_o, idxA_v, ↓gIdxK_eq, ↓gSix_eq, kSix_s, oLtU_i, oLtU_s, oLtU_b, ↓gFnD_eq, ↓gFnK_eq, kFnK_21, mOrCt, mOrCf, mAndCt, mAndCf, ↓gF_eq, ↓gFt_eq, ↓mF_eq, oIsiX_v, tyX_b, tyX_i, tyX_s, tyX_n, tyX_t, isiX_ts, isiX_tb, isiX_ti, isiX_tt, isiX_st, isiX_sb, isiX_si, isiX_bs, isiX_bt, isiX_is, isiX_it, isiX_ns, isiX_nt, 
  lenOk, decide_eq_true_eq, Nat.reduceAdd, Nat.reduceLeDiff, Nat.reduceEqDiff, Int.reduceEq, Bool.false_xor, Bool.true_xor, Bool.false_or, Bool.or_false, Bool.true_or, Bool.or_true, Bool.true_and, Bool.and_true, Bool.false_and, Bool.and_false, Bool.not_false, Bool.not_true, Bool.false_eq_true, if_true, if_false, reduceIte, ↓reduceIte, decide_true, decide_false, List.length_cons, List.length_nil])
local macro_rules | `(tactic| walk_at "pl") => `(tactic| simp (config := {maxSteps := 2000000}) only [bind_bind, bindR, retB, failB, anyB, iteB, wp_retE, wp_failE,
  ↓mSeq_eq, ↓kSeq_nx, ↓kSeq_rt, ↓kSeq_bk, ↓kSeq_ct, ↓mNext_eq, ↓mBreak_eq, ↓mCont_eq, ↓mDrop_eq, ↓mRet_eq, ↓mRetN_eq, ↓mAsg_eq, ↓mIf_eq, ↓gVar_eq, gAt_v, gAt_o, gAt_b, gAt_t, ↓mRetV_eq, rAt_s, ↓asgR_eq, aAt_v, aAt_o,
  get_0, get_s, set_0', set_s', List.getElem?_cons_zero, List.getElem?_cons_succ, List.set_cons_zero, List.set_cons_succ, ↓aNil_eq, ↓aCons_eq, ↓aTup_eq, ↓mPar_eq, ↓kPar_v, ↓gC_eq, ↓gaNil_eq, ↓gaCons_eq, ↓gTupE_eq, ↓gLst_eq, ↓gOp_eq, ↓gUn_eq, ↓gCall_eq, ↓gFn_eq, map_nilC, map_consC, lend_v, lend_o, lend_b, lend_t,
  ↓gTru_eq, ↓gTest_eq, oBl_b, oTru_v, oTru_o, oTru_b, truD_n, truD_b, truD_i, truD_t, mAnd_r, mOr_r, mAnd_t, mAnd_f, mOr_t, mOr_f, ↓gAnd_eq, ↓gOr_eq, ↓gNot_eq, mAndC_r, mAndC_f, mOrC_r, ↓gAndT_eq, ↓gOrT_eq, ↓gNotT_eq, ↓gIfE_eq, ↓gChain_eq, ↓gNo_eq, ↓gSome_eq, oInt?_i, ↓gSl_eq, oSl_t, oSl_b, ↓gSl2_eq, kSl2_t,
  ↓gIt_eq, ↓gItV_eq, kItV_v, kItV_b, kItV_o, itV_t, itV_s, itV_b, itV_o, itD_t, itD_s, itD_o, ↓gItR1_eq, ↓gItR2_eq, ↓gItR3_eq, itR3_i, itR1_i, itR2_i, ↓gLc_eq, wipe_n, wipe_c, ↓gYes_eq, ↓gR1_eq, kR1_i, ↓gR2_eq, kR2_i, ↓gLstRg_eq, ↓gTupRg_eq, ↓mFor_eq, ↓mForV_eq, ↓mForRev_eq, kForRev_o, kForRev_t, kForV_o, kForV_b, kForV_t, kForV_s, ↓mApp_eq, appAt_o, kApp_v,
  ↓fnU_eq, rp_0, rp_s, ap_n, ap_c, ms_n, ms_c, out_rt, out_nx, oAdd_i, oAdd_s, oAdd_t, oAdd_oo, oAdd_bo, oAdd_bb, oAdd_ob, oInt_v, oMul_i, oNeg_i, oEq_i, oNe_i, oEq_b, oNe_b, oEq_s, oNe_s, oIx_t, oIx_s, oIx_o, oIx_b, atD_0, atD_1, atD_2, atD_3, atD_4, atD_5, atD_6, atD_7, atD_8, datas_n, datas_v, mp_some, oTup_eq, oLst_eq, kTup_s, kLst_s, len_n, len_c,
  o1_v, o1_o, o1_b, lenD_t, lenD_l, lenD_s, absD_i, intD_i, intD_b, oMax2_i, oMin2_i, oGcd_i, oListC_t, oListC_o, oListC_b, oTupC_t, oTupC_o, oTupC_b, isi_bi, isi_ii, isi_ib, isi_bb, isi_ni, isi_ss, isi_nb, oIsi_v, tyD_b, tyD_i, tyD_s, tyD_n, oIsX_n, oIsX_b, isN_n, isN_i, isN_b, isN_s, isN_t, aUnl_o, aUnl_b, oIx_l, ↓gTRev_eq, ↓gInK_eq, ↓gInKd_eq, oTRev_t, ↓gEnT_eq, enC_t, ↓gDZip_eq, kForV_l, truD_l, oSl_l, itD_l, itV_l, oListC_l, oTupC_l, kIdxL_l, oAdd_lo, oAdd_ol, oAdd_ll, oAdd_lb, oAdd_bl, ↓mFrz_eq, kFrz_o, kFrz_v, kFrz_b, kFrz_n, ↓gFrz_eq, frzC_o, frzC_v, ↓gItI_eq, itI_t, itI_l, itI_s, ↓gDcT_eq, ↓gLc2_eq, ↓gLock_eq, lockAt_o, lockC_v, lockC_o, ↓gKeys_eq, keysAt_b, ↓mDPut_eq, dputAt_T, dputAt_K, ↓gNewT_eq, ↓gNewK_eq, ↓gDGet1_eq, ↓mSetAt_eq, setAt_o, ↓mAugI_eq, augAt_i, kAug_i, ↓gZip_eq, zipD_t, ↓gIdxL_eq, kIdxL_b, kIdxL_o, idxA_v, ↓gIdxK_eq, ↓gSix_eq, kSix_s, oLtU_i, oLtU_s, oLtU_b, ↓gFnD_eq, ↓gFnK_eq, kFnK_21, mOrCt, mOrCf, mAndCt, mAndCf, ↓gF_eq, ↓gFt_eq, ↓mF_eq, oIsiX_v, tyX_b, tyX_i, tyX_s, tyX_n, tyX_t, isiX_ts, isiX_tb, isiX_ti, isiX_tt, isiX_st, isiX_sb, isiX_si, isiX_bs, isiX_bt, isiX_is, isiX_it, isiX_ns, isiX_nt, 
  lenOk, decide_eq_true_eq, Nat.reduceAdd, Nat.reduceLeDiff, Nat.reduceEqDiff, Int.reduceEq, Bool.false_xor, Bool.true_xor, Bool.false_or, Bool.or_false, Bool.true_or, Bool.or_true, Bool.true_and, Bool.and_true, Bool.false_and, Bool.and_false, Bool.not_false, Bool.not_true, Bool.false_eq_true, if_true, if_false, reduceIte, ↓reduceIte, decide_true, decide_false, List.length_cons, List.length_nil])
local macro_rules | `(tactic| walk_at "pr") => `(tactic| ((try walk_at "pl"); try rfl))
local macro_rules | `(tactic| walk_at "wk") => `(tactic| try walk_at "pl")
local macro_rules | `(tactic| walk_at "we") => `(tactic| try walk_at "pe")

theorem strs_sh : ∀ ks : List Str, (∀ k ∈ ks, PyData.strOk k = true) → PyData.canLayAll0 (ks.map PyData.str) = true ∧ PyData.depthAll (ks.map PyData.str) ≤ 1
  | [], _ => ⟨rfl, by simp [PyData.depthAll]⟩
  | k :: ks, h => by
    obtain ⟨h1, h2⟩ := strs_sh ks fun x hx => h x (List.mem_cons_of_mem _ hx)
    refine ⟨?_, ?_⟩
    · rw [List.map_cons]; simp only [PyData.canLayAll0, PyData.canLay0, h1, h k List.mem_cons_self, Bool.true_and]
    · rw [List.map_cons]; simp only [PyData.depthAll, PyData.depth]; omega
theorem strs_shaped {ks : List Str} (h : ∀ k ∈ ks, PyData.strOk k = true) : SeqAt.shaped (.list (ks.map .str)) = true := by
  obtain ⟨h1, h2⟩ := strs_sh ks h
  unfold SeqAt.shaped
  simp only [PyData.canLay0, PyData.depth, h1, Bool.true_and]
  exact decide_eq_true (by omega)
theorem str_shaped {w : Str} (h : PyData.strOk w = true) : SeqAt.shaped (.str w) = true := by
  unfold SeqAt.shaped
  simp only [PyData.canLay0, PyData.depth, h, Bool.true_and]
  rfl
theorem in_one {w : Str} (hw : PyData.strOk w = true) {ks : List Str} (hk : ∀ k ∈ ks, PyData.strOk k = true) : oInD false (.str w) (ks.map .str) = .ret (.val (.bool (decide (w ∈ ks)))) := by
  unfold oInD
  rw [if_pos (by rw [str_shaped hw, strs_shaped hk]; rfl), Bool.false_xor, List.any_map]
  congr 3
  rw [Bool.eq_iff_iff, List.any_eq_true, decide_eq_true_eq]
  constructor
  · rintro ⟨k, hk, e⟩
    have : k = w := by simpa [PyData.eqv] using e
    rw [← this]; exact hk
  · intro h
    exact ⟨w, h, by simp [PyData.eqv]⟩
theorem conn_ok : ∀ k ∈ connS, PyData.strOk k = true := by decide +kernel
theorem cmpr_ok : ∀ k ∈ cmpr, PyData.strOk k = true := by decide +kernel
theorem in_conn {w : Str} (hw : PyData.strOk w = true) : oInX false (some (.str w)) (some (.tuple conn)) = .ret (.val (.bool (decide (w ∈ connS)))) := in_one hw conn_ok
theorem in_t {w : Str} (hw : PyData.strOk w = true) (ks : List Str) {ds : List PyData} (h : ds = ks.map .str) (hk : ∀ k ∈ ks, PyData.strOk k = true) : oIn (.val (.str w)) (.val (.tuple ds)) = .ret (.val (.bool (decide (w ∈ ks)))) := by subst h; exact in_one hw hk
theorem in_l {w : Str} (hw : PyData.strOk w = true) (ks : List Str) {ds : List PyData} (h : ds = ks.map .str) (hk : ∀ k ∈ ks, PyData.strOk k = true) : oIn (.val (.str w)) (.own (.lst ds)) = .ret (.val (.bool (decide (w ∈ ks)))) := by subst h; exact in_one hw hk
/-- what a formula is made of, and whether it is a constant, and whether a test -/
inductive Leaf : PyData → Bool → Bool → Prop
  | con {w : Str} {r : List PyData} : w = "cell" ∨ w = "nothing" → Leaf (.tuple (.str w :: r)) true false
  | col {r : List PyData} : Leaf (.tuple (.str "column" :: r)) false true
  | cond {r : List PyData} : Leaf (.tuple (.str "if" :: r)) false false
  | one {w h : Str} {r s : List PyData} : PyData.strOk h = true → w = "in" ∨ w = "missing" → Leaf (.tuple (.str w :: .tuple (.str h :: r) :: s)) false (decide (h = "column"))
  | cmp {w h k : Str} {r s : List PyData} : PyData.strOk h = true → PyData.strOk k = true → w ∈ cmpr → Leaf (.tuple [.str w, .tuple (.str h :: r), .tuple (.str k :: s)]) false (decide (h = "cell" ∧ k = "column" ∨ h = "column" ∧ k = "cell"))
theorem Leaf.head {d : PyData} {c t : Bool} (l : Leaf d c t) : ∃ (w : Str) (r : List PyData), d = .tuple (.str w :: r) ∧ PyData.strOk w = true ∧ w ∉ connS ∧ c = decide (w ∈ (["cell", "nothing"] : List Str)) := by
  cases l with
  | @con w r h => refine ⟨w, r, rfl, ?_, ?_, ?_⟩ <;> (rcases h with rfl | rfl <;> decide +kernel)
  | @col r => exact ⟨_, r, rfl, by decide +kernel, by decide +kernel, by decide +kernel⟩
  | @cond r => exact ⟨_, r, rfl, by decide +kernel, by decide +kernel, by decide +kernel⟩
  | @one w h r s _ e => refine ⟨w, _, rfl, ?_, ?_, ?_⟩ <;> (rcases e with rfl | rfl <;> decide +kernel)
  | @cmp w h k r s _ _ e =>
    simp only [cmpr, List.mem_cons, List.not_mem_nil, or_false] at e
    refine ⟨w, _, rfl, ?_, ?_, ?_⟩ <;> (rcases e with rfl | rfl | rfl | rfl | rfl | rfl <;> decide +kernel)
theorem head_ix {w : Str} {r : List PyData} : oIx (.val (.tuple (.str w :: r))) (.val (.int 0)) = .ret (.val (.str w)) := by walk_at "wk"
theorem is_constant_eq {d : PyData} {c t : Bool} (l : Leaf d c t) : f_is_constant [.val d] = .ret (.val (.bool c)) := by
  obtain ⟨w, r, rfl, hw, _, rfl⟩ := l.head
  unfold f_is_constant
  walk_at "wk"
  rw [in_t (ds := [.str "cell", .str "nothing"]) hw ["cell", "nothing"] rfl (by decide +kernel)]
theorem eq_two {a b : Str} (ha : PyData.strOk a = true) (hb : PyData.strOk b = true) : oEq (.own (.lst [.str a, .str b])) (.own (.lst [.str "cell", .str "column"])) = .ret (.val (.bool (decide (a = "cell" ∧ b = "column")))) := by
  have e : oEq (.own (.lst [.str a, .str b])) (.own (.lst [.str "cell", .str "column"])) = if (SeqAt.shaped (.list [.str a, .str b]) && SeqAt.shaped (.list [.str "cell", .str "column"])) = true then .ret (.val (.bool (false ^^ PyData.eqv (.list [.str a, .str b]) (.list [.str "cell", .str "column"])))) else .fail := rfl
  have s1 : SeqAt.shaped (.list [.str a, .str b]) = true := strs_shaped (ks := [a, b]) (by
    intro k hk
    simp only [List.mem_cons, List.not_mem_nil, or_false] at hk
    rcases hk with rfl | rfl
    · exact ha
    · exact hb)
  have s2 : SeqAt.shaped (.list [.str "cell", .str "column"]) = true := strs_shaped (ks := ["cell", "column"]) (by decide +kernel)
  rw [e, s1, s2, if_pos (by rfl), Bool.false_xor]
  congr 3
  rw [Bool.eq_iff_iff, decide_eq_true_eq]
  simp [PyData.eqv, PyData.eqvAll]
theorem two_sorted {h k : Str} {ns : List Str} (p : ns.Perm [h, k]) (s : sortedS ns = true) : ∃ a b, ns = [a, b] ∧ decide (a = "cell" ∧ b = "column") = decide (h = "cell" ∧ k = "column" ∨ h = "column" ∧ k = "cell") := by
  match ns, p.length_eq with
  | [a, b], _ =>
    refine ⟨a, b, rfl, ?_⟩
    have m : (a = h ∧ b = k) ∨ (a = k ∧ b = h) := by
      have ma : a ∈ [h, k] := p.mem_iff.mp (by simp)
      simp only [List.mem_cons, List.not_mem_nil, or_false] at ma
      rcases ma with rfl | rfl
      · have := (List.perm_cons a).mp p
        exact .inl ⟨rfl, by simpa using this⟩
      · have := (List.perm_cons a).mp (p.trans (List.Perm.swap a h []))
        exact .inr ⟨rfl, by simpa using this⟩
    rw [Bool.eq_iff_iff, decide_eq_true_eq, decide_eq_true_eq]
    constructor
    · rintro ⟨rfl, rfl⟩
      rcases m with ⟨rfl, rfl⟩ | ⟨rfl, rfl⟩
      · exact .inl ⟨rfl, rfl⟩
      · exact .inr ⟨rfl, rfl⟩
    · rintro (⟨rfl, rfl⟩ | ⟨rfl, rfl⟩)
      · rcases m with ⟨rfl, rfl⟩ | ⟨rfl, rfl⟩
        · exact ⟨rfl, rfl⟩
        · exact absurd s (by decide +kernel)
      · rcases m with ⟨rfl, rfl⟩ | ⟨rfl, rfl⟩
        · exact absurd s (by decide +kernel)
        · exact ⟨rfl, rfl⟩
theorem sort_two {h k : Str} (hh : PyData.strOk h = true) (hk : PyData.strOk k = true) {α : Type} {kk : C → M α} {Q : α → Prop} (q : ∀ a b : Str, PyData.strOk a = true → PyData.strOk b = true → decide (a = "cell" ∧ b = "column") = decide (h = "cell" ∧ k = "column" ∨ h = "column" ∧ k = "cell") → wp (kk (.own (.lst [.str a, .str b]))) Q) : wp ((srtDS (.list [.str h, .str k])).bind kk) Q := by
  rw [show ([.str h, .str k] : List PyData) = ([h, k] : List Str).map .str from rfl, srtDS_l]
  unfold srtS
  rw [if_pos (by simp), anyB, wp_anyE]
  rintro d ⟨ns, p, s, rfl⟩
  obtain ⟨a, b, rfl, e⟩ := two_sorted p s
  have ok : ∀ x ∈ [a, b], PyData.strOk x = true := fun x hx => by
    have := p.mem_iff.mp hx
    simp only [List.mem_cons, List.not_mem_nil, or_false] at this
    rcases this with rfl | rfl
    · exact hh
    · exact hk
  exact q a b (ok a (by simp)) (ok b (by simp)) e
theorem kInD_s {w : Str} {ks : List Str} : kInD false ks (.val (.str w)) = .ret (.val (.bool (decide (w ∈ ks)))) := by show M.ret (C.val (.bool (false ^^ decide (w ∈ ks)))) = _; rw [Bool.false_xor]
theorem is_test_wp {d : PyData} {c t : Bool} (l : Leaf d c t) {α : Type} {k : C → M α} {Q : α → Prop} (q : wp (k (.val (.bool t))) Q) : wp ((f_is_test [.val d]).bind k) Q := by
  refine wp_call (fun x => x = .val (.bool t)) ?_ (by rintro x rfl; exact q)
  unfold f_is_test
  refine wp_fn rfl ?_
  have inc : ∀ w : Str, PyData.strOk w = true → oIn (.val (.str w)) (.val (.tuple [.str "in", .str "missing"])) = .ret (.val (.bool (decide (w ∈ (["in", "missing"] : List Str))))) := fun w hw => in_t hw ["in", "missing"] rfl (by decide +kernel)
  cases l with
  | @con w r h =>
    rcases h with rfl | rfl
    · walk_at "wk"
      rw [kInD_s, show decide (("cell" : Str) ∈ cmpr) = false by decide +kernel, inc _ (by decide +kernel), show decide (("cell" : Str) ∈ (["in", "missing"] : List Str)) = false by decide +kernel, show decide (("cell" : Str) = "column") = false by decide +kernel]
      walk_at "wk"
      try rfl
    · walk_at "wk"
      rw [kInD_s, show decide (("nothing" : Str) ∈ cmpr) = false by decide +kernel, inc _ (by decide +kernel), show decide (("nothing" : Str) ∈ (["in", "missing"] : List Str)) = false by decide +kernel, show decide (("nothing" : Str) = "column") = false by decide +kernel]
      walk_at "wk"
      try rfl
  | @col r =>
    walk_at "wk"
    rw [kInD_s, show decide (("column" : Str) ∈ cmpr) = false by decide +kernel]
    walk_at "wk"
    try rfl
  | @cond r =>
    walk_at "wk"
    rw [kInD_s, show decide (("if" : Str) ∈ cmpr) = false by decide +kernel, inc _ (by decide +kernel), show decide (("if" : Str) ∈ (["in", "missing"] : List Str)) = false by decide +kernel, show decide (("if" : Str) = "column") = false by decide +kernel]
    walk_at "wk"
    try rfl
  | @one w h r s ho hw =>
    rcases hw with rfl | rfl
    · walk_at "wk"
      rw [kInD_s, show decide (("in" : Str) ∈ cmpr) = false by decide +kernel, inc _ (by decide +kernel), show decide (("in" : Str) ∈ (["in", "missing"] : List Str)) = true by decide +kernel, show decide (("in" : Str) = "column") = false by decide +kernel]
      walk_at "wk"
      try rfl
    · walk_at "wk"
      rw [kInD_s, show decide (("missing" : Str) ∈ cmpr) = false by decide +kernel, inc _ (by decide +kernel), show decide (("missing" : Str) ∈ (["in", "missing"] : List Str)) = true by decide +kernel, show decide (("missing" : Str) = "column") = false by decide +kernel]
      walk_at "wk"
      try rfl
  | @cmp w h k' r s h1 h2 h3 =>
    walk_at "wk"
    rw [kInD_s, decide_eq_true h3]
    walk_at "wk"
    rw [show cutD [PyData.str w, .tuple (.str h :: r), .tuple (.str k' :: s)] (some 1) none = [.tuple (.str h :: r), .tuple (.str k' :: s)] from rfl]
    rw [if_pos (by simp)]
    rw [show ([.tuple (.str h :: r), .tuple (.str k' :: s)] : List PyData) = [(h, r), (k', s)].map (fun p : Str × List PyData => PyData.tuple (.str p.1 :: p.2)) from rfl]
    rw [lcL_map (fun p : Str × List PyData => PyData.tuple (.str p.1 :: p.2)) (fun p => .str p.1) [(h, r), (k', s)] [] fun p hp => ⟨_, by walk_at "pr", rfl, by walk_at "pr"⟩]
    rw [List.nil_append, show ([(h, r), (k', s)].map fun p : Str × List PyData => PyData.str p.1) = [.str h, .str k'] from rfl, retB]
    show wp ((srtDS (.list [.str h, .str k'])).bind _) _
    refine sort_two h1 h2 fun a b ha hb e => ?_
    rw [eq_two ha hb, e]
    walk_at "wk"
    try rfl
theorem law_is_test_wp {d : PyData} {c t : Bool} (l : Leaf d c t) {α : Type} {k : C → M α} {Q : α → Prop} (q : wp (k (.val (.bool t))) Q) : wp ((f_law_is_test [.val d]).bind k) Q := by
  refine wp_call (fun x => x = .val (.bool t)) ?_ (by rintro x rfl; exact q)
  unfold f_law_is_test
  refine wp_fn rfl ?_
  have inc : ∀ w : Str, PyData.strOk w = true → oIn (.val (.str w)) (.own (.lst [.str "=", .str "<>", .str "<", .str "<=", .str ">", .str ">="])) = .ret (.val (.bool (decide (w ∈ cmpr)))) := fun w hw => in_l hw cmpr rfl cmpr_ok
  cases l with
  | @con w r h =>
    rcases h with rfl | rfl
    · walk_at "wk"
      rw [if_neg (by decide +kernel), inc _ (by decide +kernel), show decide (("cell" : Str) ∈ cmpr) = false by decide +kernel]
      walk_at "wk"
      try rfl
    · walk_at "wk"
      rw [if_neg (by decide +kernel), inc _ (by decide +kernel), show decide (("nothing" : Str) ∈ cmpr) = false by decide +kernel]
      walk_at "wk"
      try rfl
  | @col r =>
    walk_at "wk"
    rw [if_neg (by decide +kernel), inc _ (by decide +kernel), show decide (("column" : Str) ∈ cmpr) = false by decide +kernel]
    walk_at "wk"
    try rfl
  | @cond r =>
    walk_at "wk"
    rw [if_neg (by decide +kernel), inc _ (by decide +kernel), show decide (("if" : Str) ∈ cmpr) = false by decide +kernel]
    walk_at "wk"
    try rfl
  | @one w h r s ho hw =>
    rcases hw with rfl | rfl
    · walk_at "wk"
      try rfl
    · walk_at "wk"
      try rfl
  | @cmp w h k' r s h1 h2 h3 =>
    walk_at "wk"
    have nw : ¬ (decide (w = "in") || decide (w = "missing")) = true := by
      simp only [cmpr, List.mem_cons, List.not_mem_nil, or_false] at h3
      rcases h3 with rfl | rfl | rfl | rfl | rfl | rfl <;> decide +kernel
    have hw : PyData.strOk w = true := cmpr_ok w h3
    rw [if_neg nw, inc w hw, decide_eq_true h3]
    walk_at "wk"
    refine sort_two h1 h2 fun a b ha hb e => ?_
    rw [eq_two ha hb, e]
    walk_at "wk"
    try rfl

local macro_rules | `(tactic| walk_at "pe") => `(tactic| simp (config := {maxSteps := 2000000}) only [bind_bind, bindR, retB, failB, anyB, iteB, wp_retE, wp_failE,
  ↓kSeq_nx, ↓kSeq_rt, ↓kSeq_bk, ↓kSeq_ct, ↓mNext_eq, ↓mBreak_eq, ↓mCont_eq, ↓mDrop_eq, ↓mRet_eq, ↓mRetN_eq, ↓mAsg_eq, ↓mIf_eq, ↓gVar_eq, gAt_v, gAt_o, gAt_b, gAt_t, ↓mRetV_eq, rAt_s, ↓asgR_eq, aAt_v, aAt_o,
  get_0, get_s, set_0', set_s', List.getElem?_cons_zero, List.getElem?_cons_succ, List.set_cons_zero, List.set_cons_succ, ↓aNil_eq, ↓aCons_eq, ↓aTup_eq, ↓mPar_eq, ↓kPar_v, ↓gC_eq, ↓gaNil_eq, ↓gaCons_eq, ↓gTupE_eq, ↓gLst_eq, ↓gOp_eq, ↓gUn_eq, ↓gCall_eq, ↓gFn_eq, map_nilC, map_consC, lend_v, lend_o, lend_b, lend_t,
  ↓gTru_eq, ↓gTest_eq, oBl_b, oTru_v, oTru_o, oTru_b, truD_n, truD_b, truD_i, truD_t, mAnd_r, mOr_r, mAnd_t, mAnd_f, mOr_t, mOr_f, ↓gAnd_eq, ↓gOr_eq, ↓gNot_eq, mAndC_r, mAndC_f, mOrC_r, ↓gAndT_eq, ↓gOrT_eq, ↓gNotT_eq, ↓gIfE_eq, ↓gChain_eq, ↓gNo_eq, ↓gSome_eq, oInt?_i, ↓gSl_eq, oSl_t, oSl_b, ↓gSl2_eq, kSl2_t,
  ↓gIt_eq, ↓gItV_eq, kItV_v, kItV_b, kItV_o, itV_t, itV_s, itV_b, itV_o, itD_t, itD_s, itD_o, ↓gItR1_eq, ↓gItR2_eq, ↓gItR3_eq, itR3_i, itR1_i, itR2_i, ↓gLc_eq, wipe_n, wipe_c, ↓gYes_eq, ↓gR1_eq, kR1_i, ↓gR2_eq, kR2_i, ↓gLstRg_eq, ↓gTupRg_eq, ↓mFor_eq, ↓mForV_eq, ↓mForRev_eq, kForRev_o, kForRev_t, kForV_o, kForV_b, kForV_t, kForV_s, ↓mApp_eq, appAt_o, kApp_v,
  ↓fnU_eq, rp_0, rp_s, ap_n, ap_c, ms_n, ms_c, out_rt, out_nx, oAdd_i, oAdd_s, oAdd_t, oAdd_oo, oAdd_bo, oAdd_bb, oAdd_ob, oInt_v, oMul_i, oNeg_i, oEq_i, oNe_i, oEq_b, oNe_b, oEq_s, oNe_s, oIx_t, oIx_s, oIx_o, oIx_b, atD_0, atD_1, atD_2, atD_3, atD_4, atD_5, atD_6, atD_7, atD_8, datas_n, datas_v, mp_some, oTup_eq, oLst_eq, kTup_s, kLst_s, len_n, len_c,
  o1_v, o1_o, o1_b, lenD_t, lenD_l, lenD_s, absD_i, intD_i, intD_b, oMax2_i, oMin2_i, oGcd_i, oListC_t, oListC_o, oListC_b, oTupC_t, oTupC_o, oTupC_b, isi_bi, isi_ii, isi_ib, isi_bb, isi_ni, isi_ss, isi_nb, oIsi_v, tyD_b, tyD_i, tyD_s, tyD_n, oIsX_n, oIsX_b, isN_n, isN_i, isN_b, isN_s, isN_t, aUnl_o, aUnl_b, oIx_l, ↓gTRev_eq, ↓gInK_eq, ↓gInKd_eq, oTRev_t, ↓gEnT_eq, enC_t, ↓gDZip_eq, kForV_l, truD_l, oSl_l, itD_l, itV_l, oListC_l, oTupC_l, kIdxL_l, oAdd_lo, oAdd_ol, oAdd_ll, oAdd_lb, oAdd_bl, ↓mFrz_eq, kFrz_o, kFrz_v, kFrz_b, kFrz_n, ↓gFrz_eq, frzC_o, frzC_v, ↓gItI_eq, itI_t, itI_l, itI_s, ↓gDcT_eq, ↓gLc2_eq, ↓gLock_eq, lockAt_o, lockC_v, lockC_o, ↓gKeys_eq, keysAt_b, ↓mDPut_eq, dputAt_T, dputAt_K, ↓gNewT_eq, ↓gNewK_eq, ↓gDGet1_eq, ↓mSetAt_eq, setAt_o, ↓mAugI_eq, augAt_i, kAug_i, ↓gZip_eq, zipD_t, ↓gIdxL_eq, kIdxL_b, kIdxL_o, idxA_v, ↓gIdxK_eq, ↓gSix_eq, kSix_s, oLtU_i, oLtU_s, oLtU_b, ↓gFnD_eq, ↓gFnK_eq, kFnK_21, mOrCt, mOrCf, mAndCt, mAndCf, ↓gF_eq, ↓gFt_eq, ↓mF_eq, oIsiX_v, tyX_b, tyX_i, tyX_s, tyX_n, tyX_t, isiX_ts, isiX_tb, isiX_ti, isiX_tt, isiX_st, isiX_sb, isiX_si, isiX_bs, isiX_bt, isiX_is, isiX_it, isiX_ns, isiX_nt, 
  lenOk, decide_eq_true_eq, Nat.reduceAdd, Nat.reduceLeDiff, Nat.reduceEqDiff, Int.reduceEq, Bool.false_xor, Bool.true_xor, Bool.false_or, Bool.or_false, Bool.true_or, Bool.or_true, Bool.true_and, Bool.and_true, Bool.false_and, Bool.and_false, Bool.not_false, Bool.not_true, Bool.false_eq_true, if_true, if_false, reduceIte, ↓reduceIte, decide_true, decide_false, List.length_cons, List.length_nil])
local macro_rules | `(tactic| walk_at "pl") => `(tactic| simp (config := {maxSteps := 2000000}) only [bind_bind, bindR, retB, failB, anyB, iteB, wp_retE, wp_failE,
  ↓mSeq_eq, ↓kSeq_nx, ↓kSeq_rt, ↓kSeq_bk, ↓kSeq_ct, ↓mNext_eq, ↓mBreak_eq, ↓mCont_eq, ↓mDrop_eq, ↓mRet_eq, ↓mRetN_eq, ↓mAsg_eq, ↓mIf_eq, ↓gVar_eq, gAt_v, gAt_o, gAt_b, gAt_t, ↓mRetV_eq, rAt_s, ↓asgR_eq, aAt_v, aAt_o,
  get_0, get_s, set_0', set_s', List.getElem?_cons_zero, List.getElem?_cons_succ, List.set_cons_zero, List.set_cons_succ, ↓aNil_eq, ↓aCons_eq, ↓aTup_eq, ↓mPar_eq, ↓kPar_v, ↓gC_eq, ↓gaNil_eq, ↓gaCons_eq, ↓gTupE_eq, ↓gLst_eq, ↓gOp_eq, ↓gUn_eq, ↓gCall_eq, ↓gFn_eq, map_nilC, map_consC, lend_v, lend_o, lend_b, lend_t,
  ↓gTru_eq, ↓gTest_eq, oBl_b, oTru_v, oTru_o, oTru_b, truD_n, truD_b, truD_i, truD_t, mAnd_r, mOr_r, mAnd_t, mAnd_f, mOr_t, mOr_f, ↓gAnd_eq, ↓gOr_eq, ↓gNot_eq, mAndC_r, mAndC_f, mOrC_r, ↓gAndT_eq, ↓gOrT_eq, ↓gNotT_eq, ↓gIfE_eq, ↓gChain_eq, ↓gNo_eq, ↓gSome_eq, oInt?_i, ↓gSl_eq, oSl_t, oSl_b, ↓gSl2_eq, kSl2_t,
  ↓gIt_eq, ↓gItV_eq, kItV_v, kItV_b, kItV_o, itV_t, itV_s, itV_b, itV_o, itD_t, itD_s, itD_o, ↓gItR1_eq, ↓gItR2_eq, ↓gItR3_eq, itR3_i, itR1_i, itR2_i, ↓gLc_eq, wipe_n, wipe_c, ↓gYes_eq, ↓gR1_eq, kR1_i, ↓gR2_eq, kR2_i, ↓gLstRg_eq, ↓gTupRg_eq, ↓mFor_eq, ↓mForV_eq, ↓mForRev_eq, kForRev_o, kForRev_t, kForV_o, kForV_b, kForV_t, kForV_s, ↓mApp_eq, appAt_o, kApp_v,
  ↓fnU_eq, rp_0, rp_s, ap_n, ap_c, ms_n, ms_c, out_rt, out_nx, oAdd_i, oAdd_s, oAdd_t, oAdd_oo, oAdd_bo, oAdd_bb, oAdd_ob, oInt_v, oMul_i, oNeg_i, oEq_i, oNe_i, oEq_b, oNe_b, oEq_s, oNe_s, oIx_t, oIx_s, oIx_o, oIx_b, atD_0, atD_1, atD_2, atD_3, atD_4, atD_5, atD_6, atD_7, atD_8, datas_n, datas_v, mp_some, oTup_eq, oLst_eq, kTup_s, kLst_s, len_n, len_c,
  o1_v, o1_o, o1_b, lenD_t, lenD_l, lenD_s, absD_i, intD_i, intD_b, oMax2_i, oMin2_i, oGcd_i, oListC_t, oListC_o, oListC_b, oTupC_t, oTupC_o, oTupC_b, isi_bi, isi_ii, isi_ib, isi_bb, isi_ni, isi_ss, isi_nb, oIsi_v, tyD_b, tyD_i, tyD_s, tyD_n, oIsX_n, oIsX_b, isN_n, isN_i, isN_b, isN_s, isN_t, aUnl_o, aUnl_b, oIx_l, ↓gTRev_eq, ↓gInK_eq, ↓gInKd_eq, oTRev_t, ↓gEnT_eq, enC_t, ↓gDZip_eq, kForV_l, truD_l, oSl_l, itD_l, itV_l, oListC_l, oTupC_l, kIdxL_l, oAdd_lo, oAdd_ol, oAdd_ll, oAdd_lb, oAdd_bl, ↓mFrz_eq, kFrz_o, kFrz_v, kFrz_b, kFrz_n, ↓gFrz_eq, frzC_o, frzC_v, ↓gItI_eq, itI_t, itI_l, itI_s, ↓gDcT_eq, ↓gLc2_eq, ↓gLock_eq, lockAt_o, lockC_v, lockC_o, ↓gKeys_eq, keysAt_b, ↓mDPut_eq, dputAt_T, dputAt_K, ↓gNewT_eq, ↓gNewK_eq, ↓gDGet1_eq, ↓mSetAt_eq, setAt_o, ↓mAugI_eq, augAt_i, kAug_i, ↓gZip_eq, zipD_t, ↓gIdxL_eq, kIdxL_b, kIdxL_o, idxA_v, ↓gIdxK_eq, ↓gSix_eq, kSix_s, oLtU_i, oLtU_s, oLtU_b, ↓gFnD_eq, ↓gFnK_eq, kFnK_21, mOrCt, mOrCf, mAndCt, mAndCf, ↓gF_eq, ↓gFt_eq, ↓mF_eq, oIsiX_v, tyX_b, tyX_i, tyX_s, tyX_n, tyX_t, isiX_ts, isiX_tb, isiX_ti, isiX_tt, isiX_st, isiX_sb, isiX_si, isiX_bs, isiX_bt, isiX_is, isiX_it, isiX_ns, isiX_nt, 
  lenOk, decide_eq_true_eq, Nat.reduceAdd, Nat.reduceLeDiff, Nat.reduceEqDiff, Int.reduceEq, Bool.false_xor, Bool.true_xor, Bool.false_or, Bool.or_false, Bool.true_or, Bool.or_true, Bool.true_and, Bool.and_true, Bool.false_and, Bool.and_false, Bool.not_false, Bool.not_true, Bool.false_eq_true, if_true, if_false, reduceIte, ↓reduceIte, decide_true, decide_false, List.length_cons, List.length_nil])
local macro_rules | `(tactic| walk_at "pr") => `(tactic| ((try walk_at "pl"); try rfl))
local macro_rules | `(tactic| walk_at "wk") => `(tactic| try walk_at "pl")
local macro_rules | `(tactic| walk_at "we") => `(tactic| try walk_at "pe")

theorem wp_lcF {ρ : Ro} {δ : Type} (enc : δ → PyData) (P : List δ → List PyData → Prop) {a : C → Ro → M Ro} {c : Ro → M Bool} {e : Ro → M C} {Q : C → Prop} : ∀ (xs pre : List δ) (acc : List PyData), P pre acc →
    (∀ pre x acc, x ∈ xs → P pre acc → wp ((a (.val (enc x)) ρ).bind fun ρ1 => (c ρ1).bind fun b => if b = true then (e ρ1).bind fun y => .ret (some y) else .ret none) fun o => (o = none ∧ P (pre ++ [x]) acc) ∨ ∃ y, o = some (.val y) ∧ P (pre ++ [x]) (acc ++ [y])) → (∀ acc, P (pre ++ xs) acc → Q (.own (.lst acc))) → wp (lcL a c e (xs.map enc) ρ acc) Q
  | [], pre, acc, h, _, hq => by rw [List.map_nil, lcL_nil, wp_retE]; exact hq acc (by rw [List.append_nil]; exact h)
  | x :: xs, pre, acc, h, st, hq => by
    have next : ∀ acc, P (pre ++ [x]) acc → wp (lcL a c e (xs.map enc) ρ acc) Q := fun acc h => wp_lcF enc P xs (pre ++ [x]) acc h (fun pre y acc hy => st pre y acc (List.mem_cons_of_mem _ hy)) (fun acc ha => hq acc (by rw [List.append_assoc] at ha; exact ha))
    rw [List.map_cons, lcL_cons]
    have hx := st pre x acc List.mem_cons_self h
    rw [wp_bindE] at hx ⊢
    refine wp_mono (fun ρ1 h1 => ?_) hx
    rw [wp_bindE] at h1 ⊢
    refine wp_mono (fun b h2 => ?_) h1
    by_cases hb : b = true
    · rw [if_pos hb] at h2 ⊢
      rw [wp_bindE] at h2 ⊢
      refine wp_mono (fun y h3 => ?_) h2
      rw [wp_retE] at h3
      rcases h3 with ⟨e1, _⟩ | ⟨y', e1, h4⟩
      · cases e1
      · cases e1
        rw [kLc_v]
        exact next _ h4
    · rw [if_neg hb] at h2 ⊢
      rw [wp_retE] at h2
      rcases h2 with ⟨_, h4⟩ | ⟨y', e1, h4⟩
      · exact next _ h4
      · cases e1

theorem all_bools {δ : Type} (xs : List δ) (p : δ → Bool) : bigD (fun bs => bs.all id) (.list (xs.map fun x => PyData.bool (p x))) = .ret (.val (.bool (xs.all p))) := by
  rw [show (xs.map fun x => PyData.bool (p x)) = (xs.map p).map .bool by rw [List.map_map]; rfl, bigD_l, List.all_map]
  rfl

/-! formulas -/
inductive Xp where
  | leaf (d : PyData) (c t : Bool)
  | neg (x : Xp)
  | bin (w : Bool) (x y : Xp)
def wordB (w : Bool) : Str := if w then "or" else "and"
def Xp.d : Xp → PyData
  | .leaf d _ _ => d
  | .neg x => .tuple [.str "not", x.d]
  | .bin w x y => .tuple [.str (wordB w), x.d, y.d]
def Xp.ok : Xp → Prop
  | .leaf d c t => Leaf d c t
  | .neg x => x.ok
  | .bin _ x y => x.ok ∧ y.ok
def Xp.hi : Xp → Nat
  | .leaf _ _ _ => 1
  | .neg x => x.hi + 1
  | .bin _ x y => max x.hi y.hi + 1
def Xp.F : Xp → Bool
  | .leaf _ c t => c || t
  | .neg x => x.F
  | .bin _ x y => x.F && y.F
def Xp.T : Xp → List PyData
  | .leaf d c _ => if c then [] else [d]
  | .neg x => x.T
  | .bin _ x y => x.T ++ y.T
def Xp.L : Xp → List PyData
  | .leaf d _ t => if t then [d] else []
  | .neg x => x.L
  | .bin _ x y => x.L ++ y.L
theorem Xp.same : ∀ {x : Xp}, x.ok → x.F = true → x.T = x.L
  | .leaf d c t, h, f => by
    have h : Leaf d c t := h
    have f : (c || t) = true := f
    unfold Xp.T Xp.L
    cases h with
    | con _ => rfl
    | col => rfl
    | cond => cases f
    | one _ _ =>
      have f : (decide _) = true := f
      rw [if_neg (by decide), if_pos f]
    | cmp _ _ _ =>
      have f : (decide _) = true := f
      rw [if_neg (by decide), if_pos f]
  | .neg x, h, f => Xp.same (x := x) h f
  | .bin w x y, h, f => by
    have f : (x.F && y.F) = true := f
    rw [Bool.and_eq_true] at f
    unfold Xp.T Xp.L
    rw [Xp.same h.1 f.1, Xp.same h.2 f.2]
theorem parts_two {w : Str} (hw : w ∈ connS) {r : List PyData} (hr : r.length ≤ 2) : f_parts_of [.val (.tuple (.str w :: r))] = .ret (.val (.tuple r)) := by
  have hs : PyData.strOk w = true := conn_ok w hw
  have no : decide (w ∈ (["cell", "nothing", "column"] : List Str)) = false ∧ decide (w = ("in" : Str)) = false := by
    simp only [connS, List.mem_cons, List.not_mem_nil, or_false] at hw
    rcases hw with rfl | rfl | rfl <;> exact ⟨by decide +kernel, by decide +kernel⟩
  unfold f_parts_of
  walk_at "wk"
  rw [in_t (ds := [.str "cell", .str "nothing", .str "column"]) hs ["cell", "nothing", "column"] rfl (by decide +kernel), no.1]
  walk_at "wk"
  rw [if_neg (of_decide_eq_false no.2)]
  congr 3
  match r, hr with
  | [], _ => rfl
  | [a], _ => rfl
  | [a, b], _ => rfl
theorem word_conn (w : Bool) : wordB w ∈ connS := by cases w <;> decide +kernel
theorem is_formula_w : ∀ (n : Nat) (x : Xp), x.ok → x.hi ≤ n → wp (f_is_formula n [.val x.d]) (fun c => c = .val (.bool x.F))
  | 0, x, _, h => by cases x <;> (simp only [Xp.hi] at h; omega)
  | n + 1, x, ok, h => by
    unfold f_is_formula
    refine wp_fn rfl ?_
    have sub : ∀ xs : List Xp, xs.length ≤ 2 → (∀ y ∈ xs, y.ok ∧ y.hi ≤ n) → ∀ (ρ : Ro) {α : Type} {k : C → M α} {Q : α → Prop}, wp (k (.own (.lst (xs.map fun y => PyData.bool y.F)))) Q → wp ((lcL (asgR 1) gYes (gFn (f_is_formula n) (gaCons (gVar 1) gaNil)) (xs.map Xp.d) [some (.val x.d), none] []).bind k) Q := fun xs _ hx ρ α k Q q => by
      refine wp_call (fun c => c = .own (.lst (xs.map fun y => PyData.bool y.F))) ?_ (by rintro c rfl; exact q)
      refine wp_lcF Xp.d (fun pre acc => acc = pre.map fun y => PyData.bool y.F) xs [] [] rfl ?_ ?_
      · rintro pre y acc hy rfl
        walk_at "wk"
        refine wp_call _ (is_formula_w n y (hx y hy).1 (hx y hy).2) ?_
        rintro c rfl
        walk_at "wk"
        exact .inr ⟨_, rfl, by rw [List.map_append]; rfl⟩
      · rintro acc rfl
        rw [List.nil_append]
    cases x with
    | leaf d c t =>
      have ok : Leaf d c t := ok
      obtain ⟨w, r, e, hs, nc, ec⟩ := ok.head
      have hx : oIx (.val d) (.val (.int 0)) = .ret (.val (.str w)) := by rw [e]; exact head_ix
      rw [show (Xp.leaf d c t).d = d from rfl, show (Xp.leaf d c t).F = (c || t) from rfl]
      walk_at "wk"
      rw [hx]
      walk_at "wk"
      rw [show (C.val (.str w)).dat = some (.str w) from rfl, in_conn hs, decide_eq_false nc]
      walk_at "wk"
      rw [is_constant_eq ok]
      cases c with
      | true =>
        walk_at "wk"
        try rfl
      | false =>
        walk_at "wk"
        refine is_test_wp ok ?_
        walk_at "wk"
        try rfl
    | neg x =>
      have ok : x.ok := ok
      have h : x.hi + 1 ≤ n + 1 := h
      have hx : oIx (.val (Xp.neg x).d) (.val (.int 0)) = .ret (.val (.str "not")) := head_ix
      have hp : f_parts_of [.val (Xp.neg x).d] = .ret (.val (.tuple ([x].map Xp.d))) := parts_two (w := "not") (by decide +kernel) (by simp)
      walk_at "wk"
      rw [hx]
      walk_at "wk"
      rw [show (C.val (.str "not")).dat = some (.str "not") from rfl, in_conn (by decide +kernel), show decide (("not" : Str) ∈ connS) = true by decide +kernel]
      walk_at "wk"
      rw [hp]
      walk_at "wk"
      rw [if_pos (by simp)]
      refine sub [x] (by simp) (fun y hy => by rw [List.mem_singleton.mp hy]; exact ⟨ok, by omega⟩) [] ?_
      walk_at "wk"
      rw [all_bools [x] Xp.F]
      walk_at "wk"
      show C.val (.bool (x.F && true)) = .val (.bool x.F)
      rw [Bool.and_true]
    | bin w x y =>
      have ok : x.ok ∧ y.ok := ok
      have h : max x.hi y.hi + 1 ≤ n + 1 := h
      have hx : oIx (.val (Xp.bin w x y).d) (.val (.int 0)) = .ret (.val (.str (wordB w))) := head_ix
      have hp : f_parts_of [.val (Xp.bin w x y).d] = .ret (.val (.tuple ([x, y].map Xp.d))) := parts_two (word_conn w) (by simp)
      walk_at "wk"
      rw [hx]
      walk_at "wk"
      rw [show (C.val (.str (wordB w))).dat = some (.str (wordB w)) from rfl, in_conn (conn_ok _ (word_conn w)), decide_eq_true (word_conn w)]
      walk_at "wk"
      rw [hp]
      walk_at "wk"
      rw [if_pos (by simp)]
      refine sub [x, y] (by simp) (fun z hz => by
        simp only [List.mem_cons, List.not_mem_nil, or_false] at hz
        rcases hz with rfl | rfl
        · exact ⟨ok.1, by omega⟩
        · exact ⟨ok.2, by omega⟩) [] ?_
      walk_at "wk"
      rw [all_bools [x, y] Xp.F]
      walk_at "wk"
      show C.val (.bool (x.F && (y.F && true))) = .val (.bool (x.F && y.F))
      rw [Bool.and_true]
theorem wordB_no (w : Bool) : (wordB w = "not") = False ∧ (decide (wordB w = "and") || decide (wordB w = "or")) = true := by cases w <;> exact ⟨by decide +kernel, by decide +kernel⟩
theorem law_formula_w : ∀ (n : Nat) (x : Xp), x.ok → x.hi ≤ n → wp (f_law_is_formula n [.val x.d]) (fun c => c = .val (.bool x.F))
  | 0, x, _, h => by cases x <;> (simp only [Xp.hi] at h; omega)
  | n + 1, x, ok, h => by
    unfold f_law_is_formula
    refine wp_fn rfl ?_
    cases x with
    | leaf d c t =>
      have ok : Leaf d c t := ok
      obtain ⟨w, r, e, hs, nc, ec⟩ := ok.head
      have hx : oIx (.val d) (.val (.int 0)) = .ret (.val (.str w)) := by rw [e]; exact head_ix
      have n1 : w ≠ "not" := fun z => nc (by rw [z]; decide +kernel)
      have n2 : ¬ (decide (w = "and") || decide (w = "or")) = true := by
        rw [Bool.or_eq_true, decide_eq_true_eq, decide_eq_true_eq]
        rintro (z | z) <;> exact nc (by rw [z]; decide +kernel)
      rw [show (Xp.leaf d c t).d = d from rfl, show (Xp.leaf d c t).F = (c || t) from rfl]
      walk_at "wk"
      rw [hx]
      walk_at "wk"
      rw [if_neg n1, if_neg n2]
      by_cases h1 : w = "cell"
      · have : c = true := by rw [ec, h1]; decide +kernel
        subst this
        rw [decide_eq_true h1]
        walk_at "wk"
        try rfl
      · by_cases h2 : w = "nothing"
        · have : c = true := by rw [ec, h2]; decide +kernel
          subst this
          rw [decide_eq_false h1, decide_eq_true h2]
          walk_at "wk"
          try rfl
        · have : c = false := by rw [ec, decide_eq_false]; simp [h1, h2]
          subst this
          rw [decide_eq_false h1, decide_eq_false h2]
          walk_at "wk"
          refine law_is_test_wp ok ?_
          walk_at "wk"
          try rfl
    | neg x =>
      have ok : x.ok := ok
      have h : x.hi + 1 ≤ n + 1 := h
      have hx : oIx (.val (Xp.neg x).d) (.val (.int 0)) = .ret (.val (.str "not")) := head_ix
      have hy : oIx (.val (Xp.neg x).d) (.val (.int 1)) = .ret (.val x.d) := rfl
      walk_at "wk"
      rw [hx]
      walk_at "wk"
      rw [hy]
      walk_at "wk"
      refine wp_call _ (law_formula_w n x ok (by omega)) ?_
      rintro c rfl
      walk_at "wk"
      rfl
    | bin w x y =>
      have ok : x.ok ∧ y.ok := ok
      have h : max x.hi y.hi + 1 ≤ n + 1 := h
      have hx : oIx (.val (Xp.bin w x y).d) (.val (.int 0)) = .ret (.val (.str (wordB w))) := head_ix
      have hy : oIx (.val (Xp.bin w x y).d) (.val (.int 1)) = .ret (.val x.d) := rfl
      have hz : oIx (.val (Xp.bin w x y).d) (.val (.int 2)) = .ret (.val y.d) := rfl
      walk_at "wk"
      rw [hx]
      walk_at "wk"
      rw [if_neg (by rw [(wordB_no w).1]; exact id), if_pos (wordB_no w).2, hy]
      walk_at "wk"
      refine wp_call _ (law_formula_w n x ok.1 (by omega)) ?_
      rintro c rfl
      rw [show (Xp.bin w x y).F = (x.F && y.F) from rfl]
      cases x.F with
      | false =>
        walk_at "wk"
        try rfl
      | true =>
        walk_at "wk"
        rw [hz]
        walk_at "wk"
        refine wp_call _ (law_formula_w n y ok.2 (by omega)) ?_
        rintro c rfl
        walk_at "wk"
        try rfl
theorem Xp.L_le : ∀ x : Xp, x.L.length ≤ 2 ^ x.hi ∧ x.T.length ≤ 2 ^ x.hi
  | .leaf d c t => by
    unfold Xp.L Xp.T Xp.hi
    constructor <;> split <;> simp
  | .neg x => by
    obtain ⟨h1, h2⟩ := Xp.L_le x
    show x.L.length ≤ 2 ^ (x.hi + 1) ∧ x.T.length ≤ 2 ^ (x.hi + 1)
    rw [Nat.pow_succ]
    omega
  | .bin w x y => by
    obtain ⟨h1, h2⟩ := Xp.L_le x
    obtain ⟨k1, k2⟩ := Xp.L_le y
    show (x.L ++ y.L).length ≤ 2 ^ (max x.hi y.hi + 1) ∧ (x.T ++ y.T).length ≤ 2 ^ (max x.hi y.hi + 1)
    have p1 : 2 ^ x.hi ≤ 2 ^ max x.hi y.hi := Nat.pow_le_pow_right (by decide) (Nat.le_max_left _ _)
    have p2 : 2 ^ y.hi ≤ 2 ^ max x.hi y.hi := Nat.pow_le_pow_right (by decide) (Nat.le_max_right _ _)
    rw [List.length_append, List.length_append, Nat.pow_succ]
    omega
theorem Xp.L_len (x : Xp) (h : x.hi ≤ 8) : x.L.length ≤ 256 := Nat.le_trans (Xp.L_le x).1 (Nat.pow_le_pow_right (n := 2) (by decide) h)
theorem Xp.T_len (x : Xp) (h : x.hi ≤ 8) : x.T.length ≤ 256 := Nat.le_trans (Xp.L_le x).2 (Nat.pow_le_pow_right (n := 2) (by decide) h)
theorem law_tests_w : ∀ (n : Nat) (x : Xp), x.ok → x.hi ≤ n → n ≤ 8 → wp (f_law_tests n [.val x.d]) (fun c => c = .own (.lst x.L))
  | 0, x, _, h, _ => by cases x <;> (simp only [Xp.hi] at h; omega)
  | n + 1, x, ok, h, h8 => by
    unfold f_law_tests
    refine wp_fn rfl ?_
    cases x with
    | leaf d c t =>
      have ok : Leaf d c t := ok
      obtain ⟨w, r, e, hs, nc, ec⟩ := ok.head
      have hx : oIx (.val d) (.val (.int 0)) = .ret (.val (.str w)) := by rw [e]; exact head_ix
      have n1 : w ≠ "not" := fun z => nc (by rw [z]; decide +kernel)
      have n2 : ¬ (decide (w = "and") || decide (w = "or")) = true := by
        rw [Bool.or_eq_true, decide_eq_true_eq, decide_eq_true_eq]
        rintro (z | z) <;> exact nc (by rw [z]; decide +kernel)
      rw [show (Xp.leaf d c t).d = d from rfl]
      walk_at "wk"
      rw [hx]
      walk_at "wk"
      rw [if_neg n1, if_neg n2]
      refine law_is_test_wp ok ?_
      cases t with
      | true =>
        walk_at "wk"
        try rfl
      | false =>
        walk_at "wk"
        try rfl
    | neg x =>
      have ok : x.ok := ok
      have h : x.hi + 1 ≤ n + 1 := h
      have hx : oIx (.val (Xp.neg x).d) (.val (.int 0)) = .ret (.val (.str "not")) := head_ix
      have hy : oIx (.val (Xp.neg x).d) (.val (.int 1)) = .ret (.val x.d) := rfl
      walk_at "wk"
      rw [hx]
      walk_at "wk"
      rw [hy]
      walk_at "wk"
      refine wp_call _ (law_tests_w n x ok (by omega) (by omega)) ?_
      rintro c rfl
      walk_at "wk"
      rfl
    | bin w x y =>
      have ok : x.ok ∧ y.ok := ok
      have h : max x.hi y.hi + 1 ≤ n + 1 := h
      have hx : oIx (.val (Xp.bin w x y).d) (.val (.int 0)) = .ret (.val (.str (wordB w))) := head_ix
      have hy : oIx (.val (Xp.bin w x y).d) (.val (.int 1)) = .ret (.val x.d) := rfl
      have hz : oIx (.val (Xp.bin w x y).d) (.val (.int 2)) = .ret (.val y.d) := rfl
      walk_at "wk"
      rw [hx]
      walk_at "wk"
      rw [if_neg (by rw [(wordB_no w).1]; exact id), if_pos (wordB_no w).2, hy]
      walk_at "wk"
      refine wp_call _ (law_tests_w n x ok.1 (by omega) (by omega)) ?_
      rintro c rfl
      walk_at "wk"
      rw [hz]
      walk_at "wk"
      refine wp_call _ (law_tests_w n y ok.2 (by omega) (by omega)) ?_
      rintro c rfl
      walk_at "wk"
      have l1 := Xp.L_len x (by omega)
      have l2 := Xp.L_len y (by omega)
      rw [if_pos (by omega)]
      walk_at "wk"
      rfl
theorem lcI_all {A B : Option C} : ∀ (es acc : List PyData) (k : List PyData → M C), acc.length + es.length ≤ 1000000 → lcI (asgR 2) gYes (gVar 2) es [A, B, none] acc k = k (acc ++ es)
  | [], acc, k, _ => by rw [List.append_nil]; rfl
  | d :: es, acc, k, h => by
    rw [List.length_cons] at h
    have st : lcI (asgR 2) gYes (gVar 2) (d :: es) [A, B, none] acc k = if lenOk (acc.length + 1) = true then lcI (asgR 2) gYes (gVar 2) es [A, B, none] (acc ++ [d]) k else .fail := rfl
    rw [st, if_pos (show lenOk (acc.length + 1) = true from decide_eq_true (by omega)), lcI_all es (acc ++ [d]) k (by rw [List.length_append, List.length_singleton]; omega), List.append_assoc]
    rfl
theorem tests_eq : ∀ (n : Nat) (x : Xp), x.ok → x.hi ≤ n → n ≤ 8 → f_tests_of n [.val x.d] = .ret (.val (.tuple x.T))
  | 0, x, _, h, _ => by cases x <;> (simp only [Xp.hi] at h; omega)
  | n + 1, x, ok, h, h8 => by
    have sub : ∀ (z : C) (xs : List Xp) (acc : List PyData), (∀ y ∈ xs, y.ok ∧ y.hi ≤ n) → acc.length + 256 * xs.length ≤ 10000 → lcL2 (asgR 1) gYes (gItI (gFn (f_tests_of n) (gaCons (gVar 1) gaNil))) (asgR 2) gYes (gVar 2) [2] (xs.map Xp.d) [some z, none, none] acc = .ret (.own (.lst (acc ++ xs.flatMap Xp.T))) := fun z xs => by
      induction xs with
      | nil => intro acc _ _; rw [List.flatMap_nil, List.append_nil]; rfl
      | cons y ys ih =>
        intro acc hx hl
        rw [List.length_cons] at hl
        have hy := hx y List.mem_cons_self
        have tl := Xp.T_len y (by omega)
        have st : lcL2 (asgR 1) gYes (gItI (gFn (f_tests_of n) (gaCons (gVar 1) gaNil))) (asgR 2) gYes (gVar 2) [2] ((y :: ys).map Xp.d) [some z, none, none] acc = (gItI (gFn (f_tests_of n) (gaCons (gVar 1) gaNil)) [some z, some (.val y.d), none]).bind fun es => lcI (asgR 2) gYes (gVar 2) es [some z, some (.val y.d), none] acc fun acc => lcL2 (asgR 1) gYes (gItI (gFn (f_tests_of n) (gaCons (gVar 1) gaNil))) (asgR 2) gYes (gVar 2) [2] (ys.map Xp.d) [some z, none, none] acc := rfl
        have it : gItI (gFn (f_tests_of n) (gaCons (gVar 1) gaNil)) [some z, some (.val y.d), none] = .ret y.T := by
          walk_at "wk"
          rw [tests_eq n y hy.1 hy.2 (by omega)]
          walk_at "wk"
        rw [st, it, retB, lcI_all _ _ _ (by omega), ih _ (fun w hw => hx w (List.mem_cons_of_mem _ hw)) (by rw [List.length_append]; omega), List.flatMap_cons, List.append_assoc]
    unfold f_tests_of
    cases x with
    | leaf d c t =>
      have ok : Leaf d c t := ok
      obtain ⟨w, r, e, hs, nc, ec⟩ := ok.head
      have hx : oIx (.val d) (.val (.int 0)) = .ret (.val (.str w)) := by rw [e]; exact head_ix
      rw [show (Xp.leaf d c t).d = d from rfl, show (Xp.leaf d c t).T = (if c then [] else [d]) from rfl]
      walk_at "wk"
      rw [hx]
      walk_at "wk"
      rw [show (C.val (.str w)).dat = some (.str w) from rfl, in_conn hs, decide_eq_false nc]
      walk_at "wk"
      rw [is_constant_eq ok]
      cases c <;> (walk_at "wk"; try rfl)
    | neg x =>
      have ok : x.ok := ok
      have h : x.hi + 1 ≤ n + 1 := h
      have hx : oIx (.val (Xp.neg x).d) (.val (.int 0)) = .ret (.val (.str "not")) := head_ix
      have hp : f_parts_of [.val (Xp.neg x).d] = .ret (.val (.tuple ([x].map Xp.d))) := parts_two (w := "not") (by decide +kernel) (by simp)
      walk_at "wk"
      rw [hx]
      walk_at "wk"
      rw [show (C.val (.str "not")).dat = some (.str "not") from rfl, in_conn (by decide +kernel), show decide (("not" : Str) ∈ connS) = true by decide +kernel]
      walk_at "wk"
      rw [hp]
      walk_at "wk"
      rw [sub _ [x] [] (fun y hy => by rw [List.mem_singleton.mp hy]; exact ⟨ok, by omega⟩) (by simp)]
      walk_at "wk"
      rw [List.nil_append, List.flatMap_cons, List.flatMap_nil, List.append_nil]
      rfl
    | bin w x y =>
      have ok : x.ok ∧ y.ok := ok
      have h : max x.hi y.hi + 1 ≤ n + 1 := h
      have hx : oIx (.val (Xp.bin w x y).d) (.val (.int 0)) = .ret (.val (.str (wordB w))) := head_ix
      have hp : f_parts_of [.val (Xp.bin w x y).d] = .ret (.val (.tuple ([x, y].map Xp.d))) := parts_two (word_conn w) (by simp)
      walk_at "wk"
      rw [hx]
      walk_at "wk"
      rw [show (C.val (.str (wordB w))).dat = some (.str (wordB w)) from rfl, in_conn (conn_ok _ (word_conn w)), decide_eq_true (word_conn w)]
      walk_at "wk"
      rw [hp]
      walk_at "wk"
      rw [sub _ [x, y] [] (fun z hz => by
        simp only [List.mem_cons, List.not_mem_nil, or_false] at hz
        rcases hz with rfl | rfl
        · exact ⟨ok.1, by omega⟩
        · exact ⟨ok.2, by omega⟩) (by simp)]
      walk_at "wk"
      rw [List.nil_append, List.flatMap_cons, List.flatMap_cons, List.flatMap_nil, List.append_nil]
      rfl

local macro_rules | `(tactic| walk_at "pe") => `(tactic| simp (config := {maxSteps := 2000000}) only [bind_bind, bindR, retB, failB, anyB, iteB, wp_retE, wp_failE,
  ↓kSeq_nx, ↓kSeq_rt, ↓kSeq_bk, ↓kSeq_ct, ↓mNext_eq, ↓mBreak_eq, ↓mCont_eq, ↓mDrop_eq, ↓mRet_eq, ↓mRetN_eq, ↓mAsg_eq, ↓mIf_eq, ↓gVar_eq, gAt_v, gAt_o, gAt_b, gAt_t, ↓mRetV_eq, rAt_s, ↓asgR_eq, aAt_v, aAt_o,
  get_0, get_s, set_0', set_s', List.getElem?_cons_zero, List.getElem?_cons_succ, List.set_cons_zero, List.set_cons_succ, ↓aNil_eq, ↓aCons_eq, ↓aTup_eq, ↓mPar_eq, ↓kPar_v, ↓gC_eq, ↓gaNil_eq, ↓gaCons_eq, ↓gTupE_eq, ↓gLst_eq, ↓gOp_eq, ↓gUn_eq, ↓gCall_eq, ↓gFn_eq, map_nilC, map_consC, lend_v, lend_o, lend_b, lend_t,
  ↓gTru_eq, ↓gTest_eq, oBl_b, oTru_v, oTru_o, oTru_b, truD_n, truD_b, truD_i, truD_t, mAnd_r, mOr_r, mAnd_t, mAnd_f, mOr_t, mOr_f, ↓gAnd_eq, ↓gOr_eq, ↓gNot_eq, mAndC_r, mAndC_f, mOrC_r, ↓gAndT_eq, ↓gOrT_eq, ↓gNotT_eq, ↓gIfE_eq, ↓gChain_eq, ↓gNo_eq, ↓gSome_eq, oInt?_i, ↓gSl_eq, oSl_t, oSl_b, ↓gSl2_eq, kSl2_t,
  ↓gIt_eq, ↓gItV_eq, kItV_v, kItV_b, kItV_o, itV_t, itV_s, itV_b, itV_o, itD_t, itD_s, itD_o, ↓gItR1_eq, ↓gItR2_eq, ↓gItR3_eq, itR3_i, itR1_i, itR2_i, ↓gLc_eq, wipe_n, wipe_c, ↓gYes_eq, ↓gR1_eq, kR1_i, ↓gR2_eq, kR2_i, ↓gLstRg_eq, ↓gTupRg_eq, ↓mFor_eq, ↓mForV_eq, ↓mForRev_eq, kForRev_o, kForRev_t, kForV_o, kForV_b, kForV_t, kForV_s, ↓mApp_eq, appAt_o, kApp_v,
  ↓fnU_eq, rp_0, rp_s, ap_n, ap_c, ms_n, ms_c, out_rt, out_nx, oAdd_i, oAdd_s, oAdd_t, oAdd_oo, oAdd_bo, oAdd_bb, oAdd_ob, oInt_v, oMul_i, oNeg_i, oEq_i, oNe_i, oEq_b, oNe_b, oEq_s, oNe_s, oIx_t, oIx_s, oIx_o, oIx_b, atD_0, atD_1, atD_2, atD_3, atD_4, atD_5, atD_6, atD_7, atD_8, datas_n, datas_v, mp_some, oTup_eq, oLst_eq, kTup_s, kLst_s, len_n, len_c,
  o1_v, o1_o, o1_b, lenD_t, lenD_l, lenD_s, absD_i, intD_i, intD_b, oMax2_i, oMin2_i, oGcd_i, oListC_t, oListC_o, oListC_b, oTupC_t, oTupC_o, oTupC_b, isi_bi, isi_ii, isi_ib, isi_bb, isi_ni, isi_ss, isi_nb, oIsi_v, tyD_b, tyD_i, tyD_s, tyD_n, oIsX_n, oIsX_b, isN_n, isN_i, isN_b, isN_s, isN_t, aUnl_o, aUnl_b, oIx_l, ↓gTRev_eq, ↓gInK_eq, ↓gInKd_eq, oTRev_t, ↓gEnT_eq, enC_t, ↓gDZip_eq, kForV_l, truD_l, oSl_l, itD_l, itV_l, oListC_l, oTupC_l, kIdxL_l, oAdd_lo, oAdd_ol, oAdd_ll, oAdd_lb, oAdd_bl, ↓mFrz_eq, kFrz_o, kFrz_v, kFrz_b, kFrz_n, ↓gFrz_eq, frzC_o, frzC_v, ↓gItI_eq, itI_t, itI_l, itI_s, ↓gDcT_eq, ↓gLc2_eq, ↓gLock_eq, lockAt_o, lockC_v, lockC_o, ↓gKeys_eq, keysAt_b, ↓mDPut_eq, dputAt_T, dputAt_K, ↓gNewT_eq, ↓gNewK_eq, ↓gDGet1_eq, ↓mSetAt_eq, setAt_o, ↓mAugI_eq, augAt_i, kAug_i, ↓gZip_eq, zipD_t, ↓gIdxL_eq, kIdxL_b, kIdxL_o, idxA_v, ↓gIdxK_eq, ↓gSix_eq, kSix_s, oLtU_i, oLtU_s, oLtU_b, ↓gFnD_eq, ↓gFnK_eq, kFnK_21, mOrCt, mOrCf, mAndCt, mAndCf, ↓gF_eq, ↓gFt_eq, ↓mF_eq, oIsiX_v, tyX_b, tyX_i, tyX_s, tyX_n, tyX_t, isiX_ts, isiX_tb, isiX_ti, isiX_tt, isiX_st, isiX_sb, isiX_si, isiX_bs, isiX_bt, isiX_is, isiX_it, isiX_ns, isiX_nt, 
  lenOk, decide_eq_true_eq, Nat.reduceAdd, Nat.reduceLeDiff, Nat.reduceEqDiff, Int.reduceEq, Bool.false_xor, Bool.true_xor, Bool.false_or, Bool.or_false, Bool.true_or, Bool.or_true, Bool.true_and, Bool.and_true, Bool.false_and, Bool.and_false, Bool.not_false, Bool.not_true, Bool.false_eq_true, if_true, if_false, reduceIte, ↓reduceIte, decide_true, decide_false, List.length_cons, List.length_nil])
local macro_rules | `(tactic| walk_at "pl") => `(tactic| simp (config := {maxSteps := 2000000}) only [bind_bind, bindR, retB, failB, anyB, iteB, wp_retE, wp_failE,
  ↓mSeq_eq, ↓kSeq_nx, ↓kSeq_rt, ↓kSeq_bk, ↓kSeq_ct, ↓mNext_eq, ↓mBreak_eq, ↓mCont_eq, ↓mDrop_eq, ↓mRet_eq, ↓mRetN_eq, ↓mAsg_eq, ↓mIf_eq, ↓gVar_eq, gAt_v, gAt_o, gAt_b, gAt_t, ↓mRetV_eq, rAt_s, ↓asgR_eq, aAt_v, aAt_o,
  get_0, get_s, set_0', set_s', List.getElem?_cons_zero, List.getElem?_cons_succ, List.set_cons_zero, List.set_cons_succ, ↓aNil_eq, ↓aCons_eq, ↓aTup_eq, ↓mPar_eq, ↓kPar_v, ↓gC_eq, ↓gaNil_eq, ↓gaCons_eq, ↓gTupE_eq, ↓gLst_eq, ↓gOp_eq, ↓gUn_eq, ↓gCall_eq, ↓gFn_eq, map_nilC, map_consC, lend_v, lend_o, lend_b, lend_t,
  ↓gTru_eq, ↓gTest_eq, oBl_b, oTru_v, oTru_o, oTru_b, truD_n, truD_b, truD_i, truD_t, mAnd_r, mOr_r, mAnd_t, mAnd_f, mOr_t, mOr_f, ↓gAnd_eq, ↓gOr_eq, ↓gNot_eq, mAndC_r, mAndC_f, mOrC_r, ↓gAndT_eq, ↓gOrT_eq, ↓gNotT_eq, ↓gIfE_eq, ↓gChain_eq, ↓gNo_eq, ↓gSome_eq, oInt?_i, ↓gSl_eq, oSl_t, oSl_b, ↓gSl2_eq, kSl2_t,
  ↓gIt_eq, ↓gItV_eq, kItV_v, kItV_b, kItV_o, itV_t, itV_s, itV_b, itV_o, itD_t, itD_s, itD_o, ↓gItR1_eq, ↓gItR2_eq, ↓gItR3_eq, itR3_i, itR1_i, itR2_i, ↓gLc_eq, wipe_n, wipe_c, ↓gYes_eq, ↓gR1_eq, kR1_i, ↓gR2_eq, kR2_i, ↓gLstRg_eq, ↓gTupRg_eq, ↓mFor_eq, ↓mForV_eq, ↓mForRev_eq, kForRev_o, kForRev_t, kForV_o, kForV_b, kForV_t, kForV_s, ↓mApp_eq, appAt_o, kApp_v,
  ↓fnU_eq, rp_0, rp_s, ap_n, ap_c, ms_n, ms_c, out_rt, out_nx, oAdd_i, oAdd_s, oAdd_t, oAdd_oo, oAdd_bo, oAdd_bb, oAdd_ob, oInt_v, oMul_i, oNeg_i, oEq_i, oNe_i, oEq_b, oNe_b, oEq_s, oNe_s, oIx_t, oIx_s, oIx_o, oIx_b, atD_0, atD_1, atD_2, atD_3, atD_4, atD_5, atD_6, atD_7, atD_8, datas_n, datas_v, mp_some, oTup_eq, oLst_eq, kTup_s, kLst_s, len_n, len_c,
  o1_v, o1_o, o1_b, lenD_t, lenD_l, lenD_s, absD_i, intD_i, intD_b, oMax2_i, oMin2_i, oGcd_i, oListC_t, oListC_o, oListC_b, oTupC_t, oTupC_o, oTupC_b, isi_bi, isi_ii, isi_ib, isi_bb, isi_ni, isi_ss, isi_nb, oIsi_v, tyD_b, tyD_i, tyD_s, tyD_n, oIsX_n, oIsX_b, isN_n, isN_i, isN_b, isN_s, isN_t, aUnl_o, aUnl_b, oIx_l, ↓gTRev_eq, ↓gInK_eq, ↓gInKd_eq, oTRev_t, ↓gEnT_eq, enC_t, ↓gDZip_eq, kForV_l, truD_l, oSl_l, itD_l, itV_l, oListC_l, oTupC_l, kIdxL_l, oAdd_lo, oAdd_ol, oAdd_ll, oAdd_lb, oAdd_bl, ↓mFrz_eq, kFrz_o, kFrz_v, kFrz_b, kFrz_n, ↓gFrz_eq, frzC_o, frzC_v, ↓gItI_eq, itI_t, itI_l, itI_s, ↓gDcT_eq, ↓gLc2_eq, ↓gLock_eq, lockAt_o, lockC_v, lockC_o, ↓gKeys_eq, keysAt_b, ↓mDPut_eq, dputAt_T, dputAt_K, ↓gNewT_eq, ↓gNewK_eq, ↓gDGet1_eq, ↓mSetAt_eq, setAt_o, ↓mAugI_eq, augAt_i, kAug_i, ↓gZip_eq, zipD_t, ↓gIdxL_eq, kIdxL_b, kIdxL_o, idxA_v, ↓gIdxK_eq, ↓gSix_eq, kSix_s, oLtU_i, oLtU_s, oLtU_b, ↓gFnD_eq, ↓gFnK_eq, kFnK_21, mOrCt, mOrCf, mAndCt, mAndCf, ↓gF_eq, ↓gFt_eq, ↓mF_eq, oIsiX_v, tyX_b, tyX_i, tyX_s, tyX_n, tyX_t, isiX_ts, isiX_tb, isiX_ti, isiX_tt, isiX_st, isiX_sb, isiX_si, isiX_bs, isiX_bt, isiX_is, isiX_it, isiX_ns, isiX_nt, 
  lenOk, decide_eq_true_eq, Nat.reduceAdd, Nat.reduceLeDiff, Nat.reduceEqDiff, Int.reduceEq, Bool.false_xor, Bool.true_xor, Bool.false_or, Bool.or_false, Bool.true_or, Bool.or_true, Bool.true_and, Bool.and_true, Bool.false_and, Bool.and_false, Bool.not_false, Bool.not_true, Bool.false_eq_true, if_true, if_false, reduceIte, ↓reduceIte, decide_true, decide_false, List.length_cons, List.length_nil])
local macro_rules | `(tactic| walk_at "pr") => `(tactic| ((try walk_at "pl"); try rfl))
local macro_rules | `(tactic| walk_at "wk") => `(tactic| try walk_at "pl")
local macro_rules | `(tactic| walk_at "we") => `(tactic| try walk_at "pe")

theorem atS_at {m : List Nat} {i : Int} (h : m.length ≤ 16777216) (h0 : 0 ≤ i) (h1 : i < m.length) : ∃ c ∈ m, atS (S m) i = .ret (.val (.str (S [c]))) := by
  have hb : i.toNat < m.length := by omega
  refine ⟨m[i.toNat], List.getElem_mem hb, ?_⟩
  unfold atS
  rw [if_pos (lenOk_ok (by rw [S_len]; exact h)), S_codes]
  have e : atI m i = some m[i.toNat] := by
    have := atI_nat (List.getElem?_eq_getElem hb)
    rw [Int.toNat_of_nonneg h0] at this
    exact this
  rw [e]
  rfl

def Wd (n : Nat) (z : Str) : Prop := ∃ l : List Nat, z = ⟨l.toArray⟩ ∧ (∀ c ∈ l, c < 128) ∧ l.length ≤ n
theorem Wd.up {m n : Nat} {z : Str} (h : Wd m z) (e : m ≤ n) : Wd n z := by
  obtain ⟨l, h1, h2, h3⟩ := h
  exact ⟨l, h1, h2, by omega⟩
theorem Wd.ok {n : Nat} {z : Str} (h : Wd n z) : plainD (.str z) = true ∧ PyData.strOk z = true ∧ z.length ≤ n := by
  obtain ⟨l, rfl, h2, h3⟩ := h
  refine ⟨?_, ?_, by simpa [Str.length] using h3⟩
  · simp only [plainD, smallStr]
    exact List.all_eq_true.mpr fun c hc => decide_eq_true (by have := h2 c (by simpa using hc); omega)
  · unfold PyData.strOk
    rw [Array.all_eq_true_iff_forall_mem]
    intro c hc
    have := h2 c (by simpa using hc)
    exact decide_eq_true (by omega)
theorem Wd.snoc {n m : Nat} {y z : Str} (h : Wd n y) (k : Wd m z) : Wd (n + m) (y ++ z) := by
  obtain ⟨l, rfl, h2, h3⟩ := h
  obtain ⟨l', rfl, k2, k3⟩ := k
  refine ⟨l ++ l', by show Str.mk _ = Str.mk _; simp, fun c hc => ?_, by rw [List.length_append]; omega⟩
  rcases List.mem_append.mp hc with z | z
  · exact h2 c z
  · exact k2 c z
theorem word_wp {α : Type} {k : C → M α} {Q : α → Prop} (q : ∀ z, Wd 5 z → wp (k (.val (.str z))) Q) : wp ((f_law_word [.tape]).bind k) Q := by
  refine wp_call (fun c => ∃ z, Wd 5 z ∧ c = .val (.str z)) ?_ (by rintro c ⟨z, h, rfl⟩; exact q z h)
  unfold f_law_word
  refine wp_fn rfl ?_
  walk_at "wk"
  refine wp_drawn (by decide) fun a a0 a1 => ?_
  walk_at "wk"
  refine wp_pick a0 (by simp only [List.length_cons, List.length_nil]; omega) fun d hd => ?_
  have : ∃ j : Int, d = .int j ∧ 0 ≤ j ∧ j ≤ 5 := by
    simp only [List.mem_cons, List.not_mem_nil, or_false] at hd
    rcases hd with rfl | rfl | rfl | rfl | rfl | rfl <;> exact ⟨_, rfl, by omega, by omega⟩
  obtain ⟨j, rfl, j0, j1⟩ := this
  walk_at "wk"
  rw [if_pos (rngOk_ok (by omega) (by omega))]
  walk_at "wk"
  generalize hS : ((" !\"#$&'()*+,-./0123456789:;<=>?@ABCDEFGHIJKLMNOPQRSTUVWXYZ[\\]^_`" : Str) ++ ("abcdefghijklmnopqrstuvwxyz{|}~" : Str)) = Sg
  have sg : ∀ c ∈ Sg.cps.toList, c < 128 := by rw [← hS]; decide +kernel
  have sl : Sg.cps.toList.length = 94 := by rw [← hS]; decide +kernel
  have at_ : ∀ b : Int, 0 ≤ b → b < 94 → ∃ y, Wd 1 y ∧ atS Sg b = .ret (.val (.str y)) := fun b b0 b1 => by
    obtain ⟨c, hc, e⟩ := atS_at (m := Sg.cps.toList) (i := b) (by omega) b0 (by omega)
    refine ⟨S [c], ⟨[c], rfl, fun x hx => by rw [List.mem_singleton.mp hx]; exact sg c hc, by simp⟩, ?_⟩
    rw [show S Sg.cps.toList = Sg by unfold S; simp] at e
    exact e
  refine wp_call (fun r => ∃ z z3, Wd 5 z ∧ r = .nx [some .tape, some (.val (.str Sg)), some (.val (.str z)), z3]) ?_ ?_
  · refine wp_turns (n := j.toNat) (fun i ρ => ∃ z z3, Wd i z ∧ ρ = [some .tape, some (.val (.str Sg)), some (.val (.str z)), z3]) ?_ ?_ ⟨"", none, ⟨[], rfl, by simp, by simp⟩, rfl⟩
    · rintro ρ ⟨z, z3, h, rfl⟩
      exact ⟨z, z3, h.up (by omega), rfl⟩
    rintro i es ρ hi ⟨z, z3, h, rfl⟩
    walk_at "wk"
    refine wp_drawn (by decide) fun b b0 b1 => ?_
    obtain ⟨y, hy, e⟩ := at_ b b0 (by omega)
    walk_at "wk"
    rw [e]
    walk_at "wk"
    rw [if_pos (by have := h.ok.2.2; have := hy.ok.2.2; omega)]
    walk_at "wk"
    exact ⟨z ++ y, _, h.snoc hy, rfl⟩
  rintro r ⟨z, z3, h, rfl⟩
  walk_at "wk"
  exact ⟨z, h, rfl⟩

def gc (n d : Int) : Int := ((Nat.gcd n.natAbs d.natAbs : Nat) : Int)
theorem gcdl : ∀ (k : Nat) (n d a b : Int) (z : Option C), 0 ≤ a → 0 ≤ b → b.natAbs < k → ∃ z', whlL (gTest (gOp oGt (gVar 3) (gC (.int 0)))) (mSeq (mAsg (gOp oMod (gCall oIntC (gaCons (gVar 2) gaNil)) (gVar 3)) (asgR 4))
      (mSeq (mAsg (gVar 3) (asgR 2))
      (mAsg (gVar 4) (asgR 3)))) k [some (.val (.int n)), some (.val (.int d)), some (.val (.int a)), some (.val (.int b)), z] = .ret (.nx [some (.val (.int n)), some (.val (.int d)), some (.val (.int (gc a b))), some (.val (.int 0)), z'])
  | 0, n, d, a, b, z, _, _, h => absurd h (Nat.not_lt_zero _)
  | k + 1, n, d, a, b, z, ha, hb, h => by
    unfold whlL
    walk_at "wk"
    by_cases h0 : 0 < b
    · rw [if_pos h0]
      rw [if_pos (cMod_ok h0)]
      have h1 := Int.emod_nonneg a (show b ≠ 0 by omega)
      have h2 := Int.emod_lt_of_pos a h0
      obtain ⟨z', e⟩ := gcdl k n d b (a % b) (some (.val (.int (a % b)))) (by omega) h1 (by omega)
      refine ⟨z', ?_⟩
      rw [e]
      have : gc b (a % b) = gc a b := by
        unfold gc
        have e1 : (a % b).natAbs = a.natAbs % b.natAbs := by
          rw [Int.natAbs_emod_of_nonneg ha]
        rw [e1, Nat.gcd_comm a.natAbs b.natAbs, Nat.gcd_rec b.natAbs a.natAbs, Nat.gcd_comm]
      rw [this]
    · rw [if_neg h0]
      have : b = 0 := by omega
      subst this
      refine ⟨z, ?_⟩
      have : gc a 0 = a := by
        unfold gc
        rw [show (0 : Int).natAbs = 0 from rfl, Nat.gcd_zero_right]
        omega
      rw [this]
theorem div_bd {n g : Int} (hg : 1 ≤ g) (h1 : -1000 ≤ n) (h2 : n ≤ 1000) : -1000 ≤ n / g ∧ n / g ≤ 1000 := by
  by_cases h : 0 ≤ n
  · have a := Int.ediv_nonneg h (show 0 ≤ g by omega)
    have b := Int.ediv_le_self g h
    omega
  · have a : n ≤ n / g := (Int.le_ediv_iff_mul_le (by omega)).mpr (by
      have := Int.mul_le_mul_of_nonpos_left (show n ≤ 0 by omega) hg
      omega)
    have b : n / g ≤ 0 / g := Int.ediv_le_ediv (by omega) (by omega)
    rw [Int.zero_ediv] at b
    omega
theorem llow_wp {n d : Int} (h1 : -1000 ≤ n) (h2 : n ≤ 1000) (d1 : 1 ≤ d) (d2 : d ≤ 1000) : ∃ x y : Int, (-1000 ≤ x ∧ x ≤ 1000) ∧ (-1000 ≤ y ∧ y ≤ 1000) ∧ f_law_lowest [.val (.int n), .val (.int d)] = .ret (.val (.tuple [.int x, .int y])) := by
  have g1 : 1 ≤ gc n d := by
    unfold gc
    have := Nat.gcd_pos_of_pos_right n.natAbs (show 0 < d.natAbs by omega)
    omega
  have g2 : gc n d ≤ 1000 := by
    unfold gc
    have := Nat.gcd_le_right n.natAbs (show 0 < d.natAbs by omega)
    omega
  refine ⟨n / gc n d, d / gc n d, div_bd g1 h1 h2, div_bd g1 (by omega) d2, ?_⟩
  unfold f_law_lowest
  walk_at "wk"
  obtain ⟨z', e⟩ := gcdl ((d.natAbs : Int).natAbs + 1) n d n.natAbs d.natAbs none (by omega) (by omega) (by omega)
  unfold mWhile
  rw [show (fun ρ : Ro => fuelI ρ[3]?) [some (C.val (PyData.int n)), some (C.val (PyData.int d)), some (C.val (PyData.int n.natAbs)), some (C.val (PyData.int d.natAbs)), none] = (d.natAbs : Int).natAbs + 1 from rfl, e]
  have eg : gc (n.natAbs : Int) (d.natAbs : Int) = gc n d := rfl
  rw [eg]
  walk_at "wk"
  rw [if_neg (by omega)]
  walk_at "wk"
  have gb : (gc n d).natAbs < 2 ^ 10 := by show (gc n d).natAbs < 1024; omega
  rw [if_pos (cDiv_ok (k := 10) (by decide) (by decide) (by omega) gb), if_pos (cDiv_ok (k := 10) (by decide) (by decide) (by omega) gb)]
/-- a cell -/
def Cl (d : PyData) : Prop := plainD d = true ∧ PyData.canLay0 d = true ∧ d.depth ≤ 1 ∧ cost d ≤ 5000
theorem cl_int2 {x y : Int} (h1 : -100000000000 ≤ x) (h2 : x ≤ 100000000000) (k1 : -1000 ≤ y) (k2 : y ≤ 1000) : Cl (.tuple [.int x, .int y]) := by
  refine ⟨?_, rfl, by simp [PyData.depth, PyData.depthAll], by simp only [cost, costAll]; omega⟩
  simp only [plainD, plainAll, Bool.and_true, Bool.and_eq_true]
  refine ⟨?_, small_int (by omega) (by omega)⟩
  refine decide_eq_true ?_
  have : x.natAbs < 2 ^ 1920 := Nat.lt_of_le_of_lt (show x.natAbs ≤ 100000000000 by omega) (by decide +kernel)
  by_cases z : x.natAbs = 0
  · rw [z]; decide
  · exact (Nat.log2_lt z).mpr this
theorem number_wp {α : Type} {k : C → M α} {Q : α → Prop} (q : ∀ d, Cl d → wp (k (.val d)) Q) : wp ((f_law_number [.tape]).bind k) Q := by
  refine wp_call (fun c => ∃ d, Cl d ∧ c = .val d) ?_ (by rintro c ⟨z, h, rfl⟩; exact q z h)
  unfold f_law_number
  refine wp_fn rfl ?_
  refine wp_seqJ (fun ρ => ∃ n : Int, -3 ≤ n ∧ n ≤ 11 ∧ ρ = [some .tape, some (.val (.int n)), none]) ?_ ?_
  · walk_at "wk"
    refine wp_drawn (by decide) fun a a0 a1 => ?_
    walk_at "wk"
    exact ⟨_, by omega, by omega, rfl⟩
  rintro ρ ⟨n, n0, n1, rfl⟩
  refine wp_seqJ (fun ρ => ∃ f : Int, ρ = [some .tape, some (.val (.int n)), some (.val (.int f))]) ?_ ?_
  · walk_at "wk"
    refine wp_drawn (by decide) fun a a0 a1 => ?_
    walk_at "wk"
    exact ⟨_, rfl⟩
  rintro ρ ⟨f, rfl⟩
  refine wp_seqJ (fun ρ => ρ = [some .tape, some (.val (.int n)), some (.val (.int f))]) ?_ ?_
  · walk_at "wk"
    refine wp_ite (fun h => ?_) (fun h => ?_)
    · rw [if_pos (cMul_ok 5 31 (by decide) (by decide) (by decide) (by show n.natAbs < 32; omega) (by decide))]
      walk_at "wk"
      exact out_ok ⟨_, cl_int2 (by omega) (by omega) (by omega) (by omega), rfl⟩
    · walk_at "wk"
      rfl
  rintro ρ rfl
  refine wp_seqJ (fun ρ => ρ = [some .tape, some (.val (.int n)), some (.val (.int f))]) ?_ ?_
  · walk_at "wk"
    refine wp_ite (fun h => ?_) (fun h => ?_)
    · try rw [if_pos (cMul_ok 2 5 (by decide) (by decide) (by decide) (by decide) (by show n.natAbs < 32; omega))]
      walk_at "wk"
      obtain ⟨x, y, hx, hy, e⟩ := llow_wp (n := 2 * n + 1) (d := 2) (by omega) (by omega) (by omega) (by omega)
      rw [e]
      walk_at "wk"
      exact out_ok ⟨_, cl_int2 (by omega) (by omega) hy.1 hy.2, rfl⟩
    · walk_at "wk"
      rfl
  rintro ρ rfl
  refine wp_seqJ (fun ρ => ρ = [some .tape, some (.val (.int n)), some (.val (.int f))]) ?_ ?_
  · walk_at "wk"
    refine wp_ite (fun h => ?_) (fun h => ?_)
    · refine wp_drawn (by decide) fun a a0 a1 => ?_
      walk_at "wk"
      refine wp_drawn (by decide) fun b b0 b1 => ?_
      walk_at "wk"
      obtain ⟨x, y, hx, hy, e⟩ := llow_wp (n := a - 20) (d := 1 + b) (by omega) (by omega) (by omega) (by omega)
      rw [e]
      walk_at "wk"
      exact out_ok ⟨_, cl_int2 (by omega) (by omega) hy.1 hy.2, rfl⟩
    · walk_at "wk"
      rfl
  rintro ρ rfl
  walk_at "wk"
  exact ⟨_, cl_int2 (by omega) (by omega) (by omega) (by omega), rfl⟩
theorem cl_wd {n : Nat} (hn : n ≤ 100) {z : Str} (h : Wd n z) : Cl (.str z) := by
  obtain ⟨h1, h2, h3⟩ := h.ok
  exact ⟨h1, h2, by simp [PyData.depth], by simp only [cost]; omega⟩
theorem cell_wp {kd : Str} {α : Type} {k : C → M α} {Q : α → Prop} (q : ∀ d, Cl d → wp (k (.val d)) Q) : wp ((f_law_cell [.tape, .val (.str kd)]).bind k) Q := by
  refine wp_call (fun c => ∃ d, Cl d ∧ c = .val d) ?_ (by rintro c ⟨z, h, rfl⟩; exact q z h)
  unfold f_law_cell
  refine wp_fn rfl ?_
  refine wp_seqJ (fun ρ => ρ = [some .tape, some (.val (.str kd))]) ?_ ?_
  · walk_at "wk"
    refine wp_ite (fun h => ?_) (fun h => ?_)
    · refine number_wp fun d hd => ?_
      walk_at "wk"
      exact out_ok ⟨d, hd, rfl⟩
    · walk_at "wk"
      rfl
  rintro ρ rfl
  refine wp_seqJ (fun ρ => ρ = [some .tape, some (.val (.str kd))]) ?_ ?_
  · walk_at "wk"
    refine wp_ite (fun h => ?_) (fun h => ?_)
    · refine wp_drawn (by decide) fun a a0 a1 => ?_
      walk_at "wk"
      exact out_ok ⟨_, ⟨rfl, rfl, by simp [PyData.depth], by simp only [cost]; omega⟩, rfl⟩
    · walk_at "wk"
      rfl
  rintro ρ rfl
  walk_at "wk"
  refine wp_drawn (by decide) fun a a0 a1 => ?_
  walk_at "wk"
  refine wp_pick a0 (by simp only [List.length_cons, List.length_nil]; omega) fun d hd => ?_
  have : ∃ y, Wd 5 y ∧ d = .str y := by
    simp only [List.mem_cons, List.not_mem_nil, or_false] at hd
    rcases hd with rfl | rfl | rfl
    · exact ⟨_, ⟨[], rfl, by simp, by simp⟩, rfl⟩
    · exact ⟨_, ⟨"north".toList.map Char.toNat, by decide +kernel, by decide +kernel, by decide +kernel⟩, rfl⟩
    · exact ⟨_, ⟨[97], by decide +kernel, by decide +kernel, by decide +kernel⟩, rfl⟩
  obtain ⟨y, hy, rfl⟩ := this
  walk_at "wk"
  refine word_wp fun z hz => ?_
  walk_at "wk"
  rw [if_pos (by have := hz.ok.2.2; have := hy.ok.2.2; omega)]
  walk_at "wk"
  exact ⟨_, cl_wd (by decide) (hy.snoc hz), rfl⟩

local macro_rules | `(tactic| walk_at "pe") => `(tactic| simp (config := {maxSteps := 2000000}) only [bind_bind, bindR, retB, failB, anyB, iteB, wp_retE, wp_failE,
  ↓kSeq_nx, ↓kSeq_rt, ↓kSeq_bk, ↓kSeq_ct, ↓mNext_eq, ↓mBreak_eq, ↓mCont_eq, ↓mDrop_eq, ↓mRet_eq, ↓mRetN_eq, ↓mAsg_eq, ↓mIf_eq, ↓gVar_eq, gAt_v, gAt_o, gAt_b, gAt_t, ↓mRetV_eq, rAt_s, ↓asgR_eq, aAt_v, aAt_o,
  get_0, get_s, set_0', set_s', List.getElem?_cons_zero, List.getElem?_cons_succ, List.set_cons_zero, List.set_cons_succ, ↓aNil_eq, ↓aCons_eq, ↓aTup_eq, ↓mPar_eq, ↓kPar_v, ↓gC_eq, ↓gaNil_eq, ↓gaCons_eq, ↓gTupE_eq, ↓gLst_eq, ↓gOp_eq, ↓gUn_eq, ↓gCall_eq, ↓gFn_eq, map_nilC, map_consC, lend_v, lend_o, lend_b, lend_t,
  ↓gTru_eq, ↓gTest_eq, oBl_b, oTru_v, oTru_o, oTru_b, truD_n, truD_b, truD_i, truD_t, mAnd_r, mOr_r, mAnd_t, mAnd_f, mOr_t, mOr_f, ↓gAnd_eq, ↓gOr_eq, ↓gNot_eq, mAndC_r, mAndC_f, mOrC_r, ↓gAndT_eq, ↓gOrT_eq, ↓gNotT_eq, ↓gIfE_eq, ↓gChain_eq, ↓gNo_eq, ↓gSome_eq, oInt?_i, ↓gSl_eq, oSl_t, oSl_b, ↓gSl2_eq, kSl2_t,
  ↓gIt_eq, ↓gItV_eq, kItV_v, kItV_b, kItV_o, itV_t, itV_s, itV_b, itV_o, itD_t, itD_s, itD_o, ↓gItR1_eq, ↓gItR2_eq, ↓gItR3_eq, itR3_i, itR1_i, itR2_i, ↓gLc_eq, wipe_n, wipe_c, ↓gYes_eq, ↓gR1_eq, kR1_i, ↓gR2_eq, kR2_i, ↓gLstRg_eq, ↓gTupRg_eq, ↓mFor_eq, ↓mForV_eq, ↓mForRev_eq, kForRev_o, kForRev_t, kForV_o, kForV_b, kForV_t, kForV_s, ↓mApp_eq, appAt_o, kApp_v,
  ↓fnU_eq, rp_0, rp_s, ap_n, ap_c, ms_n, ms_c, out_rt, out_nx, oAdd_i, oAdd_s, oAdd_t, oAdd_oo, oAdd_bo, oAdd_bb, oAdd_ob, oInt_v, oMul_i, oNeg_i, oEq_i, oNe_i, oEq_b, oNe_b, oEq_s, oNe_s, oIx_t, oIx_s, oIx_o, oIx_b, atD_0, atD_1, atD_2, atD_3, atD_4, atD_5, atD_6, atD_7, atD_8, datas_n, datas_v, mp_some, oTup_eq, oLst_eq, kTup_s, kLst_s, len_n, len_c,
  o1_v, o1_o, o1_b, lenD_t, lenD_l, lenD_s, absD_i, intD_i, intD_b, oMax2_i, oMin2_i, oGcd_i, oListC_t, oListC_o, oListC_b, oTupC_t, oTupC_o, oTupC_b, isi_bi, isi_ii, isi_ib, isi_bb, isi_ni, isi_ss, isi_nb, oIsi_v, tyD_b, tyD_i, tyD_s, tyD_n, oIsX_n, oIsX_b, isN_n, isN_i, isN_b, isN_s, isN_t, aUnl_o, aUnl_b, oIx_l, ↓gTRev_eq, ↓gInK_eq, ↓gInKd_eq, oTRev_t, ↓gEnT_eq, enC_t, ↓gDZip_eq, kForV_l, truD_l, oSl_l, itD_l, itV_l, oListC_l, oTupC_l, kIdxL_l, oAdd_lo, oAdd_ol, oAdd_ll, oAdd_lb, oAdd_bl, ↓mFrz_eq, kFrz_o, kFrz_v, kFrz_b, kFrz_n, ↓gFrz_eq, frzC_o, frzC_v, ↓gItI_eq, itI_t, itI_l, itI_s, ↓gDcT_eq, ↓gLc2_eq, ↓gLock_eq, lockAt_o, lockC_v, lockC_o, ↓gKeys_eq, keysAt_b, ↓mDPut_eq, dputAt_T, dputAt_K, ↓gNewT_eq, ↓gNewK_eq, ↓gDGet1_eq, ↓mSetAt_eq, setAt_o, ↓mAugI_eq, augAt_i, kAug_i, ↓gZip_eq, zipD_t, ↓gIdxL_eq, kIdxL_b, kIdxL_o, idxA_v, ↓gIdxK_eq, ↓gSix_eq, kSix_s, oLtU_i, oLtU_s, oLtU_b, ↓gFnD_eq, ↓gFnK_eq, kFnK_21, mOrCt, mOrCf, mAndCt, mAndCf, ↓gF_eq, ↓gFt_eq, ↓mF_eq, oIsiX_v, tyX_b, tyX_i, tyX_s, tyX_n, tyX_t, isiX_ts, isiX_tb, isiX_ti, isiX_tt, isiX_st, isiX_sb, isiX_si, isiX_bs, isiX_bt, isiX_is, isiX_it, isiX_ns, isiX_nt, 
  lenOk, decide_eq_true_eq, Nat.reduceAdd, Nat.reduceLeDiff, Nat.reduceEqDiff, Int.reduceEq, Bool.false_xor, Bool.true_xor, Bool.false_or, Bool.or_false, Bool.true_or, Bool.or_true, Bool.true_and, Bool.and_true, Bool.false_and, Bool.and_false, Bool.not_false, Bool.not_true, Bool.false_eq_true, if_true, if_false, reduceIte, ↓reduceIte, decide_true, decide_false, List.length_cons, List.length_nil])
local macro_rules | `(tactic| walk_at "pl") => `(tactic| simp (config := {maxSteps := 2000000}) only [bind_bind, bindR, retB, failB, anyB, iteB, wp_retE, wp_failE,
  ↓mSeq_eq, ↓kSeq_nx, ↓kSeq_rt, ↓kSeq_bk, ↓kSeq_ct, ↓mNext_eq, ↓mBreak_eq, ↓mCont_eq, ↓mDrop_eq, ↓mRet_eq, ↓mRetN_eq, ↓mAsg_eq, ↓mIf_eq, ↓gVar_eq, gAt_v, gAt_o, gAt_b, gAt_t, ↓mRetV_eq, rAt_s, ↓asgR_eq, aAt_v, aAt_o,
  get_0, get_s, set_0', set_s', List.getElem?_cons_zero, List.getElem?_cons_succ, List.set_cons_zero, List.set_cons_succ, ↓aNil_eq, ↓aCons_eq, ↓aTup_eq, ↓mPar_eq, ↓kPar_v, ↓gC_eq, ↓gaNil_eq, ↓gaCons_eq, ↓gTupE_eq, ↓gLst_eq, ↓gOp_eq, ↓gUn_eq, ↓gCall_eq, ↓gFn_eq, map_nilC, map_consC, lend_v, lend_o, lend_b, lend_t,
  ↓gTru_eq, ↓gTest_eq, oBl_b, oTru_v, oTru_o, oTru_b, truD_n, truD_b, truD_i, truD_t, mAnd_r, mOr_r, mAnd_t, mAnd_f, mOr_t, mOr_f, ↓gAnd_eq, ↓gOr_eq, ↓gNot_eq, mAndC_r, mAndC_f, mOrC_r, ↓gAndT_eq, ↓gOrT_eq, ↓gNotT_eq, ↓gIfE_eq, ↓gChain_eq, ↓gNo_eq, ↓gSome_eq, oInt?_i, ↓gSl_eq, oSl_t, oSl_b, ↓gSl2_eq, kSl2_t,
  ↓gIt_eq, ↓gItV_eq, kItV_v, kItV_b, kItV_o, itV_t, itV_s, itV_b, itV_o, itD_t, itD_s, itD_o, ↓gItR1_eq, ↓gItR2_eq, ↓gItR3_eq, itR3_i, itR1_i, itR2_i, ↓gLc_eq, wipe_n, wipe_c, ↓gYes_eq, ↓gR1_eq, kR1_i, ↓gR2_eq, kR2_i, ↓gLstRg_eq, ↓gTupRg_eq, ↓mFor_eq, ↓mForV_eq, ↓mForRev_eq, kForRev_o, kForRev_t, kForV_o, kForV_b, kForV_t, kForV_s, ↓mApp_eq, appAt_o, kApp_v,
  ↓fnU_eq, rp_0, rp_s, ap_n, ap_c, ms_n, ms_c, out_rt, out_nx, oAdd_i, oAdd_s, oAdd_t, oAdd_oo, oAdd_bo, oAdd_bb, oAdd_ob, oInt_v, oMul_i, oNeg_i, oEq_i, oNe_i, oEq_b, oNe_b, oEq_s, oNe_s, oIx_t, oIx_s, oIx_o, oIx_b, atD_0, atD_1, atD_2, atD_3, atD_4, atD_5, atD_6, atD_7, atD_8, datas_n, datas_v, mp_some, oTup_eq, oLst_eq, kTup_s, kLst_s, len_n, len_c,
  o1_v, o1_o, o1_b, lenD_t, lenD_l, lenD_s, absD_i, intD_i, intD_b, oMax2_i, oMin2_i, oGcd_i, oListC_t, oListC_o, oListC_b, oTupC_t, oTupC_o, oTupC_b, isi_bi, isi_ii, isi_ib, isi_bb, isi_ni, isi_ss, isi_nb, oIsi_v, tyD_b, tyD_i, tyD_s, tyD_n, oIsX_n, oIsX_b, isN_n, isN_i, isN_b, isN_s, isN_t, aUnl_o, aUnl_b, oIx_l, ↓gTRev_eq, ↓gInK_eq, ↓gInKd_eq, oTRev_t, ↓gEnT_eq, enC_t, ↓gDZip_eq, kForV_l, truD_l, oSl_l, itD_l, itV_l, oListC_l, oTupC_l, kIdxL_l, oAdd_lo, oAdd_ol, oAdd_ll, oAdd_lb, oAdd_bl, ↓mFrz_eq, kFrz_o, kFrz_v, kFrz_b, kFrz_n, ↓gFrz_eq, frzC_o, frzC_v, ↓gItI_eq, itI_t, itI_l, itI_s, ↓gDcT_eq, ↓gLc2_eq, ↓gLock_eq, lockAt_o, lockC_v, lockC_o, ↓gKeys_eq, keysAt_b, ↓mDPut_eq, dputAt_T, dputAt_K, ↓gNewT_eq, ↓gNewK_eq, ↓gDGet1_eq, ↓mSetAt_eq, setAt_o, ↓mAugI_eq, augAt_i, kAug_i, ↓gZip_eq, zipD_t, ↓gIdxL_eq, kIdxL_b, kIdxL_o, idxA_v, ↓gIdxK_eq, ↓gSix_eq, kSix_s, oLtU_i, oLtU_s, oLtU_b, ↓gFnD_eq, ↓gFnK_eq, kFnK_21, mOrCt, mOrCf, mAndCt, mAndCf, ↓gF_eq, ↓gFt_eq, ↓mF_eq, oIsiX_v, tyX_b, tyX_i, tyX_s, tyX_n, tyX_t, isiX_ts, isiX_tb, isiX_ti, isiX_tt, isiX_st, isiX_sb, isiX_si, isiX_bs, isiX_bt, isiX_is, isiX_it, isiX_ns, isiX_nt, 
  lenOk, decide_eq_true_eq, Nat.reduceAdd, Nat.reduceLeDiff, Nat.reduceEqDiff, Int.reduceEq, Bool.false_xor, Bool.true_xor, Bool.false_or, Bool.or_false, Bool.true_or, Bool.or_true, Bool.true_and, Bool.and_true, Bool.false_and, Bool.and_false, Bool.not_false, Bool.not_true, Bool.false_eq_true, if_true, if_false, reduceIte, ↓reduceIte, decide_true, decide_false, List.length_cons, List.length_nil])
local macro_rules | `(tactic| walk_at "pr") => `(tactic| ((try walk_at "pl"); try rfl))
local macro_rules | `(tactic| walk_at "wk") => `(tactic| try walk_at "pl")
local macro_rules | `(tactic| walk_at "we") => `(tactic| try walk_at "pe")

theorem cl_shaped {d : PyData} (h : Cl d) : SeqAt.shaped d = true := by
  unfold SeqAt.shaped
  rw [h.2.1, Bool.true_and]
  exact decide_eq_true (by have := h.2.2.1; omega)
theorem cls_all : ∀ ds : List PyData, (∀ d ∈ ds, Cl d) → plainAll ds = true ∧ PyData.canLayAll0 ds = true ∧ PyData.depthAll ds ≤ 1 ∧ costAll ds ≤ 5002 * ds.length
  | [], _ => ⟨rfl, rfl, by simp [PyData.depthAll], by simp [costAll]⟩
  | d :: ds, h => by
    obtain ⟨h1, h2, h3, h4⟩ := cls_all ds fun x hx => h x (List.mem_cons_of_mem _ hx)
    obtain ⟨k1, k2, k3, k4⟩ := h d List.mem_cons_self
    refine ⟨by rw [plainAll, k1, h1]; rfl, by simp only [PyData.canLayAll0, k2, h2, Bool.true_and], by simp only [PyData.depthAll]; omega, ?_⟩
    simp only [costAll, List.length_cons]
    omega
theorem cells_wp {kd : Str} {α : Type} {k : C → M α} {Q : α → Prop} (q : ∀ ds : List PyData, (∀ d ∈ ds, Cl d) → ds.length ≤ 3 → wp (k (.own (.lst ds))) Q) : wp ((f_law_cells [.tape, .val (.str kd), .val (.int 3)]).bind k) Q := by
  refine wp_call (fun c => ∃ ds : List PyData, (∀ d ∈ ds, Cl d) ∧ ds.length ≤ 3 ∧ c = .own (.lst ds)) ?_ (by rintro c ⟨z, h, h2, rfl⟩; exact q z h h2)
  unfold f_law_cells
  refine wp_fn rfl ?_
  walk_at "wk"
  rw [if_pos (by decide)]
  walk_at "wk"
  refine wp_call (fun r => ∃ (ds : List PyData) (z4 z5 : Option C), (∀ d ∈ ds, Cl d) ∧ ds.length ≤ 3 ∧ r = .nx [some .tape, some (.val (.str kd)), some (.val (.int 3)), some (.own (.lst ds)), z4, z5]) ?_ ?_
  · refine wp_turns (n := (3 : Int).toNat) (fun i ρ => ∃ (ds : List PyData) (z4 z5 : Option C), (∀ d ∈ ds, Cl d) ∧ ds.length ≤ i ∧ ρ = [some .tape, some (.val (.str kd)), some (.val (.int 3)), some (.own (.lst ds)), z4, z5]) ?_ ?_ ⟨[], none, none, by simp, by simp, rfl⟩
    · rintro ρ ⟨ds, z4, z5, h1, h2, rfl⟩
      exact ⟨ds, z4, z5, h1, h2, rfl⟩
    rintro i es ρ hi ⟨ds, z4, z5, h1, h2, rfl⟩
    have hi : i < 3 := hi
    walk_at "wk"
    refine cell_wp fun d hd => ?_
    walk_at "wk"
    have sh : SeqAt.shaped (.list ds) = true := by
      obtain ⟨_, a, b, _⟩ := cls_all ds h1
      unfold SeqAt.shaped
      simp only [PyData.canLay0, PyData.depth, a, Bool.true_and]
      exact decide_eq_true (by omega)
    have e : oNotIn (.val d) (.bor (.lst ds)) = .ret (.val (.bool (true ^^ ds.any fun z => PyData.eqv z d))) := by
      have : oNotIn (.val d) (.bor (.lst ds)) = oInD true d ds := by
        unfold oNotIn
        cases d <;> rfl
      rw [this]
      unfold oInD
      rw [cl_shaped hd, sh, if_pos (by rfl)]
    rw [e]
    generalize (ds.any fun z => PyData.eqv z d) = bb
    cases bb with
    | true =>
      walk_at "wk"
      exact ⟨ds, _, _, h1, by omega, rfl⟩
    | false =>
      walk_at "wk"
      rw [if_pos (by omega)]
      walk_at "wk"
      refine ⟨ds ++ [d], _, _, fun x hx => ?_, by rw [List.length_append, List.length_singleton]; omega, rfl⟩
      rcases List.mem_append.mp hx with z | z
      · exact h1 x z
      · rw [List.mem_singleton.mp z]; exact hd
  rintro r ⟨ds, z4, z5, h1, h2, rfl⟩
  walk_at "wk"
  exact ⟨ds, h1, h2, rfl⟩
def colD (c : Str × Str) : PyData := .tuple [.str c.1, .str c.2]
theorem wd_of {n : Nat} (l : List Nat) {z : Str} (e : z = ⟨l.toArray⟩) (h : (l.all fun c => decide (c < 128)) = true) (k : l.length ≤ n) : Wd n z := ⟨l, e, fun c hc => of_decide_eq_true (List.all_eq_true.mp h c hc), k⟩
theorem nm_wd {d : PyData} (hd : d ∈ ([.str "a", .str "total", .str "Region_2", .str "b", .str "a1"] : List PyData)) : ∃ z, Wd 10 z ∧ d = .str z := by
  simp only [List.mem_cons, List.not_mem_nil, or_false] at hd
  rcases hd with rfl | rfl | rfl | rfl | rfl
  · exact ⟨_, wd_of ("a".toList.map Char.toNat) (by decide +kernel) (by decide +kernel) (by decide +kernel), rfl⟩
  · exact ⟨_, wd_of ("total".toList.map Char.toNat) (by decide +kernel) (by decide +kernel) (by decide +kernel), rfl⟩
  · exact ⟨_, wd_of ("Region_2".toList.map Char.toNat) (by decide +kernel) (by decide +kernel) (by decide +kernel), rfl⟩
  · exact ⟨_, wd_of ("b".toList.map Char.toNat) (by decide +kernel) (by decide +kernel) (by decide +kernel), rfl⟩
  · exact ⟨_, wd_of ("a1".toList.map Char.toNat) (by decide +kernel) (by decide +kernel) (by decide +kernel), rfl⟩
structure Cols (cs : List (Str × Str)) : Prop where
  len : cs.length ≤ 5
  nm : ∀ c ∈ cs, Wd 10 c.1
  hd : ∃ (nm : Str) (tl : List (Str × Str)), cs = (nm, ("number" : Str)) :: tl
theorem columns_wp {α : Type} {k : C → M α} {Q : α → Prop} (q : ∀ cs, Cols cs → wp (k (.val (.tuple (cs.map colD)))) Q) : wp ((f_law_columns [.tape]).bind k) Q := by
  refine wp_call (fun c => ∃ cs, Cols cs ∧ c = .val (.tuple (cs.map colD))) ?_ (by rintro c ⟨z, h, rfl⟩; exact q z h)
  unfold f_law_columns
  refine wp_fn rfl ?_
  generalize hN : ([.str "a", .str "total", .str "Region_2", .str "b", .str "a1"] : List PyData) = Ns
  have nl : Ns.length = 5 := by rw [← hN]; rfl
  refine wp_seqJ (fun ρ => ρ = [some .tape, some (.own (.lst Ns)), none, none, none, none]) ?_ ?_
  · walk_at "wk"
    rw [hN]
    rfl
  rintro ρ rfl
  refine wp_seqJ (fun ρ => ∃ Ks : List PyData, Ks.length = 5 ∧ (∀ d ∈ Ks, ∃ z, d = .str z) ∧ ρ = [some .tape, some (.own (.lst Ns)), some (.own (.lst Ks)), none, none, none]) ?_ ?_
  · walk_at "wk"
    refine ⟨_, rfl, fun d hd => ?_, rfl⟩
    simp only [List.mem_cons, List.not_mem_nil, or_false] at hd
    rcases hd with rfl | rfl | rfl | rfl | rfl <;> exact ⟨_, rfl⟩
  rintro ρ ⟨Ks, kl, hK, rfl⟩
  refine wp_seqJ (fun ρ => ∃ t : Int, 0 ≤ t ∧ t < 5 ∧ ρ = [some .tape, some (.own (.lst Ns)), some (.own (.lst Ks)), some (.val (.int t)), none, none]) ?_ ?_
  · walk_at "wk"
    refine wp_drawn (by decide) fun a a0 a1 => ?_
    walk_at "wk"
    exact ⟨a, a0, by omega, rfl⟩
  rintro ρ ⟨t, t0, t1, rfl⟩
  refine wp_seqJ (fun ρ => ∃ cs, Cols cs ∧ cs.length = 1 ∧ ρ = [some .tape, some (.own (.lst Ns)), some (.own (.lst Ks)), some (.val (.int t)), some (.own (.lst (cs.map colD))), none]) ?_ ?_
  · walk_at "wk"
    refine wp_pick t0 (by rw [nl]; omega) fun d hd => ?_
    rw [← hN] at hd
    obtain ⟨z, hz, rfl⟩ := nm_wd hd
    walk_at "wk"
    exact ⟨[(z, "number")], ⟨by simp, fun c hc => by rw [List.mem_singleton.mp hc]; exact hz, z, [], rfl⟩, rfl, rfl⟩
  rintro ρ ⟨cs0, h0, l0, rfl⟩
  refine wp_seqJ (fun ρ => ∃ cs z5, Cols cs ∧ ρ = [some .tape, some (.own (.lst Ns)), some (.own (.lst Ks)), some (.val (.int t)), some (.own (.lst (cs.map colD))), z5]) ?_ ?_
  · walk_at "wk"
    refine wp_drawn (by decide) fun a a0 a1 => ?_
    walk_at "wk"
    rw [if_pos (by rw [rngOk_ok (by omega) (by omega), rngOk_ok (by omega) (by omega)]; rfl)]
    refine wp_turns (n := (2 + a - 1).toNat) (lo := 1) (c := 1) (fun i ρ => ∃ cs z5, Cols cs ∧ cs.length ≤ i + 1 ∧ ρ = [some .tape, some (.own (.lst Ns)), some (.own (.lst Ks)), some (.val (.int t)), some (.own (.lst (cs.map colD))), z5]) ?_ ?_ ⟨cs0, none, h0, by omega, rfl⟩
    · rintro ρ ⟨cs, z5, h, _, rfl⟩
      exact ⟨cs, z5, h, rfl⟩
    rintro i es ρ hi ⟨cs, z5, h, hl, rfl⟩
    have hi' : i < 4 := by omega
    walk_at "wk"
    rw [if_pos (cMod_ok (by decide))]
    walk_at "wk"
    have m0 := Int.emod_nonneg (t + (1 + (i : Int) * 1)) (show (5 : Int) ≠ 0 by decide)
    have m1 := Int.emod_lt_of_pos (t + (1 + (i : Int) * 1)) (show (0 : Int) < 5 by decide)
    refine wp_pick m0 (by rw [nl]; omega) fun d hd => ?_
    rw [← hN] at hd
    obtain ⟨z, hz, rfl⟩ := nm_wd hd
    walk_at "wk"
    refine wp_drawn (by decide) fun b b0 b1 => ?_
    walk_at "wk"
    refine wp_pick b0 (by rw [kl]; omega) fun d hd => ?_
    obtain ⟨y, rfl⟩ := hK d hd
    walk_at "wk"
    rw [List.length_map, if_pos (by omega)]
    walk_at "wk"
    obtain ⟨nm, tl, e⟩ := h.hd
    exact ⟨cs ++ [(z, y)], _, ⟨by rw [List.length_append, List.length_singleton]; omega, fun c hc => by
      rcases List.mem_append.mp hc with x | x
      · exact h.nm c x
      · rw [List.mem_singleton.mp x]; exact hz, nm, tl ++ [(z, y)], by rw [e]; rfl⟩, by rw [List.length_append, List.length_singleton]; omega, by rw [List.map_append]; rfl⟩
  rintro ρ ⟨cs, z5, h, rfl⟩
  walk_at "wk"
  exact ⟨cs, h, rfl⟩

local macro_rules | `(tactic| walk_at "pe") => `(tactic| simp (config := {maxSteps := 2000000}) only [bind_bind, bindR, retB, failB, anyB, iteB, wp_retE, wp_failE,
  ↓kSeq_nx, ↓kSeq_rt, ↓kSeq_bk, ↓kSeq_ct, ↓mNext_eq, ↓mBreak_eq, ↓mCont_eq, ↓mDrop_eq, ↓mRet_eq, ↓mRetN_eq, ↓mAsg_eq, ↓mIf_eq, ↓gVar_eq, gAt_v, gAt_o, gAt_b, gAt_t, ↓mRetV_eq, rAt_s, ↓asgR_eq, aAt_v, aAt_o,
  get_0, get_s, set_0', set_s', List.getElem?_cons_zero, List.getElem?_cons_succ, List.set_cons_zero, List.set_cons_succ, ↓aNil_eq, ↓aCons_eq, ↓aTup_eq, ↓mPar_eq, ↓kPar_v, ↓gC_eq, ↓gaNil_eq, ↓gaCons_eq, ↓gTupE_eq, ↓gLst_eq, ↓gOp_eq, ↓gUn_eq, ↓gCall_eq, ↓gFn_eq, map_nilC, map_consC, lend_v, lend_o, lend_b, lend_t,
  ↓gTru_eq, ↓gTest_eq, oBl_b, oTru_v, oTru_o, oTru_b, truD_n, truD_b, truD_i, truD_t, mAnd_r, mOr_r, mAnd_t, mAnd_f, mOr_t, mOr_f, ↓gAnd_eq, ↓gOr_eq, ↓gNot_eq, mAndC_r, mAndC_f, mOrC_r, ↓gAndT_eq, ↓gOrT_eq, ↓gNotT_eq, ↓gIfE_eq, ↓gChain_eq, ↓gNo_eq, ↓gSome_eq, oInt?_i, ↓gSl_eq, oSl_t, oSl_b, ↓gSl2_eq, kSl2_t,
  ↓gIt_eq, ↓gItV_eq, kItV_v, kItV_b, kItV_o, itV_t, itV_s, itV_b, itV_o, itD_t, itD_s, itD_o, ↓gItR1_eq, ↓gItR2_eq, ↓gItR3_eq, itR3_i, itR1_i, itR2_i, ↓gLc_eq, wipe_n, wipe_c, ↓gYes_eq, ↓gR1_eq, kR1_i, ↓gR2_eq, kR2_i, ↓gLstRg_eq, ↓gTupRg_eq, ↓mFor_eq, ↓mForV_eq, ↓mForRev_eq, kForRev_o, kForRev_t, kForV_o, kForV_b, kForV_t, kForV_s, ↓mApp_eq, appAt_o, kApp_v,
  ↓fnU_eq, rp_0, rp_s, ap_n, ap_c, ms_n, ms_c, out_rt, out_nx, oAdd_i, oAdd_s, oAdd_t, oAdd_oo, oAdd_bo, oAdd_bb, oAdd_ob, oInt_v, oMul_i, oNeg_i, oEq_i, oNe_i, oEq_b, oNe_b, oEq_s, oNe_s, oIx_t, oIx_s, oIx_o, oIx_b, atD_0, atD_1, atD_2, atD_3, atD_4, atD_5, atD_6, atD_7, atD_8, datas_n, datas_v, mp_some, oTup_eq, oLst_eq, kTup_s, kLst_s, len_n, len_c,
  o1_v, o1_o, o1_b, lenD_t, lenD_l, lenD_s, absD_i, intD_i, intD_b, oMax2_i, oMin2_i, oGcd_i, oListC_t, oListC_o, oListC_b, oTupC_t, oTupC_o, oTupC_b, isi_bi, isi_ii, isi_ib, isi_bb, isi_ni, isi_ss, isi_nb, oIsi_v, tyD_b, tyD_i, tyD_s, tyD_n, oIsX_n, oIsX_b, isN_n, isN_i, isN_b, isN_s, isN_t, aUnl_o, aUnl_b, oIx_l, ↓gTRev_eq, ↓gInK_eq, ↓gInKd_eq, oTRev_t, ↓gEnT_eq, enC_t, ↓gDZip_eq, kForV_l, truD_l, oSl_l, itD_l, itV_l, oListC_l, oTupC_l, kIdxL_l, oAdd_lo, oAdd_ol, oAdd_ll, oAdd_lb, oAdd_bl, ↓mFrz_eq, kFrz_o, kFrz_v, kFrz_b, kFrz_n, ↓gFrz_eq, frzC_o, frzC_v, ↓gItI_eq, itI_t, itI_l, itI_s, ↓gDcT_eq, ↓gLc2_eq, ↓gLock_eq, lockAt_o, lockC_v, lockC_o, ↓gKeys_eq, keysAt_b, ↓mDPut_eq, dputAt_T, dputAt_K, ↓gNewT_eq, ↓gNewK_eq, ↓gDGet1_eq, ↓mSetAt_eq, setAt_o, ↓mAugI_eq, augAt_i, kAug_i, ↓gZip_eq, zipD_t, ↓gIdxL_eq, kIdxL_b, kIdxL_o, idxA_v, ↓gIdxK_eq, ↓gSix_eq, kSix_s, oLtU_i, oLtU_s, oLtU_b, ↓gFnD_eq, ↓gFnK_eq, kFnK_21, mOrCt, mOrCf, mAndCt, mAndCf, ↓gF_eq, ↓gFt_eq, ↓mF_eq, oIsiX_v, tyX_b, tyX_i, tyX_s, tyX_n, tyX_t, isiX_ts, isiX_tb, isiX_ti, isiX_tt, isiX_st, isiX_sb, isiX_si, isiX_bs, isiX_bt, isiX_is, isiX_it, isiX_ns, isiX_nt, 
  lenOk, decide_eq_true_eq, Nat.reduceAdd, Nat.reduceLeDiff, Nat.reduceEqDiff, Int.reduceEq, Bool.false_xor, Bool.true_xor, Bool.false_or, Bool.or_false, Bool.true_or, Bool.or_true, Bool.true_and, Bool.and_true, Bool.false_and, Bool.and_false, Bool.not_false, Bool.not_true, Bool.false_eq_true, if_true, if_false, reduceIte, ↓reduceIte, decide_true, decide_false, List.length_cons, List.length_nil])
local macro_rules | `(tactic| walk_at "pl") => `(tactic| simp (config := {maxSteps := 2000000}) only [bind_bind, bindR, retB, failB, anyB, iteB, wp_retE, wp_failE,
  ↓mSeq_eq, ↓kSeq_nx, ↓kSeq_rt, ↓kSeq_bk, ↓kSeq_ct, ↓mNext_eq, ↓mBreak_eq, ↓mCont_eq, ↓mDrop_eq, ↓mRet_eq, ↓mRetN_eq, ↓mAsg_eq, ↓mIf_eq, ↓gVar_eq, gAt_v, gAt_o, gAt_b, gAt_t, ↓mRetV_eq, rAt_s, ↓asgR_eq, aAt_v, aAt_o,
  get_0, get_s, set_0', set_s', List.getElem?_cons_zero, List.getElem?_cons_succ, List.set_cons_zero, List.set_cons_succ, ↓aNil_eq, ↓aCons_eq, ↓aTup_eq, ↓mPar_eq, ↓kPar_v, ↓gC_eq, ↓gaNil_eq, ↓gaCons_eq, ↓gTupE_eq, ↓gLst_eq, ↓gOp_eq, ↓gUn_eq, ↓gCall_eq, ↓gFn_eq, map_nilC, map_consC, lend_v, lend_o, lend_b, lend_t,
  ↓gTru_eq, ↓gTest_eq, oBl_b, oTru_v, oTru_o, oTru_b, truD_n, truD_b, truD_i, truD_t, mAnd_r, mOr_r, mAnd_t, mAnd_f, mOr_t, mOr_f, ↓gAnd_eq, ↓gOr_eq, ↓gNot_eq, mAndC_r, mAndC_f, mOrC_r, ↓gAndT_eq, ↓gOrT_eq, ↓gNotT_eq, ↓gIfE_eq, ↓gChain_eq, ↓gNo_eq, ↓gSome_eq, oInt?_i, ↓gSl_eq, oSl_t, oSl_b, ↓gSl2_eq, kSl2_t,
  ↓gIt_eq, ↓gItV_eq, kItV_v, kItV_b, kItV_o, itV_t, itV_s, itV_b, itV_o, itD_t, itD_s, itD_o, ↓gItR1_eq, ↓gItR2_eq, ↓gItR3_eq, itR3_i, itR1_i, itR2_i, ↓gLc_eq, wipe_n, wipe_c, ↓gYes_eq, ↓gR1_eq, kR1_i, ↓gR2_eq, kR2_i, ↓gLstRg_eq, ↓gTupRg_eq, ↓mFor_eq, ↓mForV_eq, ↓mForRev_eq, kForRev_o, kForRev_t, kForV_o, kForV_b, kForV_t, kForV_s, ↓mApp_eq, appAt_o, kApp_v,
  ↓fnU_eq, rp_0, rp_s, ap_n, ap_c, ms_n, ms_c, out_rt, out_nx, oAdd_i, oAdd_s, oAdd_t, oAdd_oo, oAdd_bo, oAdd_bb, oAdd_ob, oInt_v, oMul_i, oNeg_i, oEq_i, oNe_i, oEq_b, oNe_b, oEq_s, oNe_s, oIx_t, oIx_s, oIx_o, oIx_b, atD_0, atD_1, atD_2, atD_3, atD_4, atD_5, atD_6, atD_7, atD_8, datas_n, datas_v, mp_some, oTup_eq, oLst_eq, kTup_s, kLst_s, len_n, len_c,
  o1_v, o1_o, o1_b, lenD_t, lenD_l, lenD_s, absD_i, intD_i, intD_b, oMax2_i, oMin2_i, oGcd_i, oListC_t, oListC_o, oListC_b, oTupC_t, oTupC_o, oTupC_b, isi_bi, isi_ii, isi_ib, isi_bb, isi_ni, isi_ss, isi_nb, oIsi_v, tyD_b, tyD_i, tyD_s, tyD_n, oIsX_n, oIsX_b, isN_n, isN_i, isN_b, isN_s, isN_t, aUnl_o, aUnl_b, oIx_l, ↓gTRev_eq, ↓gInK_eq, ↓gInKd_eq, oTRev_t, ↓gEnT_eq, enC_t, ↓gDZip_eq, kForV_l, truD_l, oSl_l, itD_l, itV_l, oListC_l, oTupC_l, kIdxL_l, oAdd_lo, oAdd_ol, oAdd_ll, oAdd_lb, oAdd_bl, ↓mFrz_eq, kFrz_o, kFrz_v, kFrz_b, kFrz_n, ↓gFrz_eq, frzC_o, frzC_v, ↓gItI_eq, itI_t, itI_l, itI_s, ↓gDcT_eq, ↓gLc2_eq, ↓gLock_eq, lockAt_o, lockC_v, lockC_o, ↓gKeys_eq, keysAt_b, ↓mDPut_eq, dputAt_T, dputAt_K, ↓gNewT_eq, ↓gNewK_eq, ↓gDGet1_eq, ↓mSetAt_eq, setAt_o, ↓mAugI_eq, augAt_i, kAug_i, ↓gZip_eq, zipD_t, ↓gIdxL_eq, kIdxL_b, kIdxL_o, idxA_v, ↓gIdxK_eq, ↓gSix_eq, kSix_s, oLtU_i, oLtU_s, oLtU_b, ↓gFnD_eq, ↓gFnK_eq, kFnK_21, mOrCt, mOrCf, mAndCt, mAndCf, ↓gF_eq, ↓gFt_eq, ↓mF_eq, oIsiX_v, tyX_b, tyX_i, tyX_s, tyX_n, tyX_t, isiX_ts, isiX_tb, isiX_ti, isiX_tt, isiX_st, isiX_sb, isiX_si, isiX_bs, isiX_bt, isiX_is, isiX_it, isiX_ns, isiX_nt, 
  lenOk, decide_eq_true_eq, Nat.reduceAdd, Nat.reduceLeDiff, Nat.reduceEqDiff, Int.reduceEq, Bool.false_xor, Bool.true_xor, Bool.false_or, Bool.or_false, Bool.true_or, Bool.or_true, Bool.true_and, Bool.and_true, Bool.false_and, Bool.and_false, Bool.not_false, Bool.not_true, Bool.false_eq_true, if_true, if_false, reduceIte, ↓reduceIte, decide_true, decide_false, List.length_cons, List.length_nil])
local macro_rules | `(tactic| walk_at "pr") => `(tactic| ((try walk_at "pl"); try rfl))
local macro_rules | `(tactic| walk_at "wk") => `(tactic| try walk_at "pl")
local macro_rules | `(tactic| walk_at "we") => `(tactic| try walk_at "pe")

def Sm (d : PyData) : Prop := plainD d = true ∧ d.depth ≤ 8 ∧ cost d ≤ 200000
theorem col_pick {cs : List (Str × Str)} (h : Cols cs) {d : PyData} (hd : d ∈ cs.map colD) : ∃ nm kd, Wd 10 nm ∧ d = colD (nm, kd) := by
  obtain ⟨c, hc, rfl⟩ := List.mem_map.mp hd
  exact ⟨c.1, c.2, h.nm c hc, rfl⟩
theorem name_sm {nm : Str} (h : Wd 10 nm) : plainAll [.str "column", .str nm] = true ∧ PyData.depthAll [.str "column", .str nm] ≤ 0 ∧ costAll [.str "column", .str nm] ≤ 300 := by
  obtain ⟨h1, h2, h3⟩ := h.ok
  refine ⟨by rw [plainAll, plainAll, h1]; decide +kernel, by simp [PyData.depthAll, PyData.depth], ?_⟩
  simp only [costAll, cost]
  rw [show ("column" : Str).length = 6 by decide +kernel]
  omega
theorem cell_sm {d : PyData} (h : Cl d) : plainAll [.str "cell", d] = true ∧ PyData.depthAll [.str "cell", d] ≤ 1 ∧ costAll [.str "cell", d] ≤ 6000 := by
  obtain ⟨h1, h2, h3, h4⟩ := h
  refine ⟨by rw [plainAll, plainAll, h1]; decide +kernel, by simp only [PyData.depthAll, PyData.depth]; omega, ?_⟩
  simp only [costAll, cost]
  rw [show ("cell" : Str).length = 4 by decide +kernel]
  omega
theorem word_sm {w : Str} (h : w ∈ (["missing", "in", "if", "text", "abs", "minus", "+", "nothing", "number", "a", "boolean", "cell", "column", "=", "<>", "<", "<=", ">", ">="] : List Str)) : plainD (.str w) = true ∧ w.length ≤ 10 := by
  have : ∀ w ∈ (["missing", "in", "if", "text", "abs", "minus", "+", "nothing", "number", "a", "boolean", "cell", "column", "=", "<>", "<", "<=", ">", ">="] : List Str), plainD (.str w) = true ∧ w.length ≤ 10 := by decide +kernel
  exact this w h
theorem sm_two {w : Str} {xs ys : List PyData} (hw : plainD (.str w) = true ∧ w.length ≤ 10) (h1 : plainAll xs = true ∧ PyData.depthAll xs ≤ 4 ∧ costAll xs ≤ 50000) (h2 : plainAll ys = true ∧ PyData.depthAll ys ≤ 4 ∧ costAll ys ≤ 50000) : Sm (.tuple [.str w, .tuple xs, .tuple ys]) := by
  obtain ⟨a1, a2, a3⟩ := h1
  obtain ⟨b1, b2, b3⟩ := h2
  refine ⟨by simp only [plainD, plainAll] at *; rw [hw.1, a1, b1]; rfl, by simp only [PyData.depth, PyData.depthAll]; omega, ?_⟩
  have := hw.2
  simp only [cost, costAll]
  omega
theorem sm_one {w : Str} {xs : List PyData} (hw : plainD (.str w) = true ∧ w.length ≤ 10) (h1 : plainAll xs = true ∧ PyData.depthAll xs ≤ 4 ∧ costAll xs ≤ 50000) : Sm (.tuple [.str w, .tuple xs]) := by
  obtain ⟨a1, a2, a3⟩ := h1
  refine ⟨by simp only [plainD, plainAll] at *; rw [hw.1, a1]; rfl, by simp only [PyData.depth, PyData.depthAll]; omega, ?_⟩
  have := hw.2
  simp only [cost, costAll]
  omega
theorem sm_self {xs : List PyData} (h1 : plainAll xs = true ∧ PyData.depthAll xs ≤ 4 ∧ costAll xs ≤ 50000) : Sm (.tuple xs) := by
  obtain ⟨a1, a2, a3⟩ := h1
  exact ⟨by simp only [plainD]; exact a1, by simp only [PyData.depth]; omega, by simp only [cost]; omega⟩
theorem test_wp {cs : List (Str × Str)} (h : Cols cs) {α : Type} {k : C → M α} {Q : α → Prop} (q : ∀ d t, Leaf d false t → Sm d → wp (k (.val d)) Q) : wp ((f_law_test [.tape, .val (.tuple (cs.map colD))]).bind k) Q := by
  refine wp_call (fun c => ∃ d t, Leaf d false t ∧ Sm d ∧ c = .val d) ?_ (by rintro c ⟨d, t, h1, h2, rfl⟩; exact q d t h1 h2)
  unfold f_law_test
  refine wp_fn rfl ?_
  generalize hT : PyData.tuple (cs.map colD) = Cd
  refine wp_seqJ (fun ρ => ∃ nm kd, Wd 10 nm ∧ ρ = [some .tape, some (.val Cd), some (.val (colD (nm, kd))), none, none, none, none]) ?_ ?_
  · rw [← hT]
    walk_at "wk"
    obtain ⟨n0, tl, e0⟩ := h.hd
    have pos : 1 ≤ cs.length := by rw [e0]; simp
    have l5 := h.len
    refine wp_drawn (by rw [List.length_map]; omega) fun a a0 a1 => ?_
    rw [List.length_map] at a1
    walk_at "wk"
    refine wp_pick a0 (by rw [List.length_map]; omega) fun d hd => ?_
    obtain ⟨nm, kd, h1, rfl⟩ := col_pick h hd
    walk_at "wk"
    exact ⟨nm, kd, h1, rfl⟩
  rintro ρ ⟨nm, kd, hnm, rfl⟩
  have c0 : oIx (.val (colD (nm, kd))) (.val (.int 0)) = .ret (.val (.str nm)) := rfl
  have c1 : oIx (.val (colD (nm, kd))) (.val (.int 1)) = .ret (.val (.str kd)) := rfl
  generalize colD (nm, kd) = Dd at c0 c1
  refine wp_seqJ (fun ρ => ρ = [some .tape, some (.val Cd), some (.val Dd), some (.val (.tuple [.str "column", .str nm])), none, none, none]) ?_ ?_
  · walk_at "wk"
    rw [c0]
    walk_at "wk"
    rfl
  rintro ρ rfl
  have sn := name_sm hnm
  refine wp_seqJ (fun ρ => ∃ f : Int, ρ = [some .tape, some (.val Cd), some (.val Dd), some (.val (.tuple [.str "column", .str nm])), some (.val (.int f)), none, none]) ?_ ?_
  · walk_at "wk"
    refine wp_drawn (by decide) fun a a0 a1 => ?_
    walk_at "wk"
    exact ⟨_, rfl⟩
  rintro ρ ⟨f, rfl⟩
  refine wp_seqJ (fun ρ => ∃ c : PyData, Cl c ∧ ρ = [some .tape, some (.val Cd), some (.val Dd), some (.val (.tuple [.str "column", .str nm])), some (.val (.int f)), some (.val (.tuple [.str "cell", c])), none]) ?_ ?_
  · walk_at "wk"
    rw [c1]
    walk_at "wk"
    refine cell_wp fun c hc => ?_
    walk_at "wk"
    exact ⟨c, hc, rfl⟩
  rintro ρ ⟨c, hc, rfl⟩
  have sc := cell_sm hc
  refine wp_seqJ (fun ρ => ρ = [some .tape, some (.val Cd), some (.val Dd), some (.val (.tuple [.str "column", .str nm])), some (.val (.int f)), some (.val (.tuple [.str "cell", c])), none]) ?_ ?_
  · walk_at "wk"
    refine wp_ite (fun h => ?_) (fun h => ?_)
    · walk_at "wk"
      exact out_ok ⟨_, _, .one (by decide +kernel) (.inr rfl), sm_one (word_sm (by decide +kernel)) ⟨sn.1, by omega, by omega⟩, rfl⟩
    · walk_at "wk"
      rfl
  rintro ρ rfl
  refine wp_seqJ (fun ρ => ρ = [some .tape, some (.val Cd), some (.val Dd), some (.val (.tuple [.str "column", .str nm])), some (.val (.int f)), some (.val (.tuple [.str "cell", c])), none]) ?_ ?_
  · walk_at "wk"
    refine wp_ite (fun h => ?_) (fun h => ?_)
    · rw [c1]
      walk_at "wk"
      refine cells_wp fun ds h1 h2 => ?_
      obtain ⟨a1, a2, a3, a4⟩ := cls_all ds h1
      walk_at "wk"
      exact out_ok ⟨_, _, .one (by decide +kernel) (.inl rfl), sm_two (word_sm (by decide +kernel)) ⟨sn.1, by omega, by omega⟩ ⟨a1, by omega, by omega⟩, rfl⟩
    · walk_at "wk"
      rfl
  rintro ρ rfl
  refine wp_seqJ (fun ρ => ρ = [some .tape, some (.val Cd), some (.val Dd), some (.val (.tuple [.str "column", .str nm])), some (.val (.int f)), some (.val (.tuple [.str "cell", c])), none]) ?_ ?_
  · walk_at "wk"
    by_cases hf : f = 2
    · rw [decide_eq_true hf]
      walk_at "wk"
      rw [c1]
      walk_at "wk"
      refine wp_ite (fun h => ?_) (fun h => ?_)
      · walk_at "wk"
        exact out_ok ⟨_, _, .col, sm_self ⟨sn.1, by omega, by omega⟩, rfl⟩
      · walk_at "wk"
        rfl
    · rw [decide_eq_false hf]
      walk_at "wk"
      rfl
  rintro ρ rfl
  refine wp_seqJ (fun ρ => ∃ w : Str, w ∈ cmpr ∧ ρ = [some .tape, some (.val Cd), some (.val Dd), some (.val (.tuple [.str "column", .str nm])), some (.val (.int f)), some (.val (.tuple [.str "cell", c])), some (.val (.str w))]) ?_ ?_
  · walk_at "wk"
    refine wp_drawn (by decide) fun a a0 a1 => ?_
    walk_at "wk"
    refine wp_pick a0 (by simp only [List.length_cons, List.length_nil]; omega) fun d hd => ?_
    have : ∃ w ∈ cmpr, d = .str w := by
      simp only [List.mem_cons, List.not_mem_nil, or_false] at hd
      rcases hd with rfl | rfl | rfl | rfl | rfl | rfl <;> exact ⟨_, by decide +kernel, rfl⟩
    obtain ⟨w, hw, rfl⟩ := this
    walk_at "wk"
    exact ⟨w, hw, rfl⟩
  rintro ρ ⟨w, hw, rfl⟩
  have ws : plainD (.str w) = true ∧ w.length ≤ 10 := word_sm (by
    simp only [cmpr, List.mem_cons, List.not_mem_nil, or_false] at hw
    rcases hw with rfl | rfl | rfl | rfl | rfl | rfl <;> decide +kernel)
  walk_at "wk"
  refine wp_drawn (by decide) fun a a0 a1 => ?_
  walk_at "wk"
  refine wp_pick a0 (by simp only [List.length_cons, List.length_nil]; omega) fun d hd => ?_
  walk_at "wk"
  simp only [List.mem_cons, List.not_mem_nil, or_false] at hd
  rcases hd with rfl | rfl
  · exact ⟨_, _, .cmp (by decide +kernel) (by decide +kernel) hw, sm_two ws ⟨sn.1, by omega, by omega⟩ ⟨sc.1, by omega, by omega⟩, rfl⟩
  · exact ⟨_, _, .cmp (by decide +kernel) (by decide +kernel) hw, sm_two ws ⟨sc.1, by omega, by omega⟩ ⟨sn.1, by omega, by omega⟩, rfl⟩

local macro_rules | `(tactic| walk_at "pe") => `(tactic| simp (config := {maxSteps := 2000000}) only [bind_bind, bindR, retB, failB, anyB, iteB, wp_retE, wp_failE,
  ↓kSeq_nx, ↓kSeq_rt, ↓kSeq_bk, ↓kSeq_ct, ↓mNext_eq, ↓mBreak_eq, ↓mCont_eq, ↓mDrop_eq, ↓mRet_eq, ↓mRetN_eq, ↓mAsg_eq, ↓mIf_eq, ↓gVar_eq, gAt_v, gAt_o, gAt_b, gAt_t, ↓mRetV_eq, rAt_s, ↓asgR_eq, aAt_v, aAt_o,
  get_0, get_s, set_0', set_s', List.getElem?_cons_zero, List.getElem?_cons_succ, List.set_cons_zero, List.set_cons_succ, ↓aNil_eq, ↓aCons_eq, ↓aTup_eq, ↓mPar_eq, ↓kPar_v, ↓gC_eq, ↓gaNil_eq, ↓gaCons_eq, ↓gTupE_eq, ↓gLst_eq, ↓gOp_eq, ↓gUn_eq, ↓gCall_eq, ↓gFn_eq, map_nilC, map_consC, lend_v, lend_o, lend_b, lend_t,
  ↓gTru_eq, ↓gTest_eq, oBl_b, oTru_v, oTru_o, oTru_b, truD_n, truD_b, truD_i, truD_t, mAnd_r, mOr_r, mAnd_t, mAnd_f, mOr_t, mOr_f, ↓gAnd_eq, ↓gOr_eq, ↓gNot_eq, mAndC_r, mAndC_f, mOrC_r, ↓gAndT_eq, ↓gOrT_eq, ↓gNotT_eq, ↓gIfE_eq, ↓gChain_eq, ↓gNo_eq, ↓gSome_eq, oInt?_i, ↓gSl_eq, oSl_t, oSl_b, ↓gSl2_eq, kSl2_t,
  ↓gIt_eq, ↓gItV_eq, kItV_v, kItV_b, kItV_o, itV_t, itV_s, itV_b, itV_o, itD_t, itD_s, itD_o, ↓gItR1_eq, ↓gItR2_eq, ↓gItR3_eq, itR3_i, itR1_i, itR2_i, ↓gLc_eq, wipe_n, wipe_c, ↓gYes_eq, ↓gR1_eq, kR1_i, ↓gR2_eq, kR2_i, ↓gLstRg_eq, ↓gTupRg_eq, ↓mFor_eq, ↓mForV_eq, ↓mForRev_eq, kForRev_o, kForRev_t, kForV_o, kForV_b, kForV_t, kForV_s, ↓mApp_eq, appAt_o, kApp_v,
  ↓fnU_eq, rp_0, rp_s, ap_n, ap_c, ms_n, ms_c, out_rt, out_nx, oAdd_i, oAdd_s, oAdd_t, oAdd_oo, oAdd_bo, oAdd_bb, oAdd_ob, oInt_v, oMul_i, oNeg_i, oEq_i, oNe_i, oEq_b, oNe_b, oEq_s, oNe_s, oIx_t, oIx_s, oIx_o, oIx_b, atD_0, atD_1, atD_2, atD_3, atD_4, atD_5, atD_6, atD_7, atD_8, datas_n, datas_v, mp_some, oTup_eq, oLst_eq, kTup_s, kLst_s, len_n, len_c,
  o1_v, o1_o, o1_b, lenD_t, lenD_l, lenD_s, absD_i, intD_i, intD_b, oMax2_i, oMin2_i, oGcd_i, oListC_t, oListC_o, oListC_b, oTupC_t, oTupC_o, oTupC_b, isi_bi, isi_ii, isi_ib, isi_bb, isi_ni, isi_ss, isi_nb, oIsi_v, tyD_b, tyD_i, tyD_s, tyD_n, oIsX_n, oIsX_b, isN_n, isN_i, isN_b, isN_s, isN_t, aUnl_o, aUnl_b, oIx_l, ↓gTRev_eq, ↓gInK_eq, ↓gInKd_eq, oTRev_t, ↓gEnT_eq, enC_t, ↓gDZip_eq, kForV_l, truD_l, oSl_l, itD_l, itV_l, oListC_l, oTupC_l, kIdxL_l, oAdd_lo, oAdd_ol, oAdd_ll, oAdd_lb, oAdd_bl, ↓mFrz_eq, kFrz_o, kFrz_v, kFrz_b, kFrz_n, ↓gFrz_eq, frzC_o, frzC_v, ↓gItI_eq, itI_t, itI_l, itI_s, ↓gDcT_eq, ↓gLc2_eq, ↓gLock_eq, lockAt_o, lockC_v, lockC_o, ↓gKeys_eq, keysAt_b, ↓mDPut_eq, dputAt_T, dputAt_K, ↓gNewT_eq, ↓gNewK_eq, ↓gDGet1_eq, ↓mSetAt_eq, setAt_o, ↓mAugI_eq, augAt_i, kAug_i, ↓gZip_eq, zipD_t, ↓gIdxL_eq, kIdxL_b, kIdxL_o, idxA_v, ↓gIdxK_eq, ↓gSix_eq, kSix_s, oLtU_i, oLtU_s, oLtU_b, ↓gFnD_eq, ↓gFnK_eq, kFnK_21, mOrCt, mOrCf, mAndCt, mAndCf, ↓gF_eq, ↓gFt_eq, ↓mF_eq, oIsiX_v, tyX_b, tyX_i, tyX_s, tyX_n, tyX_t, isiX_ts, isiX_tb, isiX_ti, isiX_tt, isiX_st, isiX_sb, isiX_si, isiX_bs, isiX_bt, isiX_is, isiX_it, isiX_ns, isiX_nt, 
  lenOk, decide_eq_true_eq, Nat.reduceAdd, Nat.reduceLeDiff, Nat.reduceEqDiff, Int.reduceEq, Bool.false_xor, Bool.true_xor, Bool.false_or, Bool.or_false, Bool.true_or, Bool.or_true, Bool.true_and, Bool.and_true, Bool.false_and, Bool.and_false, Bool.not_false, Bool.not_true, Bool.false_eq_true, if_true, if_false, reduceIte, ↓reduceIte, decide_true, decide_false, List.length_cons, List.length_nil])
local macro_rules | `(tactic| walk_at "pl") => `(tactic| simp (config := {maxSteps := 2000000}) only [bind_bind, bindR, retB, failB, anyB, iteB, wp_retE, wp_failE,
  ↓mSeq_eq, ↓kSeq_nx, ↓kSeq_rt, ↓kSeq_bk, ↓kSeq_ct, ↓mNext_eq, ↓mBreak_eq, ↓mCont_eq, ↓mDrop_eq, ↓mRet_eq, ↓mRetN_eq, ↓mAsg_eq, ↓mIf_eq, ↓gVar_eq, gAt_v, gAt_o, gAt_b, gAt_t, ↓mRetV_eq, rAt_s, ↓asgR_eq, aAt_v, aAt_o,
  get_0, get_s, set_0', set_s', List.getElem?_cons_zero, List.getElem?_cons_succ, List.set_cons_zero, List.set_cons_succ, ↓aNil_eq, ↓aCons_eq, ↓aTup_eq, ↓mPar_eq, ↓kPar_v, ↓gC_eq, ↓gaNil_eq, ↓gaCons_eq, ↓gTupE_eq, ↓gLst_eq, ↓gOp_eq, ↓gUn_eq, ↓gCall_eq, ↓gFn_eq, map_nilC, map_consC, lend_v, lend_o, lend_b, lend_t,
  ↓gTru_eq, ↓gTest_eq, oBl_b, oTru_v, oTru_o, oTru_b, truD_n, truD_b, truD_i, truD_t, mAnd_r, mOr_r, mAnd_t, mAnd_f, mOr_t, mOr_f, ↓gAnd_eq, ↓gOr_eq, ↓gNot_eq, mAndC_r, mAndC_f, mOrC_r, ↓gAndT_eq, ↓gOrT_eq, ↓gNotT_eq, ↓gIfE_eq, ↓gChain_eq, ↓gNo_eq, ↓gSome_eq, oInt?_i, ↓gSl_eq, oSl_t, oSl_b, ↓gSl2_eq, kSl2_t,
  ↓gIt_eq, ↓gItV_eq, kItV_v, kItV_b, kItV_o, itV_t, itV_s, itV_b, itV_o, itD_t, itD_s, itD_o, ↓gItR1_eq, ↓gItR2_eq, ↓gItR3_eq, itR3_i, itR1_i, itR2_i, ↓gLc_eq, wipe_n, wipe_c, ↓gYes_eq, ↓gR1_eq, kR1_i, ↓gR2_eq, kR2_i, ↓gLstRg_eq, ↓gTupRg_eq, ↓mFor_eq, ↓mForV_eq, ↓mForRev_eq, kForRev_o, kForRev_t, kForV_o, kForV_b, kForV_t, kForV_s, ↓mApp_eq, appAt_o, kApp_v,
  ↓fnU_eq, rp_0, rp_s, ap_n, ap_c, ms_n, ms_c, out_rt, out_nx, oAdd_i, oAdd_s, oAdd_t, oAdd_oo, oAdd_bo, oAdd_bb, oAdd_ob, oInt_v, oMul_i, oNeg_i, oEq_i, oNe_i, oEq_b, oNe_b, oEq_s, oNe_s, oIx_t, oIx_s, oIx_o, oIx_b, atD_0, atD_1, atD_2, atD_3, atD_4, atD_5, atD_6, atD_7, atD_8, datas_n, datas_v, mp_some, oTup_eq, oLst_eq, kTup_s, kLst_s, len_n, len_c,
  o1_v, o1_o, o1_b, lenD_t, lenD_l, lenD_s, absD_i, intD_i, intD_b, oMax2_i, oMin2_i, oGcd_i, oListC_t, oListC_o, oListC_b, oTupC_t, oTupC_o, oTupC_b, isi_bi, isi_ii, isi_ib, isi_bb, isi_ni, isi_ss, isi_nb, oIsi_v, tyD_b, tyD_i, tyD_s, tyD_n, oIsX_n, oIsX_b, isN_n, isN_i, isN_b, isN_s, isN_t, aUnl_o, aUnl_b, oIx_l, ↓gTRev_eq, ↓gInK_eq, ↓gInKd_eq, oTRev_t, ↓gEnT_eq, enC_t, ↓gDZip_eq, kForV_l, truD_l, oSl_l, itD_l, itV_l, oListC_l, oTupC_l, kIdxL_l, oAdd_lo, oAdd_ol, oAdd_ll, oAdd_lb, oAdd_bl, ↓mFrz_eq, kFrz_o, kFrz_v, kFrz_b, kFrz_n, ↓gFrz_eq, frzC_o, frzC_v, ↓gItI_eq, itI_t, itI_l, itI_s, ↓gDcT_eq, ↓gLc2_eq, ↓gLock_eq, lockAt_o, lockC_v, lockC_o, ↓gKeys_eq, keysAt_b, ↓mDPut_eq, dputAt_T, dputAt_K, ↓gNewT_eq, ↓gNewK_eq, ↓gDGet1_eq, ↓mSetAt_eq, setAt_o, ↓mAugI_eq, augAt_i, kAug_i, ↓gZip_eq, zipD_t, ↓gIdxL_eq, kIdxL_b, kIdxL_o, idxA_v, ↓gIdxK_eq, ↓gSix_eq, kSix_s, oLtU_i, oLtU_s, oLtU_b, ↓gFnD_eq, ↓gFnK_eq, kFnK_21, mOrCt, mOrCf, mAndCt, mAndCf, ↓gF_eq, ↓gFt_eq, ↓mF_eq, oIsiX_v, tyX_b, tyX_i, tyX_s, tyX_n, tyX_t, isiX_ts, isiX_tb, isiX_ti, isiX_tt, isiX_st, isiX_sb, isiX_si, isiX_bs, isiX_bt, isiX_is, isiX_it, isiX_ns, isiX_nt, 
  lenOk, decide_eq_true_eq, Nat.reduceAdd, Nat.reduceLeDiff, Nat.reduceEqDiff, Int.reduceEq, Bool.false_xor, Bool.true_xor, Bool.false_or, Bool.or_false, Bool.true_or, Bool.or_true, Bool.true_and, Bool.and_true, Bool.false_and, Bool.and_false, Bool.not_false, Bool.not_true, Bool.false_eq_true, if_true, if_false, reduceIte, ↓reduceIte, decide_true, decide_false, List.length_cons, List.length_nil])
local macro_rules | `(tactic| walk_at "pr") => `(tactic| ((try walk_at "pl"); try rfl))
local macro_rules | `(tactic| walk_at "wk") => `(tactic| try walk_at "pl")
local macro_rules | `(tactic| walk_at "we") => `(tactic| try walk_at "pe")

def Pz (n c : Nat) (d : PyData) : Prop := plainD d = true ∧ d.depth ≤ n ∧ cost d ≤ c
theorem Pz.up {n c m e : Nat} {d : PyData} (h : Pz n c d) (h1 : n ≤ m) (h2 : c ≤ e) : Pz m e d := ⟨h.1, by have := h.2.1; omega, by have := h.2.2; omega⟩
theorem pz_all {n c : Nat} : ∀ xs : List PyData, (∀ x ∈ xs, Pz n c x) → plainAll xs = true ∧ PyData.depthAll xs ≤ n ∧ costAll xs ≤ (c + 2) * xs.length
  | [], _ => ⟨rfl, by simp [PyData.depthAll], by simp [costAll]⟩
  | x :: xs, h => by
    obtain ⟨h1, h2, h3⟩ := pz_all xs fun y hy => h y (List.mem_cons_of_mem _ hy)
    obtain ⟨k1, k2, k3⟩ := h x List.mem_cons_self
    refine ⟨by rw [plainAll, k1, h1]; rfl, by simp only [PyData.depthAll]; omega, ?_⟩
    simp only [costAll, List.length_cons, Nat.mul_succ]
    omega
theorem pz_tup {n c : Nat} {xs : List PyData} (h : ∀ x ∈ xs, Pz n c x) (hl : xs.length ≤ 4) : Pz (n + 1) (4 * c + 20) (.tuple xs) := by
  obtain ⟨h1, h2, h3⟩ := pz_all xs h
  refine ⟨by simp only [plainD]; exact h1, by simp only [PyData.depth]; omega, ?_⟩
  have : (c + 2) * xs.length ≤ (c + 2) * 4 := Nat.mul_le_mul_left _ hl
  simp only [cost]
  omega
theorem pz_w {w : Str} (h : w ∈ (["missing", "in", "if", "text", "abs", "minus", "+", "nothing", "number", "a", "boolean", "cell", "column", "=", "<>", "<", "<=", ">", ">="] : List Str)) : Pz 0 200 (.str w) := by
  obtain ⟨h1, h2⟩ := word_sm h
  exact ⟨h1, by simp [PyData.depth], by simp only [cost]; omega⟩
theorem pz3 {n c : Nat} {x y z : PyData} (hx : Pz n c x) (hy : Pz n c y) (hz : Pz n c z) : Pz (n + 1) (4 * c + 20) (.tuple [x, y, z]) := pz_tup (fun a ha => by
  simp only [List.mem_cons, List.not_mem_nil, or_false] at ha
  rcases ha with rfl | rfl | rfl <;> assumption) (by simp)
theorem pz2 {n c : Nat} {x y : PyData} (hx : Pz n c x) (hy : Pz n c y) : Pz (n + 1) (4 * c + 20) (.tuple [x, y]) := pz_tup (fun a ha => by
  simp only [List.mem_cons, List.not_mem_nil, or_false] at ha
  rcases ha with rfl | rfl <;> assumption) (by simp)
theorem pz4 {n c : Nat} {x y z w : PyData} (hx : Pz n c x) (hy : Pz n c y) (hz : Pz n c z) (hw : Pz n c w) : Pz (n + 1) (4 * c + 20) (.tuple [x, y, z, w]) := pz_tup (fun a ha => by
  simp only [List.mem_cons, List.not_mem_nil, or_false] at ha
  rcases ha with rfl | rfl | rfl | rfl <;> assumption) (by simp)
def Lz (d : PyData) (c t : Bool) : Prop := Leaf d c t ∧ Pz 12 2000000 d
theorem odd_wp {cs : List (Str × Str)} (h : Cols cs) {α : Type} {k : C → M α} {Q : α → Prop} (q : ∀ d t, Lz d false t → wp (k (.val d)) Q) : wp ((f_law_odd [.tape, .val (.tuple (cs.map colD))]).bind k) Q := by
  refine wp_call (fun c => ∃ d t, Lz d false t ∧ c = .val d) ?_ (by rintro c ⟨d, t, h1, rfl⟩; exact q d t h1)
  unfold f_law_odd
  refine wp_fn rfl ?_
  have l5 := h.len
  refine wp_seqJ (fun ρ => ∃ nm, Wd 10 nm ∧ ρ = [some .tape, some (.val (.tuple (cs.map colD))), some (.val (.tuple [.str "column", .str nm])), none, none, none, none]) ?_ ?_
  · walk_at "wk"
    rw [List.length_map, if_pos (by omega)]
    rw [lcL_fm colD (fun c => decide (c.2 = ("number" : Str))) (fun c => .str c.1) cs [] fun c hc => ⟨_, by walk_at "pr", by (unfold colD; walk_at "wk"), fun _ => by (unfold colD; walk_at "pr")⟩]
    obtain ⟨nm, tl, e⟩ := h.hd
    have hn : Wd 10 nm := h.nm (nm, "number") (by rw [e]; simp)
    have ef : (cs.filter fun c => decide (c.2 = ("number" : Str))) = (nm, ("number" : Str)) :: tl.filter fun c => decide (c.2 = ("number" : Str)) := by
      rw [e, List.filter_cons_of_pos (by simp)]
    rw [ef, List.nil_append, List.map_cons]
    walk_at "wk"
    exact ⟨nm, hn, rfl⟩
  rintro ρ ⟨nm, hnm, rfl⟩
  generalize hT : PyData.tuple (cs.map colD) = Cd
  refine wp_seqJ (fun ρ => ∃ c, Cl c ∧ ρ = [some .tape, some (.val Cd), some (.val (.tuple [.str "column", .str nm])), none, some (.val (.tuple [.str "cell", c])), none, none]) ?_ ?_
  · walk_at "wk"
    refine number_wp fun c hc => ?_
    walk_at "wk"
    exact ⟨c, hc, rfl⟩
  rintro ρ ⟨c, hc, rfl⟩
  refine wp_seqJ (fun ρ => ∃ d t, Leaf d false t ∧ Sm d ∧ ρ = [some .tape, some (.val Cd), some (.val (.tuple [.str "column", .str nm])), none, some (.val (.tuple [.str "cell", c])), some (.val d), none]) ?_ ?_
  · rw [← hT]
    walk_at "wk"
    refine test_wp h fun d t h1 h2 => ?_
    walk_at "wk"
    exact ⟨d, t, h1, h2, rfl⟩
  rintro ρ ⟨d0, t0, hd0, hs0, rfl⟩
  have pc : Pz 1 5100 c := ⟨hc.1, hc.2.2.1, by have := hc.2.2.2; omega⟩
  have pn : Pz 1 820 (.tuple [.str "column", .str nm]) := pz2 (pz_w (by decide +kernel)) ⟨hnm.ok.1, by simp [PyData.depth], by have := hnm.ok.2.2; simp only [cost]; omega⟩
  have pl : Pz 2 20420 (.tuple [.str "cell", c]) := pz2 ((pz_w (by decide +kernel)).up (by omega) (by omega)) pc
  have pt : Pz 1 820 (.tuple [.str "cell", .bool true]) := pz2 (pz_w (by decide +kernel)) ⟨rfl, by simp [PyData.depth], by simp only [cost]; omega⟩
  have pd : Pz 8 200000 d0 := hs0
  have W : ∀ {w : Str} {n c : Nat}, w ∈ (["missing", "in", "if", "text", "abs", "minus", "+", "nothing", "number", "a", "boolean", "cell", "column", "=", "<>", "<", "<=", ">", ">="] : List Str) → 200 ≤ c → Pz n c (.str w) := fun h h1 => (pz_w h).up (Nat.zero_le _) h1
  have nine : ∀ d ∈ ([.tuple [.str "=", .tuple [.str "column", .str nm], .tuple [.str "column", .str nm]], .tuple [.str "<", .tuple [.str "+", .tuple [.str "column", .str nm], .tuple [.str "cell", c]], .tuple [.str "cell", c]], .tuple [.str ">=", .tuple [.str "cell", c], .tuple [.str "cell", c]], .tuple [.str "missing", .tuple [.str "minus", .tuple [.str "column", .str nm]]],
      .tuple [.str "in", .tuple [.str "abs", .tuple [.str "column", .str nm]], .tuple [c]], .tuple [.str "if", .tuple [.str "cell", .bool true], d0, .tuple [.str "cell", .bool true]], .tuple [.str "<>", .tuple [.str "text", .tuple [.str "column", .str nm]], .tuple [.str "cell", .str "a"]], .tuple [.str "=", .tuple [.str "column", .str nm], .tuple [.str "nothing", .str "number"]], .tuple [.str "missing", .tuple [.str "cell", c]]] : List PyData), ∃ t, Lz d false t := fun d hd => by
    simp only [List.mem_cons, List.not_mem_nil, or_false] at hd
    rcases hd with rfl | rfl | rfl | rfl | rfl | rfl | rfl | rfl | rfl
    · exact ⟨_, .cmp (by decide +kernel) (by decide +kernel) (by decide +kernel), (pz3 (W (by decide +kernel) (by omega)) pn pn).up (by omega) (by omega)⟩
    · exact ⟨_, .cmp (by decide +kernel) (by decide +kernel) (by decide +kernel), (pz3 (W (by decide +kernel) (by omega)) (pz3 (W (by decide +kernel) (by omega)) (pn.up (by omega) (by omega)) pl) (pl.up (by omega) (by omega))).up (by omega) (by omega)⟩
    · exact ⟨_, .cmp (by decide +kernel) (by decide +kernel) (by decide +kernel), (pz3 (W (by decide +kernel) (by omega)) pl pl).up (by omega) (by omega)⟩
    · exact ⟨_, .one (by decide +kernel) (.inr rfl), (pz2 (W (by decide +kernel) (by omega)) (pz2 (W (by decide +kernel) (by omega)) pn)).up (by omega) (by omega)⟩
    · exact ⟨_, .one (by decide +kernel) (.inl rfl), (pz3 (n := 2) (c := 21000) (W (by decide +kernel) (by omega)) ((pz2 (W (by decide +kernel) (by omega)) pn).up (by omega) (by omega)) ((pz_tup (xs := [c]) (fun x hx => by rw [List.mem_singleton.mp hx]; exact pc) (by simp)).up (by omega) (by omega))).up (by omega) (by omega)⟩
    · exact ⟨_, .cond, (pz4 (W (by decide +kernel) (by omega)) (pt.up (by omega) (by omega)) pd (pt.up (by omega) (by omega))).up (by omega) (by omega)⟩
    · exact ⟨_, .cmp (by decide +kernel) (by decide +kernel) (by decide +kernel), (pz3 (n := 2) (c := 5000) (W (by decide +kernel) (by omega)) ((pz2 (W (by decide +kernel) (by omega)) pn).up (by omega) (by omega)) ((pz2 (n := 0) (c := 200) (W (by decide +kernel) (by omega)) (W (by decide +kernel) (by omega))).up (by omega) (by omega))).up (by omega) (by omega)⟩
    · exact ⟨_, .cmp (by decide +kernel) (by decide +kernel) (by decide +kernel), (pz3 (W (by decide +kernel) (by omega)) pn (pz2 (n := 0) (c := 200) (W (by decide +kernel) (by omega)) (W (by decide +kernel) (by omega)))).up (by omega) (by omega)⟩
    · exact ⟨_, .one (by decide +kernel) (.inr rfl), (pz2 (W (by decide +kernel) (by omega)) pl).up (by omega) (by omega)⟩
  walk_at "wk"
  refine wp_drawn (by decide) fun a a0 a1 => ?_
  walk_at "wk"
  refine wp_pick a0 (by simp only [List.length_cons, List.length_nil, List.length_append]; omega) fun d hd => ?_
  obtain ⟨t, ht⟩ := nine d (by simpa using hd)
  walk_at "wk"
  exact ⟨d, t, ht, rfl⟩

local macro_rules | `(tactic| walk_at "pe") => `(tactic| simp (config := {maxSteps := 2000000}) only [bind_bind, bindR, retB, failB, anyB, iteB, wp_retE, wp_failE,
  ↓kSeq_nx, ↓kSeq_rt, ↓kSeq_bk, ↓kSeq_ct, ↓mNext_eq, ↓mBreak_eq, ↓mCont_eq, ↓mDrop_eq, ↓mRet_eq, ↓mRetN_eq, ↓mAsg_eq, ↓mIf_eq, ↓gVar_eq, gAt_v, gAt_o, gAt_b, gAt_t, ↓mRetV_eq, rAt_s, ↓asgR_eq, aAt_v, aAt_o,
  get_0, get_s, set_0', set_s', List.getElem?_cons_zero, List.getElem?_cons_succ, List.set_cons_zero, List.set_cons_succ, ↓aNil_eq, ↓aCons_eq, ↓aTup_eq, ↓mPar_eq, ↓kPar_v, ↓gC_eq, ↓gaNil_eq, ↓gaCons_eq, ↓gTupE_eq, ↓gLst_eq, ↓gOp_eq, ↓gUn_eq, ↓gCall_eq, ↓gFn_eq, map_nilC, map_consC, lend_v, lend_o, lend_b, lend_t,
  ↓gTru_eq, ↓gTest_eq, oBl_b, oTru_v, oTru_o, oTru_b, truD_n, truD_b, truD_i, truD_t, mAnd_r, mOr_r, mAnd_t, mAnd_f, mOr_t, mOr_f, ↓gAnd_eq, ↓gOr_eq, ↓gNot_eq, mAndC_r, mAndC_f, mOrC_r, ↓gAndT_eq, ↓gOrT_eq, ↓gNotT_eq, ↓gIfE_eq, ↓gChain_eq, ↓gNo_eq, ↓gSome_eq, oInt?_i, ↓gSl_eq, oSl_t, oSl_b, ↓gSl2_eq, kSl2_t,
  ↓gIt_eq, ↓gItV_eq, kItV_v, kItV_b, kItV_o, itV_t, itV_s, itV_b, itV_o, itD_t, itD_s, itD_o, ↓gItR1_eq, ↓gItR2_eq, ↓gItR3_eq, itR3_i, itR1_i, itR2_i, ↓gLc_eq, wipe_n, wipe_c, ↓gYes_eq, ↓gR1_eq, kR1_i, ↓gR2_eq, kR2_i, ↓gLstRg_eq, ↓gTupRg_eq, ↓mFor_eq, ↓mForV_eq, ↓mForRev_eq, kForRev_o, kForRev_t, kForV_o, kForV_b, kForV_t, kForV_s, ↓mApp_eq, appAt_o, kApp_v,
  ↓fnU_eq, rp_0, rp_s, ap_n, ap_c, ms_n, ms_c, out_rt, out_nx, oAdd_i, oAdd_s, oAdd_t, oAdd_oo, oAdd_bo, oAdd_bb, oAdd_ob, oInt_v, oMul_i, oNeg_i, oEq_i, oNe_i, oEq_b, oNe_b, oEq_s, oNe_s, oIx_t, oIx_s, oIx_o, oIx_b, atD_0, atD_1, atD_2, atD_3, atD_4, atD_5, atD_6, atD_7, atD_8, datas_n, datas_v, mp_some, oTup_eq, oLst_eq, kTup_s, kLst_s, len_n, len_c,
  o1_v, o1_o, o1_b, lenD_t, lenD_l, lenD_s, absD_i, intD_i, intD_b, oMax2_i, oMin2_i, oGcd_i, oListC_t, oListC_o, oListC_b, oTupC_t, oTupC_o, oTupC_b, isi_bi, isi_ii, isi_ib, isi_bb, isi_ni, isi_ss, isi_nb, oIsi_v, tyD_b, tyD_i, tyD_s, tyD_n, oIsX_n, oIsX_b, isN_n, isN_i, isN_b, isN_s, isN_t, aUnl_o, aUnl_b, oIx_l, ↓gTRev_eq, ↓gInK_eq, ↓gInKd_eq, oTRev_t, ↓gEnT_eq, enC_t, ↓gDZip_eq, kForV_l, truD_l, oSl_l, itD_l, itV_l, oListC_l, oTupC_l, kIdxL_l, oAdd_lo, oAdd_ol, oAdd_ll, oAdd_lb, oAdd_bl, ↓mFrz_eq, kFrz_o, kFrz_v, kFrz_b, kFrz_n, ↓gFrz_eq, frzC_o, frzC_v, ↓gItI_eq, itI_t, itI_l, itI_s, ↓gDcT_eq, ↓gLc2_eq, ↓gLock_eq, lockAt_o, lockC_v, lockC_o, ↓gKeys_eq, keysAt_b, ↓mDPut_eq, dputAt_T, dputAt_K, ↓gNewT_eq, ↓gNewK_eq, ↓gDGet1_eq, ↓mSetAt_eq, setAt_o, ↓mAugI_eq, augAt_i, kAug_i, ↓gZip_eq, zipD_t, ↓gIdxL_eq, kIdxL_b, kIdxL_o, idxA_v, ↓gIdxK_eq, ↓gSix_eq, kSix_s, oLtU_i, oLtU_s, oLtU_b, ↓gFnD_eq, ↓gFnK_eq, kFnK_21, mOrCt, mOrCf, mAndCt, mAndCf, ↓gF_eq, ↓gFt_eq, ↓mF_eq, oIsiX_v, tyX_b, tyX_i, tyX_s, tyX_n, tyX_t, isiX_ts, isiX_tb, isiX_ti, isiX_tt, isiX_st, isiX_sb, isiX_si, isiX_bs, isiX_bt, isiX_is, isiX_it, isiX_ns, isiX_nt, 
  lenOk, decide_eq_true_eq, Nat.reduceAdd, Nat.reduceLeDiff, Nat.reduceEqDiff, Int.reduceEq, Bool.false_xor, Bool.true_xor, Bool.false_or, Bool.or_false, Bool.true_or, Bool.or_true, Bool.true_and, Bool.and_true, Bool.false_and, Bool.and_false, Bool.not_false, Bool.not_true, Bool.false_eq_true, if_true, if_false, reduceIte, ↓reduceIte, decide_true, decide_false, List.length_cons, List.length_nil])
local macro_rules | `(tactic| walk_at "pl") => `(tactic| simp (config := {maxSteps := 2000000}) only [bind_bind, bindR, retB, failB, anyB, iteB, wp_retE, wp_failE,
  ↓mSeq_eq, ↓kSeq_nx, ↓kSeq_rt, ↓kSeq_bk, ↓kSeq_ct, ↓mNext_eq, ↓mBreak_eq, ↓mCont_eq, ↓mDrop_eq, ↓mRet_eq, ↓mRetN_eq, ↓mAsg_eq, ↓mIf_eq, ↓gVar_eq, gAt_v, gAt_o, gAt_b, gAt_t, ↓mRetV_eq, rAt_s, ↓asgR_eq, aAt_v, aAt_o,
  get_0, get_s, set_0', set_s', List.getElem?_cons_zero, List.getElem?_cons_succ, List.set_cons_zero, List.set_cons_succ, ↓aNil_eq, ↓aCons_eq, ↓aTup_eq, ↓mPar_eq, ↓kPar_v, ↓gC_eq, ↓gaNil_eq, ↓gaCons_eq, ↓gTupE_eq, ↓gLst_eq, ↓gOp_eq, ↓gUn_eq, ↓gCall_eq, ↓gFn_eq, map_nilC, map_consC, lend_v, lend_o, lend_b, lend_t,
  ↓gTru_eq, ↓gTest_eq, oBl_b, oTru_v, oTru_o, oTru_b, truD_n, truD_b, truD_i, truD_t, mAnd_r, mOr_r, mAnd_t, mAnd_f, mOr_t, mOr_f, ↓gAnd_eq, ↓gOr_eq, ↓gNot_eq, mAndC_r, mAndC_f, mOrC_r, ↓gAndT_eq, ↓gOrT_eq, ↓gNotT_eq, ↓gIfE_eq, ↓gChain_eq, ↓gNo_eq, ↓gSome_eq, oInt?_i, ↓gSl_eq, oSl_t, oSl_b, ↓gSl2_eq, kSl2_t,
  ↓gIt_eq, ↓gItV_eq, kItV_v, kItV_b, kItV_o, itV_t, itV_s, itV_b, itV_o, itD_t, itD_s, itD_o, ↓gItR1_eq, ↓gItR2_eq, ↓gItR3_eq, itR3_i, itR1_i, itR2_i, ↓gLc_eq, wipe_n, wipe_c, ↓gYes_eq, ↓gR1_eq, kR1_i, ↓gR2_eq, kR2_i, ↓gLstRg_eq, ↓gTupRg_eq, ↓mFor_eq, ↓mForV_eq, ↓mForRev_eq, kForRev_o, kForRev_t, kForV_o, kForV_b, kForV_t, kForV_s, ↓mApp_eq, appAt_o, kApp_v,
  ↓fnU_eq, rp_0, rp_s, ap_n, ap_c, ms_n, ms_c, out_rt, out_nx, oAdd_i, oAdd_s, oAdd_t, oAdd_oo, oAdd_bo, oAdd_bb, oAdd_ob, oInt_v, oMul_i, oNeg_i, oEq_i, oNe_i, oEq_b, oNe_b, oEq_s, oNe_s, oIx_t, oIx_s, oIx_o, oIx_b, atD_0, atD_1, atD_2, atD_3, atD_4, atD_5, atD_6, atD_7, atD_8, datas_n, datas_v, mp_some, oTup_eq, oLst_eq, kTup_s, kLst_s, len_n, len_c,
  o1_v, o1_o, o1_b, lenD_t, lenD_l, lenD_s, absD_i, intD_i, intD_b, oMax2_i, oMin2_i, oGcd_i, oListC_t, oListC_o, oListC_b, oTupC_t, oTupC_o, oTupC_b, isi_bi, isi_ii, isi_ib, isi_bb, isi_ni, isi_ss, isi_nb, oIsi_v, tyD_b, tyD_i, tyD_s, tyD_n, oIsX_n, oIsX_b, isN_n, isN_i, isN_b, isN_s, isN_t, aUnl_o, aUnl_b, oIx_l, ↓gTRev_eq, ↓gInK_eq, ↓gInKd_eq, oTRev_t, ↓gEnT_eq, enC_t, ↓gDZip_eq, kForV_l, truD_l, oSl_l, itD_l, itV_l, oListC_l, oTupC_l, kIdxL_l, oAdd_lo, oAdd_ol, oAdd_ll, oAdd_lb, oAdd_bl, ↓mFrz_eq, kFrz_o, kFrz_v, kFrz_b, kFrz_n, ↓gFrz_eq, frzC_o, frzC_v, ↓gItI_eq, itI_t, itI_l, itI_s, ↓gDcT_eq, ↓gLc2_eq, ↓gLock_eq, lockAt_o, lockC_v, lockC_o, ↓gKeys_eq, keysAt_b, ↓mDPut_eq, dputAt_T, dputAt_K, ↓gNewT_eq, ↓gNewK_eq, ↓gDGet1_eq, ↓mSetAt_eq, setAt_o, ↓mAugI_eq, augAt_i, kAug_i, ↓gZip_eq, zipD_t, ↓gIdxL_eq, kIdxL_b, kIdxL_o, idxA_v, ↓gIdxK_eq, ↓gSix_eq, kSix_s, oLtU_i, oLtU_s, oLtU_b, ↓gFnD_eq, ↓gFnK_eq, kFnK_21, mOrCt, mOrCf, mAndCt, mAndCf, ↓gF_eq, ↓gFt_eq, ↓mF_eq, oIsiX_v, tyX_b, tyX_i, tyX_s, tyX_n, tyX_t, isiX_ts, isiX_tb, isiX_ti, isiX_tt, isiX_st, isiX_sb, isiX_si, isiX_bs, isiX_bt, isiX_is, isiX_it, isiX_ns, isiX_nt, 
  lenOk, decide_eq_true_eq, Nat.reduceAdd, Nat.reduceLeDiff, Nat.reduceEqDiff, Int.reduceEq, Bool.false_xor, Bool.true_xor, Bool.false_or, Bool.or_false, Bool.true_or, Bool.or_true, Bool.true_and, Bool.and_true, Bool.false_and, Bool.and_false, Bool.not_false, Bool.not_true, Bool.false_eq_true, if_true, if_false, reduceIte, ↓reduceIte, decide_true, decide_false, List.length_cons, List.length_nil])
local macro_rules | `(tactic| walk_at "pr") => `(tactic| ((try walk_at "pl"); try rfl))
local macro_rules | `(tactic| walk_at "wk") => `(tactic| try walk_at "pl")
local macro_rules | `(tactic| walk_at "we") => `(tactic| try walk_at "pe")

def Xp.sm : Xp → Prop
  | .leaf d c t => Lz d c t
  | .neg x => x.sm
  | .bin _ x y => x.sm ∧ y.sm
theorem Xp.sm_ok : ∀ {x : Xp}, x.sm → x.ok
  | .leaf _ _ _, h => h.1
  | .neg x, h => Xp.sm_ok (x := x) h
  | .bin _ x y, h => ⟨Xp.sm_ok h.1, Xp.sm_ok h.2⟩
theorem Xp.sm_T : ∀ {x : Xp}, x.sm → ∀ d ∈ x.T, Pz 12 2000000 d
  | .leaf d c t, h, e, he => by
    unfold Xp.T at he
    cases c with
    | true => cases he
    | false => rw [List.mem_singleton.mp he]; exact h.2
  | .neg x, h, e, he => Xp.sm_T (x := x) h e he
  | .bin _ x y, h, e, he => by
    rcases List.mem_append.mp he with z | z
    · exact Xp.sm_T h.1 e z
    · exact Xp.sm_T h.2 e z
theorem con_lz {w : Str} {r : List PyData} (hw : w = "cell" ∨ w = "nothing") (p : Pz 12 2000000 (.tuple (.str w :: r))) : Lz (.tuple (.str w :: r)) true false := ⟨.con hw, p⟩
theorem wild0_w {cs : List (Str × Str)} (h : Cols cs) (n : Nat) (sh : Int) : wp (f_law_wild (n + 1) [.tape, .val (.tuple (cs.map colD)), .val (.int 0), .val (.int sh)]) (fun c => ∃ d e t, Lz d e t ∧ c = .val d) := by
  unfold f_law_wild
  refine wp_fn rfl ?_
  have hT' : ∀ {α : Type} {k : C → M α} {Q : α → Prop}, (∀ d t, Leaf d false t → Sm d → wp (k (.val d)) Q) → wp ((f_law_test [.tape, .val (.tuple (cs.map colD))]).bind k) Q := fun q => test_wp h q
  have hO' : ∀ {α : Type} {k : C → M α} {Q : α → Prop}, (∀ d t, Lz d false t → wp (k (.val d)) Q) → wp ((f_law_odd [.tape, .val (.tuple (cs.map colD))]).bind k) Q := fun q => odd_wp h q
  generalize PyData.tuple (cs.map colD) = Cd at hT' hO'
  refine wp_seqJ (fun ρ => ∃ f : Int, ρ = [some .tape, some (.val Cd), some (.val (.int 0)), some (.val (.int sh)), some (.val (.int f)), none]) ?_ ?_
  · walk_at "wk"
    refine wp_drawn (by decide) fun a a0 a1 => ?_
    walk_at "wk"
    exact ⟨_, rfl⟩
  rintro ρ ⟨f, rfl⟩
  refine wp_seqJ (fun ρ => ρ = [some .tape, some (.val Cd), some (.val (.int 0)), some (.val (.int sh)), some (.val (.int f)), none]) ?_ ?_
  · walk_at "wk"
    rw [if_neg (by simp)]
    walk_at "wk"
    rfl
  rintro ρ rfl
  refine wp_seqJ (fun ρ => ρ = [some .tape, some (.val Cd), some (.val (.int 0)), some (.val (.int sh)), some (.val (.int f)), none]) ?_ ?_
  · walk_at "wk"
    rw [if_neg (by simp)]
    walk_at "wk"
    rfl
  rintro ρ rfl
  refine wp_seqJ (fun ρ => ρ = [some .tape, some (.val Cd), some (.val (.int 0)), some (.val (.int sh)), some (.val (.int f)), none]) ?_ ?_
  · walk_at "wk"
    refine wp_ite (fun h => ?_) (fun h => ?_)
    · refine wp_drawn (by decide) fun a a0 a1 => ?_
      walk_at "wk"
      refine wp_pick a0 (by simp only [List.length_cons, List.length_nil]; omega) fun d hd => ?_
      walk_at "wk"
      simp only [List.mem_cons, List.not_mem_nil, or_false] at hd
      rcases hd with rfl | rfl | rfl
      · exact out_ok ⟨_, _, _, con_lz (.inl rfl) ((pz2 (pz_w (by decide +kernel)) ⟨rfl, by simp [PyData.depth], by simp only [cost]; omega⟩).up (by omega) (by omega)), rfl⟩
      · exact out_ok ⟨_, _, _, con_lz (.inl rfl) ((pz2 (pz_w (by decide +kernel)) ⟨rfl, by simp [PyData.depth], by simp only [cost]; omega⟩).up (by omega) (by omega)), rfl⟩
      · exact out_ok ⟨_, _, _, con_lz (.inr rfl) ((pz2 (pz_w (by decide +kernel)) (pz_w (by decide +kernel))).up (by omega) (by omega)), rfl⟩
    · walk_at "wk"
      rfl
  rintro ρ rfl
  refine wp_seqJ (fun ρ => ρ = [some .tape, some (.val Cd), some (.val (.int 0)), some (.val (.int sh)), some (.val (.int f)), none]) ?_ ?_
  · walk_at "wk"
    refine wp_drawn (by decide) fun a a0 a1 => ?_
    walk_at "wk"
    refine wp_ite (fun h => ?_) (fun h => ?_)
    · refine hO' fun d t ht => ?_
      walk_at "wk"
      exact out_ok ⟨d, false, t, ht, rfl⟩
    · walk_at "wk"
      rfl
  rintro ρ rfl
  walk_at "wk"
  refine hT' fun d t h1 h2 => ?_
  walk_at "wk"
  exact ⟨d, false, t, ⟨h1, Pz.up (n := 8) (c := 200000) h2 (by omega) (by omega)⟩, rfl⟩
theorem wild1_w {cs : List (Str × Str)} (h : Cols cs) (n : Nat) (sh : Int) : wp (f_law_wild (n + 2) [.tape, .val (.tuple (cs.map colD)), .val (.int 1), .val (.int sh)]) (fun c => ∃ x : Xp, x.sm ∧ x.hi ≤ 2 ∧ c = .val x.d) := by
  unfold f_law_wild
  refine wp_fn rfl ?_
  have hT' : ∀ {α : Type} {k : C → M α} {Q : α → Prop}, (∀ d t, Leaf d false t → Sm d → wp (k (.val d)) Q) → wp ((f_law_test [.tape, .val (.tuple (cs.map colD))]).bind k) Q := fun q => test_wp h q
  have hO' : ∀ {α : Type} {k : C → M α} {Q : α → Prop}, (∀ d t, Lz d false t → wp (k (.val d)) Q) → wp ((f_law_odd [.tape, .val (.tuple (cs.map colD))]).bind k) Q := fun q => odd_wp h q
  have hW : wp (f_law_wild (n + 1) [.tape, .val (.tuple (cs.map colD)), .val (.int 0), .val (.int sh)]) (fun c => ∃ d e t, Lz d e t ∧ c = .val d) := wild0_w h n sh
  generalize PyData.tuple (cs.map colD) = Cd at hT' hO' hW
  refine wp_seqJ (fun ρ => ∃ f : Int, 0 ≤ f ∧ f < 7 ∧ ρ = [some .tape, some (.val Cd), some (.val (.int 1)), some (.val (.int sh)), some (.val (.int f)), none]) ?_ ?_
  · walk_at "wk"
    refine wp_drawn (by decide) fun a a0 a1 => ?_
    walk_at "wk"
    exact ⟨_, a0, by omega, rfl⟩
  rintro ρ ⟨f, f0, f1, rfl⟩
  refine wp_seqJ (fun ρ => f ≠ 0 ∧ ρ = [some .tape, some (.val Cd), some (.val (.int 1)), some (.val (.int sh)), some (.val (.int f)), none]) ?_ ?_
  · walk_at "wk"
    refine wp_ite (fun h => ?_) (fun h => ?_)
    · rw [show ((1 : Int) - 1) = 0 from rfl]
      refine wp_call _ hW ?_
      rintro c ⟨d, e, t, hd, rfl⟩
      walk_at "wk"
      exact out_ok ⟨.neg (.leaf d e t), hd, by simp [Xp.hi], rfl⟩
    · walk_at "wk"
      exact ⟨fun z => h (by rw [z]; rfl), rfl⟩
  rintro ρ ⟨fn, rfl⟩
  refine wp_seqJ (fun ρ => ρ = [some .tape, some (.val Cd), some (.val (.int 1)), some (.val (.int sh)), some (.val (.int f)), none]) ?_ ?_
  · walk_at "wk"
    refine wp_ite (fun h => ?_) (fun h => ?_)
    · have hlt : f < 4 := by
        rw [Bool.and_eq_true, decide_eq_true_eq, decide_eq_true_eq] at h
        exact h.2
      rw [show ((1 : Int) - 1) = 0 from rfl]
      refine wp_call _ hW ?_
      rintro c ⟨d, e, t, hd, rfl⟩
      walk_at "wk"
      refine wp_pick (by omega) (by simp only [List.length_cons, List.length_nil]; omega) fun w hw => ?_
      walk_at "wk"
      try rw [show ((1 : Int) - 1) = 0 from rfl]
      refine wp_call _ hW ?_
      rintro c ⟨d', e', t', hd', rfl⟩
      walk_at "wk"
      simp only [List.mem_cons, List.not_mem_nil, or_false] at hw
      rcases hw with rfl | rfl | rfl
      · exact out_ok ⟨.bin false (.leaf d e t) (.leaf d' e' t'), ⟨hd, hd'⟩, by simp [Xp.hi], rfl⟩
      · exact out_ok ⟨.bin true (.leaf d e t) (.leaf d' e' t'), ⟨hd, hd'⟩, by simp [Xp.hi], rfl⟩
      · exact out_ok ⟨.bin false (.leaf d e t) (.leaf d' e' t'), ⟨hd, hd'⟩, by simp [Xp.hi], rfl⟩
    · walk_at "wk"
      rfl
  rintro ρ rfl
  refine wp_seqJ (fun ρ => ρ = [some .tape, some (.val Cd), some (.val (.int 1)), some (.val (.int sh)), some (.val (.int f)), none]) ?_ ?_
  · walk_at "wk"
    refine wp_ite (fun h => ?_) (fun h => ?_)
    · refine wp_drawn (by decide) fun a a0 a1 => ?_
      walk_at "wk"
      refine wp_pick a0 (by simp only [List.length_cons, List.length_nil]; omega) fun d hd => ?_
      walk_at "wk"
      simp only [List.mem_cons, List.not_mem_nil, or_false] at hd
      rcases hd with rfl | rfl | rfl
      · exact out_ok ⟨.leaf _ true false, con_lz (.inl rfl) ((pz2 (pz_w (by decide +kernel)) ⟨rfl, by simp [PyData.depth], by simp only [cost]; omega⟩).up (by omega) (by omega)), by simp [Xp.hi], rfl⟩
      · exact out_ok ⟨.leaf _ true false, con_lz (.inl rfl) ((pz2 (pz_w (by decide +kernel)) ⟨rfl, by simp [PyData.depth], by simp only [cost]; omega⟩).up (by omega) (by omega)), by simp [Xp.hi], rfl⟩
      · exact out_ok ⟨.leaf _ true false, con_lz (.inr rfl) ((pz2 (pz_w (by decide +kernel)) (pz_w (by decide +kernel))).up (by omega) (by omega)), by simp [Xp.hi], rfl⟩
    · walk_at "wk"
      rfl
  rintro ρ rfl
  refine wp_seqJ (fun ρ => ρ = [some .tape, some (.val Cd), some (.val (.int 1)), some (.val (.int sh)), some (.val (.int f)), none]) ?_ ?_
  · walk_at "wk"
    refine wp_drawn (by decide) fun a a0 a1 => ?_
    walk_at "wk"
    refine wp_ite (fun h => ?_) (fun h => ?_)
    · refine hO' fun d t ht => ?_
      walk_at "wk"
      exact out_ok ⟨.leaf d false t, ht, by simp [Xp.hi], rfl⟩
    · walk_at "wk"
      rfl
  rintro ρ rfl
  walk_at "wk"
  refine hT' fun d t h1 h2 => ?_
  walk_at "wk"
  exact ⟨.leaf d false t, ⟨h1, Pz.up (n := 8) (c := 200000) h2 (by omega) (by omega)⟩, by simp [Xp.hi], rfl⟩

local macro_rules | `(tactic| walk_at "pe") => `(tactic| simp (config := {maxSteps := 2000000}) only [bind_bind, bindR, retB, failB, anyB, iteB, wp_retE, wp_failE,
  ↓kSeq_nx, ↓kSeq_rt, ↓kSeq_bk, ↓kSeq_ct, ↓mNext_eq, ↓mBreak_eq, ↓mCont_eq, ↓mDrop_eq, ↓mRet_eq, ↓mRetN_eq, ↓mAsg_eq, ↓mIf_eq, ↓gVar_eq, gAt_v, gAt_o, gAt_b, gAt_t, ↓mRetV_eq, rAt_s, ↓asgR_eq, aAt_v, aAt_o,
  get_0, get_s, set_0', set_s', List.getElem?_cons_zero, List.getElem?_cons_succ, List.set_cons_zero, List.set_cons_succ, ↓aNil_eq, ↓aCons_eq, ↓aTup_eq, ↓mPar_eq, ↓kPar_v, ↓gC_eq, ↓gaNil_eq, ↓gaCons_eq, ↓gTupE_eq, ↓gLst_eq, ↓gOp_eq, ↓gUn_eq, ↓gCall_eq, ↓gFn_eq, map_nilC, map_consC, lend_v, lend_o, lend_b, lend_t,
  ↓gTru_eq, ↓gTest_eq, oBl_b, oTru_v, oTru_o, oTru_b, truD_n, truD_b, truD_i, truD_t, mAnd_r, mOr_r, mAnd_t, mAnd_f, mOr_t, mOr_f, ↓gAnd_eq, ↓gOr_eq, ↓gNot_eq, mAndC_r, mAndC_f, mOrC_r, ↓gAndT_eq, ↓gOrT_eq, ↓gNotT_eq, ↓gIfE_eq, ↓gChain_eq, ↓gNo_eq, ↓gSome_eq, oInt?_i, ↓gSl_eq, oSl_t, oSl_b, ↓gSl2_eq, kSl2_t,
  ↓gIt_eq, ↓gItV_eq, kItV_v, kItV_b, kItV_o, itV_t, itV_s, itV_b, itV_o, itD_t, itD_s, itD_o, ↓gItR1_eq, ↓gItR2_eq, ↓gItR3_eq, itR3_i, itR1_i, itR2_i, ↓gLc_eq, wipe_n, wipe_c, ↓gYes_eq, ↓gR1_eq, kR1_i, ↓gR2_eq, kR2_i, ↓gLstRg_eq, ↓gTupRg_eq, ↓mFor_eq, ↓mForV_eq, ↓mForRev_eq, kForRev_o, kForRev_t, kForV_o, kForV_b, kForV_t, kForV_s, ↓mApp_eq, appAt_o, kApp_v,
  ↓fnU_eq, rp_0, rp_s, ap_n, ap_c, ms_n, ms_c, out_rt, out_nx, oAdd_i, oAdd_s, oAdd_t, oAdd_oo, oAdd_bo, oAdd_bb, oAdd_ob, oInt_v, oMul_i, oNeg_i, oEq_i, oNe_i, oEq_b, oNe_b, oEq_s, oNe_s, oIx_t, oIx_s, oIx_o, oIx_b, atD_0, atD_1, atD_2, atD_3, atD_4, atD_5, atD_6, atD_7, atD_8, datas_n, datas_v, mp_some, oTup_eq, oLst_eq, kTup_s, kLst_s, len_n, len_c,
  o1_v, o1_o, o1_b, lenD_t, lenD_l, lenD_s, absD_i, intD_i, intD_b, oMax2_i, oMin2_i, oGcd_i, oListC_t, oListC_o, oListC_b, oTupC_t, oTupC_o, oTupC_b, isi_bi, isi_ii, isi_ib, isi_bb, isi_ni, isi_ss, isi_nb, oIsi_v, tyD_b, tyD_i, tyD_s, tyD_n, oIsX_n, oIsX_b, isN_n, isN_i, isN_b, isN_s, isN_t, aUnl_o, aUnl_b, oIx_l, ↓gTRev_eq, ↓gInK_eq, ↓gInKd_eq, oTRev_t, ↓gEnT_eq, enC_t, ↓gDZip_eq, kForV_l, truD_l, oSl_l, itD_l, itV_l, oListC_l, oTupC_l, kIdxL_l, oAdd_lo, oAdd_ol, oAdd_ll, oAdd_lb, oAdd_bl, ↓mFrz_eq, kFrz_o, kFrz_v, kFrz_b, kFrz_n, ↓gFrz_eq, frzC_o, frzC_v, ↓gItI_eq, itI_t, itI_l, itI_s, ↓gDcT_eq, ↓gLc2_eq, ↓gLock_eq, lockAt_o, lockC_v, lockC_o, ↓gKeys_eq, keysAt_b, ↓mDPut_eq, dputAt_T, dputAt_K, ↓gNewT_eq, ↓gNewK_eq, ↓gDGet1_eq, ↓mSetAt_eq, setAt_o, ↓mAugI_eq, augAt_i, kAug_i, ↓gZip_eq, zipD_t, ↓gIdxL_eq, kIdxL_b, kIdxL_o, idxA_v, ↓gIdxK_eq, ↓gSix_eq, kSix_s, oLtU_i, oLtU_s, oLtU_b, ↓gFnD_eq, ↓gFnK_eq, kFnK_21, mOrCt, mOrCf, mAndCt, mAndCf, ↓gF_eq, ↓gFt_eq, ↓mF_eq, oIsiX_v, tyX_b, tyX_i, tyX_s, tyX_n, tyX_t, isiX_ts, isiX_tb, isiX_ti, isiX_tt, isiX_st, isiX_sb, isiX_si, isiX_bs, isiX_bt, isiX_is, isiX_it, isiX_ns, isiX_nt, 
  lenOk, decide_eq_true_eq, Nat.reduceAdd, Nat.reduceLeDiff, Nat.reduceEqDiff, Int.reduceEq, Bool.false_xor, Bool.true_xor, Bool.false_or, Bool.or_false, Bool.true_or, Bool.or_true, Bool.true_and, Bool.and_true, Bool.false_and, Bool.and_false, Bool.not_false, Bool.not_true, Bool.false_eq_true, if_true, if_false, reduceIte, ↓reduceIte, decide_true, decide_false, List.length_cons, List.length_nil])
local macro_rules | `(tactic| walk_at "pl") => `(tactic| simp (config := {maxSteps := 2000000}) only [bind_bind, bindR, retB, failB, anyB, iteB, wp_retE, wp_failE,
  ↓mSeq_eq, ↓kSeq_nx, ↓kSeq_rt, ↓kSeq_bk, ↓kSeq_ct, ↓mNext_eq, ↓mBreak_eq, ↓mCont_eq, ↓mDrop_eq, ↓mRet_eq, ↓mRetN_eq, ↓mAsg_eq, ↓mIf_eq, ↓gVar_eq, gAt_v, gAt_o, gAt_b, gAt_t, ↓mRetV_eq, rAt_s, ↓asgR_eq, aAt_v, aAt_o,
  get_0, get_s, set_0', set_s', List.getElem?_cons_zero, List.getElem?_cons_succ, List.set_cons_zero, List.set_cons_succ, ↓aNil_eq, ↓aCons_eq, ↓aTup_eq, ↓mPar_eq, ↓kPar_v, ↓gC_eq, ↓gaNil_eq, ↓gaCons_eq, ↓gTupE_eq, ↓gLst_eq, ↓gOp_eq, ↓gUn_eq, ↓gCall_eq, ↓gFn_eq, map_nilC, map_consC, lend_v, lend_o, lend_b, lend_t,
  ↓gTru_eq, ↓gTest_eq, oBl_b, oTru_v, oTru_o, oTru_b, truD_n, truD_b, truD_i, truD_t, mAnd_r, mOr_r, mAnd_t, mAnd_f, mOr_t, mOr_f, ↓gAnd_eq, ↓gOr_eq, ↓gNot_eq, mAndC_r, mAndC_f, mOrC_r, ↓gAndT_eq, ↓gOrT_eq, ↓gNotT_eq, ↓gIfE_eq, ↓gChain_eq, ↓gNo_eq, ↓gSome_eq, oInt?_i, ↓gSl_eq, oSl_t, oSl_b, ↓gSl2_eq, kSl2_t,
  ↓gIt_eq, ↓gItV_eq, kItV_v, kItV_b, kItV_o, itV_t, itV_s, itV_b, itV_o, itD_t, itD_s, itD_o, ↓gItR1_eq, ↓gItR2_eq, ↓gItR3_eq, itR3_i, itR1_i, itR2_i, ↓gLc_eq, wipe_n, wipe_c, ↓gYes_eq, ↓gR1_eq, kR1_i, ↓gR2_eq, kR2_i, ↓gLstRg_eq, ↓gTupRg_eq, ↓mFor_eq, ↓mForV_eq, ↓mForRev_eq, kForRev_o, kForRev_t, kForV_o, kForV_b, kForV_t, kForV_s, ↓mApp_eq, appAt_o, kApp_v,
  ↓fnU_eq, rp_0, rp_s, ap_n, ap_c, ms_n, ms_c, out_rt, out_nx, oAdd_i, oAdd_s, oAdd_t, oAdd_oo, oAdd_bo, oAdd_bb, oAdd_ob, oInt_v, oMul_i, oNeg_i, oEq_i, oNe_i, oEq_b, oNe_b, oEq_s, oNe_s, oIx_t, oIx_s, oIx_o, oIx_b, atD_0, atD_1, atD_2, atD_3, atD_4, atD_5, atD_6, atD_7, atD_8, datas_n, datas_v, mp_some, oTup_eq, oLst_eq, kTup_s, kLst_s, len_n, len_c,
  o1_v, o1_o, o1_b, lenD_t, lenD_l, lenD_s, absD_i, intD_i, intD_b, oMax2_i, oMin2_i, oGcd_i, oListC_t, oListC_o, oListC_b, oTupC_t, oTupC_o, oTupC_b, isi_bi, isi_ii, isi_ib, isi_bb, isi_ni, isi_ss, isi_nb, oIsi_v, tyD_b, tyD_i, tyD_s, tyD_n, oIsX_n, oIsX_b, isN_n, isN_i, isN_b, isN_s, isN_t, aUnl_o, aUnl_b, oIx_l, ↓gTRev_eq, ↓gInK_eq, ↓gInKd_eq, oTRev_t, ↓gEnT_eq, enC_t, ↓gDZip_eq, kForV_l, truD_l, oSl_l, itD_l, itV_l, oListC_l, oTupC_l, kIdxL_l, oAdd_lo, oAdd_ol, oAdd_ll, oAdd_lb, oAdd_bl, ↓mFrz_eq, kFrz_o, kFrz_v, kFrz_b, kFrz_n, ↓gFrz_eq, frzC_o, frzC_v, ↓gItI_eq, itI_t, itI_l, itI_s, ↓gDcT_eq, ↓gLc2_eq, ↓gLock_eq, lockAt_o, lockC_v, lockC_o, ↓gKeys_eq, keysAt_b, ↓mDPut_eq, dputAt_T, dputAt_K, ↓gNewT_eq, ↓gNewK_eq, ↓gDGet1_eq, ↓mSetAt_eq, setAt_o, ↓mAugI_eq, augAt_i, kAug_i, ↓gZip_eq, zipD_t, ↓gIdxL_eq, kIdxL_b, kIdxL_o, idxA_v, ↓gIdxK_eq, ↓gSix_eq, kSix_s, oLtU_i, oLtU_s, oLtU_b, ↓gFnD_eq, ↓gFnK_eq, kFnK_21, mOrCt, mOrCf, mAndCt, mAndCf, ↓gF_eq, ↓gFt_eq, ↓mF_eq, oIsiX_v, tyX_b, tyX_i, tyX_s, tyX_n, tyX_t, isiX_ts, isiX_tb, isiX_ti, isiX_tt, isiX_st, isiX_sb, isiX_si, isiX_bs, isiX_bt, isiX_is, isiX_it, isiX_ns, isiX_nt, 
  lenOk, decide_eq_true_eq, Nat.reduceAdd, Nat.reduceLeDiff, Nat.reduceEqDiff, Int.reduceEq, Bool.false_xor, Bool.true_xor, Bool.false_or, Bool.or_false, Bool.true_or, Bool.or_true, Bool.true_and, Bool.and_true, Bool.false_and, Bool.and_false, Bool.not_false, Bool.not_true, Bool.false_eq_true, if_true, if_false, reduceIte, ↓reduceIte, decide_true, decide_false, List.length_cons, List.length_nil])
local macro_rules | `(tactic| walk_at "pr") => `(tactic| ((try walk_at "pl"); try rfl))
local macro_rules | `(tactic| walk_at "wk") => `(tactic| try walk_at "pl")
local macro_rules | `(tactic| walk_at "we") => `(tactic| try walk_at "pe")

theorem ne_same {x : Str} : oNe (.val (.str x)) (.val (.str x)) = .ret (.val (.bool false)) := by rw [oNe_s, decide_eq_true rfl]; rfl

theorem rep_T {x : Xp} (h : x.sm) (hh : x.hi ≤ 3) : RepOk (.tuple x.T) := by
  obtain ⟨h1, h2, h3⟩ := pz_all x.T (Xp.sm_T h)
  have l : x.T.length ≤ 8 := Nat.le_trans (Xp.L_le x).2 (Nat.pow_le_pow_right (n := 2) (by decide) hh)
  refine ⟨by simp only [plainD]; exact h1, by simp only [PyData.depth]; omega, ?_⟩
  have : (2000000 + 2) * x.T.length ≤ (2000000 + 2) * 8 := Nat.mul_le_mul_left _ l
  simp only [cost]
  rw [show sizeLine = 16777216 by decide]
  omega
theorem rep_b (b : Bool) : RepOk (.bool b) := ⟨rfl, by simp [PyData.depth], by simp only [cost]; decide⟩
def toldD (x : Xp) : PyData := .tuple [x.d, .bool x.F]
theorem law_true : wp (m_law ([none, some .tape] ++ List.replicate 7 none)) (fun r => r = .rt (.val (.bool true))) := by
  unfold m_law
  refine wp_seqJ (fun ρ => ∃ cs, Cols cs ∧ ρ = [none, some .tape, some (.val (.tuple (cs.map colD))), none, none, none, none, none, none]) ?_ ?_
  · walk_at "wk"
    refine columns_wp fun cs h => ?_
    walk_at "wk"
    exact ⟨cs, h, rfl⟩
  rintro ρ ⟨cs, hc, rfl⟩
  have hW : ∀ sh : Int, wp (f_law_wild 3 [.tape, .val (.tuple (cs.map colD)), .val (.int 1), .val (.int sh)]) (fun c => ∃ x : Xp, x.sm ∧ x.hi ≤ 2 ∧ c = .val x.d) := fun sh => wild1_w hc 1 sh
  generalize PyData.tuple (cs.map colD) = Cd at hW
  refine wp_seqJ (fun ρ => ∃ sh : Int, ρ = [none, some .tape, some (.val Cd), some (.val (.int sh)), none, none, none, none, none]) ?_ ?_
  · walk_at "wk"
    refine wp_drawn (by decide) fun a a0 a1 => ?_
    walk_at "wk"
    refine wp_pick a0 (by simp only [List.length_cons, List.length_nil]; omega) fun d hd => ?_
    have : ∃ j : Int, d = .int j := by
      simp only [List.mem_cons, List.not_mem_nil, or_false] at hd
      rcases hd with rfl | rfl <;> exact ⟨_, rfl⟩
    obtain ⟨j, rfl⟩ := this
    walk_at "wk"
    exact ⟨j, rfl⟩
  rintro ρ ⟨sh, rfl⟩
  refine wp_seqJ (fun ρ => ρ = [none, some .tape, some (.val Cd), some (.val (.int sh)), some (.own (.lst (([] : List Xp).map toldD))), none, none, none, none]) ?_ ?_
  · walk_at "wk"
    rfl
  rintro ρ rfl
  refine wp_seqJ (fun ρ => ∃ (xs : List Xp) (z5 z6 z7 : Option C), xs.length = 2 ∧ (∀ x ∈ xs, x.sm ∧ x.hi ≤ 2) ∧ ρ = [none, some .tape, some (.val Cd), some (.val (.int sh)), some (.own (.lst (xs.map toldD))), z5, z6, z7, none]) ?_ ?_
  · walk_at "wk"
    rw [if_pos (by decide)]
    walk_at "wk"
    refine wp_turns (n := (2 : Int).toNat) (fun i ρ => ∃ (xs : List Xp) (z5 z6 z7 : Option C), xs.length = i ∧ (∀ x ∈ xs, x.sm ∧ x.hi ≤ 2) ∧ ρ = [none, some .tape, some (.val Cd), some (.val (.int sh)), some (.own (.lst (xs.map toldD))), z5, z6, z7, none]) ?_ ?_ ⟨[], none, none, none, rfl, by simp, rfl⟩
    · rintro ρ ⟨xs, z5, z6, z7, h1, h2, rfl⟩
      exact ⟨xs, z5, z6, z7, h1, h2, rfl⟩
    rintro i es ρ hi ⟨xs, z5, z6, z7, h1, h2, rfl⟩
    have hi : i < 2 := hi
    generalize hL : xs.map toldD = Ld
    have ll : Ld.length = i := by rw [← hL, List.length_map, h1]
    rw [show (asgR 5 (.val (.int (0 + (i : Nat) * 1))) [none, some .tape, some (.val Cd), some (.val (.int sh)), some (.own (.lst Ld)), z5, z6, z7, none]) = .ret [none, some .tape, some (.val Cd), some (.val (.int sh)), some (.own (.lst Ld)), some (.val (.int (0 + (i : Nat) * 1))), z6, z7, none] from rfl, retB]
    generalize PyData.int (0 + ((i : Nat) : Int) * 1) = Id
    refine wp_seqJ (fun ρ => ∃ x : Xp, x.sm ∧ x.hi ≤ 2 ∧ ρ = [none, some .tape, some (.val Cd), some (.val (.int sh)), some (.own (.lst Ld)), some (.val Id), some (.val x.d), z7, none]) ?_ ?_
    · walk_at "wk"
      refine wp_call _ (hW sh) ?_
      rintro c ⟨x, hx, hx2, rfl⟩
      walk_at "wk"
      exact ⟨x, hx, hx2, rfl⟩
    rintro ρ ⟨x, hx, hx2, rfl⟩
    have ok := Xp.sm_ok hx
    refine wp_seqJ (fun ρ => ρ = [none, some .tape, some (.val Cd), some (.val (.int sh)), some (.own (.lst Ld)), some (.val Id), some (.val x.d), some (.val (.bool x.F)), none]) ?_ ?_
    · walk_at "wk"
      refine wp_call _ (law_formula_w 5 x ok (by omega)) ?_
      rintro c rfl
      walk_at "wk"
      rfl
    rintro ρ rfl
    refine wp_seqJ (fun ρ => ρ = [none, some .tape, some (.val Cd), some (.val (.int sh)), some (.own (.lst Ld)), some (.val Id), some (.val x.d), some (.val (.bool x.F)), none]) ?_ ?_
    · walk_at "wk"
      refine wp_call _ (is_formula_w 5 x ok (by omega)) ?_
      rintro c rfl
      walk_at "wk"
      rw [repr_ok (rep_b x.F)]
      walk_at "wk"
      try rw [repr_ok (rep_b x.F)]
      walk_at "wk"
      try rw [ne_same]
      walk_at "wk"
      rfl
    rintro ρ rfl
    refine wp_seqJ (fun ρ => ρ = [none, some .tape, some (.val Cd), some (.val (.int sh)), some (.own (.lst Ld)), some (.val Id), some (.val x.d), some (.val (.bool x.F)), none]) ?_ ?_
    · walk_at "wk"
      cases hF : x.F with
      | false =>
        walk_at "wk"
        rfl
      | true =>
        walk_at "wk"
        rw [tests_eq 5 x ok (by omega) (by decide)]
        walk_at "wk"
        rw [repr_ok (rep_T hx (by omega))]
        walk_at "wk"
        refine wp_call _ (law_tests_w 5 x ok (by omega) (by decide)) ?_
        rintro c rfl
        rw [← Xp.same ok hF]
        walk_at "wk"
        try rw [repr_ok (rep_T hx (by omega))]
        walk_at "wk"
        try rw [ne_same]
        walk_at "wk"
        rfl
    rintro ρ rfl
    walk_at "wk"
    rw [if_pos (by omega)]
    walk_at "wk"
    exact ⟨xs ++ [x], _, _, _, by rw [List.length_append, h1]; rfl, fun y hy => by
      rcases List.mem_append.mp hy with z | z
      · exact h2 y z
      · rw [List.mem_singleton.mp z]; exact ⟨hx, hx2⟩, by rw [List.map_append, hL]; rfl⟩
  rintro ρ ⟨xs, z5, z6, z7, h1, h2, rfl⟩
  match xs, h1 with
  | [x, y], _ =>
    obtain ⟨hx, hx2⟩ := h2 x (by simp)
    obtain ⟨hy, hy2⟩ := h2 y (by simp)
    have t0 : atD ([x, y].map toldD) 0 = .ret (.val (toldD x)) := rfl
    have t1 : atD ([x, y].map toldD) 1 = .ret (.val (toldD y)) := rfl
    have x0 : oIx (.val (toldD x)) (.val (.int 0)) = .ret (.val x.d) := rfl
    have x1 : oIx (.val (toldD x)) (.val (.int 1)) = .ret (.val (.bool x.F)) := rfl
    have y0 : oIx (.val (toldD y)) (.val (.int 0)) = .ret (.val y.d) := rfl
    have y1 : oIx (.val (toldD y)) (.val (.int 1)) = .ret (.val (.bool y.F)) := rfl
    generalize [x, y].map toldD = Ld at t0 t1
    generalize toldD x = Xd at t0 x0 x1
    generalize toldD y = Yd at t1 y0 y1
    refine wp_seqJ (fun ρ => ∃ z8, ρ = [none, some .tape, some (.val Cd), some (.val (.int sh)), some (.own (.lst Ld)), z5, z6, z7, z8]) ?_ ?_
    · have okx := Xp.sm_ok hx
      have oky := Xp.sm_ok hy
      walk_at "wk"
      rw [t0]
      walk_at "wk"
      rw [x1]
      walk_at "wk"
      cases fx : x.F with
      | false =>
        walk_at "wk"
        exact ⟨_, rfl⟩
      | true =>
        walk_at "wk"
        rw [t1]
        walk_at "wk"
        rw [y1]
        walk_at "wk"
        cases fy : y.F with
        | false =>
          walk_at "wk"
          exact ⟨_, rfl⟩
        | true =>
          walk_at "wk"
          refine wp_drawn (by decide) fun a a0 a1 => ?_
          walk_at "wk"
          refine wp_pick a0 (by simp only [List.length_cons, List.length_nil]; omega) fun d hd => ?_
          have : ∃ w, d = .str (wordB w) := by
            simp only [List.mem_cons, List.not_mem_nil, or_false] at hd
            rcases hd with rfl | rfl
            · exact ⟨false, rfl⟩
            · exact ⟨true, rfl⟩
          obtain ⟨w, rfl⟩ := this
          walk_at "wk"
          try rw [x0]
          walk_at "wk"
          try rw [t1]
          walk_at "wk"
          try rw [y0]
          walk_at "wk"
          have hb : (Xp.bin w x y).ok := ⟨okx, oky⟩
          have hi : (Xp.bin w x y).hi ≤ 3 := by show max x.hi y.hi + 1 ≤ 3; omega
          have eb : PyData.tuple [.str (wordB w), x.d, y.d] = (Xp.bin w x y).d := rfl
          rw [eb]
          refine wp_call _ (is_formula_w 5 (Xp.bin w x y) hb (by omega)) ?_
          rintro c rfl
          rw [show (Xp.bin w x y).F = true by show (x.F && y.F) = true; rw [fx, fy]; rfl]
          walk_at "wk"
          rw [tests_eq 5 (Xp.bin w x y) hb (by omega) (by decide)]
          walk_at "wk"
          rw [repr_ok (rep_T (x := .bin w x y) ⟨hx, hy⟩ hi)]
          walk_at "wk"
          try rw [t0]
          walk_at "wk"
          try rw [x0]
          walk_at "wk"
          rw [tests_eq 5 x okx (by omega) (by decide)]
          walk_at "wk"
          try rw [t1]
          walk_at "wk"
          try rw [y0]
          walk_at "wk"
          rw [tests_eq 5 y oky (by omega) (by decide)]
          walk_at "wk"
          have lx := Xp.T_len x (by omega)
          have ly := Xp.T_len y (by omega)
          rw [if_pos (by omega)]
          walk_at "wk"
          rw [show x.T ++ y.T = (Xp.bin w x y).T from rfl, repr_ok (rep_T (x := .bin w x y) ⟨hx, hy⟩ hi)]
          walk_at "wk"
          try rw [oEq_s, decide_eq_true rfl]
          walk_at "wk"
          try rfl
    rintro ρ ⟨z8, rfl⟩
    walk_at "wk"

section
variable {P : Program} {w : World} {K : PySem.W.Frag} {mg : Str → Option Value} {base : Heap}
theorem fn_law {f : Addr} {fd : FuncData} (M : Blt mg) (F : Fun K "law" "law" s_law f fd) (D_law_tape : Df P w K mg base 1 "_law_tape" ["script"] (sp_law_tape K)) (D_law_columns : Df P w K mg base 2 "_law_columns" ["tape"] (spU K f_law_columns)) (D_law_draw : Df P w K mg base 1 "_law_draw" ["tape", "many"] (sp_law_draw K)) (D_law_wild : Df P w K mg base 10 "_law_wild" ["tape", "columns", "depth", "share"] (spU K (f_law_wild 3))) (D_law_is_formula : Df P w K mg base 7 "_law_is_formula" ["expression"] (spU K (f_law_is_formula 5))) (D_is_formula : Df P w K mg base 7 "is_formula" ["expression"] (spU K (f_is_formula 5))) (D_tests_of : Df P w K mg base 7 "tests_of" ["formula"] (spU K (f_tests_of 5))) (D_law_tests : Df P w K mg base 7 "_law_tests" ["expression"] (spU K (f_law_tests 5))) : FnG P w K mg base 11 f fd ["script"] (spLaw K) := by
  have nd := sc_law.nd
  refine FnG.of F sc_law (fun vs H Q E h => ?_) (fun cdv A out s H vs Q E hr hgd h => ?_)
  · obtain ⟨a, ns, rfl, _⟩ := h
    rfl
  · obtain ⟨a, ns, rfl, hS, hlen, q⟩ := h
    refine ⟨_, pss_cons (ps_set (i := 1) nd rfl (Or.inl rfl) (pe_df D_law_tape (hr.mono (by decide)) hgd rfl (pa_cons (pv 0) pa_nil)))
      (pss_cons (ps_set (i := 2) nd rfl (Or.inl rfl) (pe_df D_law_columns (hr.mono (by decide)) hgd rfl (pa_cons (pv 1) pa_nil)))
      (pss_cons (ps_set (i := 3) nd rfl (Or.inl rfl) (pe_ix (ixU K) (pe_lst (pa_cons pe_int (pa_cons pe_int pa_nil))) (pe_df D_law_draw (hr.mono (by decide)) hgd rfl (pa_cons (pv 1) (pa_cons pe_int pa_nil))) (fun _ _ => rfl)))
      (pss_cons (ps_set (i := 4) nd rfl (Or.inl rfl) (pe_lst pa_nil))
      (pss_cons (ps_for PassesOwn.never rfl (pi_range1 rfl M.range (pa_cons pe_int pa_nil)) (pg_name (i := 5) nd rfl (Or.inl rfl)) (pss_cons (ps_set (i := 6) nd rfl (Or.inl rfl) (pe_df D_law_wild (hr.mono (by decide)) hgd rfl (pa_cons (pv 1) (pa_cons (pv 2) (pa_cons pe_int (pa_cons (pv 3) pa_nil))))))
      (pss_cons (ps_set (i := 7) nd rfl (Or.inl rfl) (pe_df D_law_is_formula (hr.mono (by decide)) hgd rfl (pa_cons (pv 6) pa_nil)))
      (pss_cons (ps_if (pt_cmpR (opNe K hr.units) (pe_callB (reprK K hr.units hgd) (by rfl) M.repr (by decide +kernel) (pa_cons (pe_df D_is_formula (hr.mono (by decide)) hgd rfl (pa_cons (pv 6) pa_nil)) pa_nil)) (pe_callB (reprK K hr.units hgd) (by rfl) M.repr (by decide +kernel) (pa_cons (pv 7) pa_nil)) (nomark _)) (pss_one (ps_ret pe_bl)) pss_nil)
      (pss_cons (ps_if (PW.pt (pw_and (truK K (pv 7)) (pw_and1 (pt_cmpR (opNe K hr.units) (pe_callB (reprK K hr.units hgd) (by rfl) M.repr (by decide +kernel) (pa_cons (pe_df D_tests_of (hr.mono (by decide)) hgd rfl (pa_cons (pv 6) pa_nil)) pa_nil)) (pe_callB (reprK K hr.units hgd) (by rfl) M.repr (by decide +kernel) (pa_cons (pe_callTy (tupK K) (by rfl) M.tuple (by decide +kernel) (pa_cons (pe_df D_law_tests (hr.mono (by decide)) hgd rfl (pa_cons (pv 6) pa_nil)) pa_nil)) pa_nil)) (nomark _))))) (pss_one (ps_ret pe_bl)) pss_nil)
      (pss_one (ps_set (i := 4) nd rfl (Or.inl rfl) (pe_op (opAdd K) (pv 4) (pe_lst (pa_cons (pe_tup (pa_cons (pv 6) (pa_cons (pv 7) pa_nil))) pa_nil))))))))))
      (pss_cons (ps_if (PW.pt (pw_and (truK K (pe_ix (ixU K) (pe_ix (ixU K) (pv 4) pe_int (fun _ _ => rfl)) pe_int (fun _ _ => rfl))) (pw_and1 (truK K (pe_ix (ixU K) (pe_ix (ixU K) (pv 4) pe_int (fun _ _ => rfl)) pe_int (fun _ _ => rfl)))))) (pss_cons (ps_set (i := 8) nd rfl (Or.inl rfl) (pe_tup (pa_cons (pe_ix (ixU K) (pe_lst (pa_cons pe_str (pa_cons pe_str pa_nil))) (pe_df D_law_draw (hr.mono (by decide)) hgd rfl (pa_cons (pv 1) (pa_cons pe_int pa_nil))) (fun _ _ => rfl)) (pa_cons (pe_ix (ixU K) (pe_ix (ixU K) (pv 4) pe_int (fun _ _ => rfl)) pe_int (fun _ _ => rfl)) (pa_cons (pe_ix (ixU K) (pe_ix (ixU K) (pv 4) pe_int (fun _ _ => rfl)) pe_int (fun _ _ => rfl)) pa_nil)))))
      (pss_one (ps_ret (andT K (pe_cmpR opIs (pe_df D_is_formula (hr.mono (by decide)) hgd rfl (pa_cons (pv 8) pa_nil)) pe_bl (nomark _)) (pe_one (pe_cmpR (opEq K hr.units) (pe_callB (reprK K hr.units hgd) (by rfl) M.repr (by decide +kernel) (pa_cons (pe_df D_tests_of (hr.mono (by decide)) hgd rfl (pa_cons (pv 8) pa_nil)) pa_nil)) (pe_callB (reprK K hr.units hgd) (by rfl) M.repr (by decide +kernel) (pa_cons (pe_op (opAdd K) (pe_df D_tests_of (hr.mono (by decide)) hgd rfl (pa_cons (pe_ix (ixU K) (pe_ix (ixU K) (pv 4) pe_int (fun _ _ => rfl)) pe_int (fun _ _ => rfl)) pa_nil)) (pe_df D_tests_of (hr.mono (by decide)) hgd rfl (pa_cons (pe_ix (ixU K) (pe_ix (ixU K) (pv 4) pe_int (fun _ _ => rfl)) pe_int (fun _ _ => rfl)) pa_nil))) pa_nil)) (nomark _))))))) pss_nil)
      (pss_one (ps_ret pe_bl))))))), at_start (σ := [some (.ref a), none] ++ List.replicate 7 none) rfl ?_⟩
    exact law_go (k := 7) (m := m_law) (ns := ns)
      (rs_seq (rs_asg (re_fn (ra_cons (re_var (i := 1)) ra_nil)) (rg_name (i := 2)))
      (rs_seq (rs_asg (re_op os_ix (re_lst (ra_cons re_int (ra_cons re_int ra_nil))) (re_draw (ra_cons (re_var (i := 1)) (ra_cons re_int ra_nil)))) (rg_name (i := 3)))
      (rs_seq (rs_asg (re_lst ra_nil) (rg_name (i := 4)))
      (rs_seq (rs_for (ri_rng1 (s := true) (ra_cons re_int ra_nil)) (rg_name (i := 5)) (rs_seq (rs_asg (re_fn (ra_cons (re_var (i := 1)) (ra_cons (re_var (i := 2)) (ra_cons re_int (ra_cons (re_var (i := 3)) ra_nil))))) (rg_name (i := 6)))
      (rs_seq (rs_asg (re_fn (ra_cons (re_var (i := 6)) ra_nil)) (rg_name (i := 7)))
      (rs_seq (rs_if (rt_test (re_op os_ne (re_call cs_repr (ra_cons (re_fn (ra_cons (re_var (i := 6)) ra_nil)) ra_nil)) (re_call cs_repr (ra_cons (re_var (i := 7)) ra_nil)))) (rs_ret re_bl) rs_next)
      (rs_seq (rs_if (rt_and (rt_tru (re_var (i := 7))) (rt_test (re_op os_ne (re_call cs_repr (ra_cons (re_fn (ra_cons (re_var (i := 6)) ra_nil)) ra_nil)) (re_call cs_repr (ra_cons (re_call cs_tuple (ra_cons (re_fn (ra_cons (re_var (i := 6)) ra_nil)) ra_nil)) ra_nil))))) (rs_ret re_bl) rs_next)
      (rs_asg (re_op os_add (re_var (i := 4)) (re_lst (ra_cons (re_tup (ra_cons (re_var (i := 6)) (ra_cons (re_var (i := 7)) ra_nil))) ra_nil))) (rg_name (i := 4))))))))
      (rs_seq (rs_if (rt_and (rt_tru (re_op os_ix (re_op os_ix (re_var (i := 4)) re_int) re_int)) (rt_tru (re_op os_ix (re_op os_ix (re_var (i := 4)) re_int) re_int))) (rs_seq (rs_asg (re_tup (ra_cons (re_op os_ix (re_lst (ra_cons re_str (ra_cons re_str ra_nil))) (re_draw (ra_cons (re_var (i := 1)) (ra_cons re_int ra_nil)))) (ra_cons (re_op os_ix (re_op os_ix (re_var (i := 4)) re_int) re_int) (ra_cons (re_op os_ix (re_op os_ix (re_var (i := 4)) re_int) re_int) ra_nil)))) (rg_name (i := 8)))
      (rs_ret (re_and (re_op os_isX (re_fn (ra_cons (re_var (i := 8)) ra_nil)) re_bl) (re_op os_eq (re_call cs_repr (ra_cons (re_fn (ra_cons (re_var (i := 8)) ra_nil)) ra_nil)) (re_call cs_repr (ra_cons (re_op os_add (re_fn (ra_cons (re_op os_ix (re_op os_ix (re_var (i := 4)) re_int) re_int) ra_nil)) (re_fn (ra_cons (re_op os_ix (re_op os_ix (re_var (i := 4)) re_int) re_int) ra_nil))) ra_nil)))))) rs_next)
      (rs_ret re_bl))))))
      hS hlen (wp_out law_true) q
end

theorem all_mk {l : PySem.W.OpenLaw} {w : World} {K : PySem.W.Frag} {h : Heap} {mg : Str → Option Value} {fa : Addr} (X : K.In h) (G : h.Ns mainGlobals mg) (hfa : mg "law" = some (.ref fa))
    {f_parts_of f_is_formula f_tests_of f_is_constant f_is_test f_law_tape f_law_draw f_law_word f_law_lowest f_law_number f_law_cell f_law_cells f_law_columns f_law_test f_law_is_test f_law_tests f_law_odd f_law_wild f_law_is_formula f_law : Addr}
    {od_parts_of an_parts_of : Option Addr} {sl_parts_of : Array (Option Value)} {oc_parts_of kV_parts_of dc_parts_of pm_parts_of cd_parts_of ct_parts_of : Value}
    {od_is_formula an_is_formula : Option Addr} {sl_is_formula : Array (Option Value)} {oc_is_formula kV_is_formula dc_is_formula pm_is_formula cd_is_formula ct_is_formula : Value}
    {od_tests_of an_tests_of : Option Addr} {sl_tests_of : Array (Option Value)} {oc_tests_of kV_tests_of dc_tests_of pm_tests_of cd_tests_of ct_tests_of : Value}
    {od_is_constant an_is_constant : Option Addr} {sl_is_constant : Array (Option Value)} {oc_is_constant kV_is_constant dc_is_constant pm_is_constant cd_is_constant ct_is_constant : Value}
    {od_is_test an_is_test : Option Addr} {sl_is_test : Array (Option Value)} {oc_is_test kV_is_test dc_is_test pm_is_test cd_is_test ct_is_test : Value}
    {od_law_tape an_law_tape : Option Addr} {sl_law_tape : Array (Option Value)} {oc_law_tape kV_law_tape dc_law_tape pm_law_tape cd_law_tape ct_law_tape : Value}
    {od_law_draw an_law_draw : Option Addr} {sl_law_draw : Array (Option Value)} {oc_law_draw kV_law_draw dc_law_draw pm_law_draw cd_law_draw ct_law_draw : Value}
    {od_law_word an_law_word : Option Addr} {sl_law_word : Array (Option Value)} {oc_law_word kV_law_word dc_law_word pm_law_word cd_law_word ct_law_word : Value}
    {od_law_lowest an_law_lowest : Option Addr} {sl_law_lowest : Array (Option Value)} {oc_law_lowest kV_law_lowest dc_law_lowest pm_law_lowest cd_law_lowest ct_law_lowest : Value}
    {od_law_number an_law_number : Option Addr} {sl_law_number : Array (Option Value)} {oc_law_number kV_law_number dc_law_number pm_law_number cd_law_number ct_law_number : Value}
    {od_law_cell an_law_cell : Option Addr} {sl_law_cell : Array (Option Value)} {oc_law_cell kV_law_cell dc_law_cell pm_law_cell cd_law_cell ct_law_cell : Value}
    {od_law_cells an_law_cells : Option Addr} {sl_law_cells : Array (Option Value)} {oc_law_cells kV_law_cells dc_law_cells pm_law_cells cd_law_cells ct_law_cells : Value}
    {od_law_columns an_law_columns : Option Addr} {sl_law_columns : Array (Option Value)} {oc_law_columns kV_law_columns dc_law_columns pm_law_columns cd_law_columns ct_law_columns : Value}
    {od_law_test an_law_test : Option Addr} {sl_law_test : Array (Option Value)} {oc_law_test kV_law_test dc_law_test pm_law_test cd_law_test ct_law_test : Value}
    {od_law_is_test an_law_is_test : Option Addr} {sl_law_is_test : Array (Option Value)} {oc_law_is_test kV_law_is_test dc_law_is_test pm_law_is_test cd_law_is_test ct_law_is_test : Value}
    {od_law_tests an_law_tests : Option Addr} {sl_law_tests : Array (Option Value)} {oc_law_tests kV_law_tests dc_law_tests pm_law_tests cd_law_tests ct_law_tests : Value}
    {od_law_odd an_law_odd : Option Addr} {sl_law_odd : Array (Option Value)} {oc_law_odd kV_law_odd dc_law_odd pm_law_odd cd_law_odd ct_law_odd : Value}
    {od_law_wild an_law_wild : Option Addr} {sl_law_wild : Array (Option Value)} {oc_law_wild kV_law_wild dc_law_wild pm_law_wild cd_law_wild ct_law_wild : Value}
    {od_law_is_formula an_law_is_formula : Option Addr} {sl_law_is_formula : Array (Option Value)} {oc_law_is_formula kV_law_is_formula dc_law_is_formula pm_law_is_formula cd_law_is_formula ct_law_is_formula : Value}
    {od_law an_law : Option Addr} {sl_law : Array (Option Value)} {oc_law kV_law dc_law pm_law cd_law ct_law : Value}
    (a_parts_of : PySem.W.nsIn K mainGlobals "parts_of" = some (some (.ref f_parts_of))) (l_parts_of : K.lookup f_parts_of = some ⟨oc_parts_of, od_parts_of, .func (PySem.W.fnOf "parts_of" "parts_of" (defArgs s_parts_of) (defBody s_parts_of) (defScope s_parts_of) .none kV_parts_of dc_parts_of pm_parts_of an_parts_of cd_parts_of ct_parts_of), sl_parts_of⟩) (c_parts_of : PySem.W.codeIn K cd_parts_of "parts_of" = true) (k_parts_of : PySem.W.keepIn K (.ref f_parts_of) = true)
    (a_is_formula : PySem.W.nsIn K mainGlobals "is_formula" = some (some (.ref f_is_formula))) (l_is_formula : K.lookup f_is_formula = some ⟨oc_is_formula, od_is_formula, .func (PySem.W.fnOf "is_formula" "is_formula" (defArgs s_is_formula) (defBody s_is_formula) (defScope s_is_formula) .none kV_is_formula dc_is_formula pm_is_formula an_is_formula cd_is_formula ct_is_formula), sl_is_formula⟩) (c_is_formula : PySem.W.codeIn K cd_is_formula "is_formula" = true) (k_is_formula : PySem.W.keepIn K (.ref f_is_formula) = true)
    (a_tests_of : PySem.W.nsIn K mainGlobals "tests_of" = some (some (.ref f_tests_of))) (l_tests_of : K.lookup f_tests_of = some ⟨oc_tests_of, od_tests_of, .func (PySem.W.fnOf "tests_of" "tests_of" (defArgs s_tests_of) (defBody s_tests_of) (defScope s_tests_of) .none kV_tests_of dc_tests_of pm_tests_of an_tests_of cd_tests_of ct_tests_of), sl_tests_of⟩) (c_tests_of : PySem.W.codeIn K cd_tests_of "tests_of" = true) (k_tests_of : PySem.W.keepIn K (.ref f_tests_of) = true)
    (a_is_constant : PySem.W.nsIn K mainGlobals "is_constant" = some (some (.ref f_is_constant))) (l_is_constant : K.lookup f_is_constant = some ⟨oc_is_constant, od_is_constant, .func (PySem.W.fnOf "is_constant" "is_constant" (defArgs s_is_constant) (defBody s_is_constant) (defScope s_is_constant) .none kV_is_constant dc_is_constant pm_is_constant an_is_constant cd_is_constant ct_is_constant), sl_is_constant⟩) (c_is_constant : PySem.W.codeIn K cd_is_constant "is_constant" = true) (k_is_constant : PySem.W.keepIn K (.ref f_is_constant) = true)
    (a_is_test : PySem.W.nsIn K mainGlobals "is_test" = some (some (.ref f_is_test))) (l_is_test : K.lookup f_is_test = some ⟨oc_is_test, od_is_test, .func (PySem.W.fnOf "is_test" "is_test" (defArgs s_is_test) (defBody s_is_test) (defScope s_is_test) .none kV_is_test dc_is_test pm_is_test an_is_test cd_is_test ct_is_test), sl_is_test⟩) (c_is_test : PySem.W.codeIn K cd_is_test "is_test" = true) (k_is_test : PySem.W.keepIn K (.ref f_is_test) = true)
    (a_law_tape : PySem.W.nsIn K mainGlobals "_law_tape" = some (some (.ref f_law_tape))) (l_law_tape : K.lookup f_law_tape = some ⟨oc_law_tape, od_law_tape, .func (PySem.W.fnOf "_law_tape" "_law_tape" (defArgs s_law_tape) (defBody s_law_tape) (defScope s_law_tape) .none kV_law_tape dc_law_tape pm_law_tape an_law_tape cd_law_tape ct_law_tape), sl_law_tape⟩) (c_law_tape : PySem.W.codeIn K cd_law_tape "_law_tape" = true) (k_law_tape : PySem.W.keepIn K (.ref f_law_tape) = true)
    (a_law_draw : PySem.W.nsIn K mainGlobals "_law_draw" = some (some (.ref f_law_draw))) (l_law_draw : K.lookup f_law_draw = some ⟨oc_law_draw, od_law_draw, .func (PySem.W.fnOf "_law_draw" "_law_draw" (defArgs s_law_draw) (defBody s_law_draw) (defScope s_law_draw) .none kV_law_draw dc_law_draw pm_law_draw an_law_draw cd_law_draw ct_law_draw), sl_law_draw⟩) (c_law_draw : PySem.W.codeIn K cd_law_draw "_law_draw" = true) (k_law_draw : PySem.W.keepIn K (.ref f_law_draw) = true)
    (a_law_word : PySem.W.nsIn K mainGlobals "_law_word" = some (some (.ref f_law_word))) (l_law_word : K.lookup f_law_word = some ⟨oc_law_word, od_law_word, .func (PySem.W.fnOf "_law_word" "_law_word" (defArgs s_law_word) (defBody s_law_word) (defScope s_law_word) .none kV_law_word dc_law_word pm_law_word an_law_word cd_law_word ct_law_word), sl_law_word⟩) (c_law_word : PySem.W.codeIn K cd_law_word "_law_word" = true) (k_law_word : PySem.W.keepIn K (.ref f_law_word) = true)
    (a_law_lowest : PySem.W.nsIn K mainGlobals "_law_lowest" = some (some (.ref f_law_lowest))) (l_law_lowest : K.lookup f_law_lowest = some ⟨oc_law_lowest, od_law_lowest, .func (PySem.W.fnOf "_law_lowest" "_law_lowest" (defArgs s_law_lowest) (defBody s_law_lowest) (defScope s_law_lowest) .none kV_law_lowest dc_law_lowest pm_law_lowest an_law_lowest cd_law_lowest ct_law_lowest), sl_law_lowest⟩) (c_law_lowest : PySem.W.codeIn K cd_law_lowest "_law_lowest" = true) (k_law_lowest : PySem.W.keepIn K (.ref f_law_lowest) = true)
    (a_law_number : PySem.W.nsIn K mainGlobals "_law_number" = some (some (.ref f_law_number))) (l_law_number : K.lookup f_law_number = some ⟨oc_law_number, od_law_number, .func (PySem.W.fnOf "_law_number" "_law_number" (defArgs s_law_number) (defBody s_law_number) (defScope s_law_number) .none kV_law_number dc_law_number pm_law_number an_law_number cd_law_number ct_law_number), sl_law_number⟩) (c_law_number : PySem.W.codeIn K cd_law_number "_law_number" = true) (k_law_number : PySem.W.keepIn K (.ref f_law_number) = true)
    (a_law_cell : PySem.W.nsIn K mainGlobals "_law_cell" = some (some (.ref f_law_cell))) (l_law_cell : K.lookup f_law_cell = some ⟨oc_law_cell, od_law_cell, .func (PySem.W.fnOf "_law_cell" "_law_cell" (defArgs s_law_cell) (defBody s_law_cell) (defScope s_law_cell) .none kV_law_cell dc_law_cell pm_law_cell an_law_cell cd_law_cell ct_law_cell), sl_law_cell⟩) (c_law_cell : PySem.W.codeIn K cd_law_cell "_law_cell" = true) (k_law_cell : PySem.W.keepIn K (.ref f_law_cell) = true)
    (a_law_cells : PySem.W.nsIn K mainGlobals "_law_cells" = some (some (.ref f_law_cells))) (l_law_cells : K.lookup f_law_cells = some ⟨oc_law_cells, od_law_cells, .func (PySem.W.fnOf "_law_cells" "_law_cells" (defArgs s_law_cells) (defBody s_law_cells) (defScope s_law_cells) .none kV_law_cells dc_law_cells pm_law_cells an_law_cells cd_law_cells ct_law_cells), sl_law_cells⟩) (c_law_cells : PySem.W.codeIn K cd_law_cells "_law_cells" = true) (k_law_cells : PySem.W.keepIn K (.ref f_law_cells) = true)
    (a_law_columns : PySem.W.nsIn K mainGlobals "_law_columns" = some (some (.ref f_law_columns))) (l_law_columns : K.lookup f_law_columns = some ⟨oc_law_columns, od_law_columns, .func (PySem.W.fnOf "_law_columns" "_law_columns" (defArgs s_law_columns) (defBody s_law_columns) (defScope s_law_columns) .none kV_law_columns dc_law_columns pm_law_columns an_law_columns cd_law_columns ct_law_columns), sl_law_columns⟩) (c_law_columns : PySem.W.codeIn K cd_law_columns "_law_columns" = true) (k_law_columns : PySem.W.keepIn K (.ref f_law_columns) = true)
    (a_law_test : PySem.W.nsIn K mainGlobals "_law_test" = some (some (.ref f_law_test))) (l_law_test : K.lookup f_law_test = some ⟨oc_law_test, od_law_test, .func (PySem.W.fnOf "_law_test" "_law_test" (defArgs s_law_test) (defBody s_law_test) (defScope s_law_test) .none kV_law_test dc_law_test pm_law_test an_law_test cd_law_test ct_law_test), sl_law_test⟩) (c_law_test : PySem.W.codeIn K cd_law_test "_law_test" = true) (k_law_test : PySem.W.keepIn K (.ref f_law_test) = true)
    (a_law_is_test : PySem.W.nsIn K mainGlobals "_law_is_test" = some (some (.ref f_law_is_test))) (l_law_is_test : K.lookup f_law_is_test = some ⟨oc_law_is_test, od_law_is_test, .func (PySem.W.fnOf "_law_is_test" "_law_is_test" (defArgs s_law_is_test) (defBody s_law_is_test) (defScope s_law_is_test) .none kV_law_is_test dc_law_is_test pm_law_is_test an_law_is_test cd_law_is_test ct_law_is_test), sl_law_is_test⟩) (c_law_is_test : PySem.W.codeIn K cd_law_is_test "_law_is_test" = true) (k_law_is_test : PySem.W.keepIn K (.ref f_law_is_test) = true)
    (a_law_tests : PySem.W.nsIn K mainGlobals "_law_tests" = some (some (.ref f_law_tests))) (l_law_tests : K.lookup f_law_tests = some ⟨oc_law_tests, od_law_tests, .func (PySem.W.fnOf "_law_tests" "_law_tests" (defArgs s_law_tests) (defBody s_law_tests) (defScope s_law_tests) .none kV_law_tests dc_law_tests pm_law_tests an_law_tests cd_law_tests ct_law_tests), sl_law_tests⟩) (c_law_tests : PySem.W.codeIn K cd_law_tests "_law_tests" = true) (k_law_tests : PySem.W.keepIn K (.ref f_law_tests) = true)
    (a_law_odd : PySem.W.nsIn K mainGlobals "_law_odd" = some (some (.ref f_law_odd))) (l_law_odd : K.lookup f_law_odd = some ⟨oc_law_odd, od_law_odd, .func (PySem.W.fnOf "_law_odd" "_law_odd" (defArgs s_law_odd) (defBody s_law_odd) (defScope s_law_odd) .none kV_law_odd dc_law_odd pm_law_odd an_law_odd cd_law_odd ct_law_odd), sl_law_odd⟩) (c_law_odd : PySem.W.codeIn K cd_law_odd "_law_odd" = true) (k_law_odd : PySem.W.keepIn K (.ref f_law_odd) = true)
    (a_law_wild : PySem.W.nsIn K mainGlobals "_law_wild" = some (some (.ref f_law_wild))) (l_law_wild : K.lookup f_law_wild = some ⟨oc_law_wild, od_law_wild, .func (PySem.W.fnOf "_law_wild" "_law_wild" (defArgs s_law_wild) (defBody s_law_wild) (defScope s_law_wild) .none kV_law_wild dc_law_wild pm_law_wild an_law_wild cd_law_wild ct_law_wild), sl_law_wild⟩) (c_law_wild : PySem.W.codeIn K cd_law_wild "_law_wild" = true) (k_law_wild : PySem.W.keepIn K (.ref f_law_wild) = true)
    (a_law_is_formula : PySem.W.nsIn K mainGlobals "_law_is_formula" = some (some (.ref f_law_is_formula))) (l_law_is_formula : K.lookup f_law_is_formula = some ⟨oc_law_is_formula, od_law_is_formula, .func (PySem.W.fnOf "_law_is_formula" "_law_is_formula" (defArgs s_law_is_formula) (defBody s_law_is_formula) (defScope s_law_is_formula) .none kV_law_is_formula dc_law_is_formula pm_law_is_formula an_law_is_formula cd_law_is_formula ct_law_is_formula), sl_law_is_formula⟩) (c_law_is_formula : PySem.W.codeIn K cd_law_is_formula "_law_is_formula" = true) (k_law_is_formula : PySem.W.keepIn K (.ref f_law_is_formula) = true)
    (a_law : PySem.W.nsIn K mainGlobals "law" = some (some (.ref f_law))) (l_law : K.lookup f_law = some ⟨oc_law, od_law, .func (PySem.W.fnOf "law" "law" (defArgs s_law) (defBody s_law) (defScope s_law) .none kV_law dc_law pm_law an_law cd_law ct_law), sl_law⟩) (c_law : PySem.W.codeIn K cd_law "law" = true) (k_law : PySem.W.keepIn K (.ref f_law) = true)
    {cT dT : Addr} {oT : Obj} {esT : Array DictEntry} {nT : Nat} (a_con : PySem.W.nsIn K mainGlobals "CONNECTIVES" = some (some (.ref cT))) (l_con : K.lookup cT = some oT) (b_con : ktupS connS oT = true) (a_cmp : PySem.W.nsIn K mainGlobals "COMPARISONS" = some (some (.ref dT))) (l_cmp : K.lookup dT = some ⟨.type "dict", none, .dict esT nT, #[]⟩) (k_cmp : PySem.W.KeysLit w.params esT.toList) (low_cmp : (dT == sysModules) = false) (b_cmp : chkK esT.toList cmpr = true)
    (z_abs : PySem.W.nsIn K mainGlobals "abs" = some none) (z_all : PySem.W.nsIn K mainGlobals "all" = some none) (z_int : PySem.W.nsIn K mainGlobals "int" = some none) (z_len : PySem.W.nsIn K mainGlobals "len" = some none) (z_list : PySem.W.nsIn K mainGlobals "list" = some none) (z_max : PySem.W.nsIn K mainGlobals "max" = some none) (z_range : PySem.W.nsIn K mainGlobals "range" = some none) (z_repr : PySem.W.nsIn K mainGlobals "repr" = some none) (z_sorted : PySem.W.nsIn K mainGlobals "sorted" = some none) (z_tuple : PySem.W.nsIn K mainGlobals "tuple" = some none) :
    ∃ fd : FuncData, (∀ (s : Shared) (v : Value), BindsTo s fd ⟨[v], []⟩ [("script", v)]) ∧ ∀ base : Heap, K.In base → base.Ns mainGlobals mg → FnG l.prog w K mg base 11 fa fd ["script"] (spLaw K) := by
  have e := hfa.symm.trans (PySem.W.mg_of X G a_law)
  cases e
  have MB : Blt mg := ⟨PySem.W.mg_none_of X G z_abs, PySem.W.mg_none_of X G z_all, PySem.W.mg_none_of X G z_int, PySem.W.mg_none_of X G z_len, PySem.W.mg_none_of X G z_list, PySem.W.mg_none_of X G z_max, PySem.W.mg_none_of X G z_range, PySem.W.mg_none_of X G z_repr, PySem.W.mg_none_of X G z_sorted, PySem.W.mg_none_of X G z_tuple⟩
  have A_parts_of : At K mg "parts_of" s_parts_of := ⟨_, _, PySem.W.mg_of X G a_parts_of, fun_mk (st := s_parts_of) l_parts_of c_parts_of k_parts_of⟩
  have A_is_formula : At K mg "is_formula" s_is_formula := ⟨_, _, PySem.W.mg_of X G a_is_formula, fun_mk (st := s_is_formula) l_is_formula c_is_formula k_is_formula⟩
  have A_tests_of : At K mg "tests_of" s_tests_of := ⟨_, _, PySem.W.mg_of X G a_tests_of, fun_mk (st := s_tests_of) l_tests_of c_tests_of k_tests_of⟩
  have A_is_constant : At K mg "is_constant" s_is_constant := ⟨_, _, PySem.W.mg_of X G a_is_constant, fun_mk (st := s_is_constant) l_is_constant c_is_constant k_is_constant⟩
  have A_is_test : At K mg "is_test" s_is_test := ⟨_, _, PySem.W.mg_of X G a_is_test, fun_mk (st := s_is_test) l_is_test c_is_test k_is_test⟩
  have A_law_tape : At K mg "_law_tape" s_law_tape := ⟨_, _, PySem.W.mg_of X G a_law_tape, fun_mk (st := s_law_tape) l_law_tape c_law_tape k_law_tape⟩
  have A_law_draw : At K mg "_law_draw" s_law_draw := ⟨_, _, PySem.W.mg_of X G a_law_draw, fun_mk (st := s_law_draw) l_law_draw c_law_draw k_law_draw⟩
  have A_law_word : At K mg "_law_word" s_law_word := ⟨_, _, PySem.W.mg_of X G a_law_word, fun_mk (st := s_law_word) l_law_word c_law_word k_law_word⟩
  have A_law_lowest : At K mg "_law_lowest" s_law_lowest := ⟨_, _, PySem.W.mg_of X G a_law_lowest, fun_mk (st := s_law_lowest) l_law_lowest c_law_lowest k_law_lowest⟩
  have A_law_number : At K mg "_law_number" s_law_number := ⟨_, _, PySem.W.mg_of X G a_law_number, fun_mk (st := s_law_number) l_law_number c_law_number k_law_number⟩
  have A_law_cell : At K mg "_law_cell" s_law_cell := ⟨_, _, PySem.W.mg_of X G a_law_cell, fun_mk (st := s_law_cell) l_law_cell c_law_cell k_law_cell⟩
  have A_law_cells : At K mg "_law_cells" s_law_cells := ⟨_, _, PySem.W.mg_of X G a_law_cells, fun_mk (st := s_law_cells) l_law_cells c_law_cells k_law_cells⟩
  have A_law_columns : At K mg "_law_columns" s_law_columns := ⟨_, _, PySem.W.mg_of X G a_law_columns, fun_mk (st := s_law_columns) l_law_columns c_law_columns k_law_columns⟩
  have A_law_test : At K mg "_law_test" s_law_test := ⟨_, _, PySem.W.mg_of X G a_law_test, fun_mk (st := s_law_test) l_law_test c_law_test k_law_test⟩
  have A_law_is_test : At K mg "_law_is_test" s_law_is_test := ⟨_, _, PySem.W.mg_of X G a_law_is_test, fun_mk (st := s_law_is_test) l_law_is_test c_law_is_test k_law_is_test⟩
  have A_law_tests : At K mg "_law_tests" s_law_tests := ⟨_, _, PySem.W.mg_of X G a_law_tests, fun_mk (st := s_law_tests) l_law_tests c_law_tests k_law_tests⟩
  have A_law_odd : At K mg "_law_odd" s_law_odd := ⟨_, _, PySem.W.mg_of X G a_law_odd, fun_mk (st := s_law_odd) l_law_odd c_law_odd k_law_odd⟩
  have A_law_wild : At K mg "_law_wild" s_law_wild := ⟨_, _, PySem.W.mg_of X G a_law_wild, fun_mk (st := s_law_wild) l_law_wild c_law_wild k_law_wild⟩
  have A_law_is_formula : At K mg "_law_is_formula" s_law_is_formula := ⟨_, _, PySem.W.mg_of X G a_law_is_formula, fun_mk (st := s_law_is_formula) l_law_is_formula c_law_is_formula k_law_is_formula⟩
  have A_law : At K mg "law" s_law := ⟨_, _, PySem.W.mg_of X G a_law, fun_mk (st := s_law) l_law c_law k_law⟩
  have GG : FmT K w mg := ⟨⟨cT, PySem.W.mg_of X G a_con, ktupS_of l_con b_con⟩, ⟨dT, PySem.W.mg_of X G a_cmp, esT, nT, ⟨l_cmp, k_cmp, low_cmp⟩, keys_of l_cmp b_cmp⟩⟩
  refine ⟨PySem.W.fnOf "law" "law" (defArgs s_law) (defBody s_law) (defScope s_law) .none kV_law dc_law pm_law an_law cd_law ct_law, fun s v => .of_eq rfl, fun base _ _ => ?_⟩
  have D_parts_of := df_parts_of (P := l.prog) (w := w) (base := base) MB A_parts_of
  have D_is_constant := df_is_constant (P := l.prog) (w := w) (base := base) MB A_is_constant
  have D_tests_of := df_tests_of (P := l.prog) (w := w) (base := base) MB A_tests_of GG D_is_constant D_parts_of 5
  have D_is_test := df_is_test (P := l.prog) (w := w) (base := base) MB A_is_test GG
  have D_is_formula := df_is_formula (P := l.prog) (w := w) (base := base) MB A_is_formula GG D_is_constant D_is_test D_parts_of 5
  have D_law_tape := df_law_tape (P := l.prog) (w := w) (base := base) MB A_law_tape
  have D_law_draw := df_law_draw (P := l.prog) (w := w) (base := base) MB A_law_draw
  have D_law_word := df_law_word (P := l.prog) (w := w) (base := base) MB A_law_word D_law_draw
  have D_law_lowest := df_law_lowest (P := l.prog) (w := w) (base := base) MB A_law_lowest
  have D_law_number := df_law_number (P := l.prog) (w := w) (base := base) MB A_law_number D_law_draw D_law_lowest
  have D_law_cell := df_law_cell (P := l.prog) (w := w) (base := base) MB A_law_cell D_law_number D_law_word D_law_draw
  have D_law_cells := df_law_cells (P := l.prog) (w := w) (base := base) MB A_law_cells D_law_cell
  have D_law_columns := df_law_columns (P := l.prog) (w := w) (base := base) MB A_law_columns D_law_draw
  have D_law_test := df_law_test (P := l.prog) (w := w) (base := base) MB A_law_test D_law_draw D_law_cell D_law_cells
  have D_law_is_test := df_law_is_test (P := l.prog) (w := w) (base := base) MB A_law_is_test
  have D_law_tests := df_law_tests (P := l.prog) (w := w) (base := base) MB A_law_tests D_law_is_test 5
  have D_law_odd := df_law_odd (P := l.prog) (w := w) (base := base) MB A_law_odd D_law_test D_law_number D_law_draw
  have D_law_wild := df_law_wild (P := l.prog) (w := w) (base := base) MB A_law_wild D_law_draw D_law_test D_law_odd 3
  have D_law_is_formula := df_law_is_formula (P := l.prog) (w := w) (base := base) MB A_law_is_formula D_law_is_test 5
  exact fn_law MB (fun_mk (st := s_law) l_law c_law k_law) D_law_tape D_law_columns D_law_draw D_law_wild D_law_is_formula D_is_formula D_tests_of D_law_tests

end Cs
open PySem PySem.W PyProof.Rows
set_option maxRecDepth 100000 in
set_option maxHeartbeats 0 in
theorem PySem.Challenge.cw_chartspec_k94_formulas_and_their_tests_holds : PySem.Challenge.rw_chartspec_k94_formulas_and_their_tests.Holds := by
  w_on; o_law; k_head; (case hw => w_witness2)
  k_fill
  refine Cs.walkG (k := 11) (x := "script") (sp := Cs.spLaw) (l := PySem.Challenge.rw_chartspec_k94_formulas_and_their_tests) rfl (by decide) rfl ⟨rfl, by decide, by decide⟩ (fun w h Y => PySem.W.kIn_of Y) ?F Cs.law_start
  case F =>
    intro w mg fa h KX G hmg
    refine' Cs.all_mk KX G hmg ?a_parts_of ?l_parts_of ?c_parts_of ?k_parts_of ?a_is_formula ?l_is_formula ?c_is_formula ?k_is_formula ?a_tests_of ?l_tests_of ?c_tests_of ?k_tests_of ?a_is_constant ?l_is_constant ?c_is_constant ?k_is_constant ?a_is_test ?l_is_test ?c_is_test ?k_is_test ?a_law_tape ?l_law_tape ?c_law_tape ?k_law_tape ?a_law_draw ?l_law_draw ?c_law_draw ?k_law_draw ?a_law_word ?l_law_word ?c_law_word ?k_law_word ?a_law_lowest ?l_law_lowest ?c_law_lowest ?k_law_lowest ?a_law_number ?l_law_number ?c_law_number ?k_law_number ?a_law_cell ?l_law_cell ?c_law_cell ?k_law_cell ?a_law_cells ?l_law_cells ?c_law_cells ?k_law_cells ?a_law_columns ?l_law_columns ?c_law_columns ?k_law_columns ?a_law_test ?l_law_test ?c_law_test ?k_law_test ?a_law_is_test ?l_law_is_test ?c_law_is_test ?k_law_is_test ?a_law_tests ?l_law_tests ?c_law_tests ?k_law_tests ?a_law_odd ?l_law_odd ?c_law_odd ?k_law_odd ?a_law_wild ?l_law_wild ?c_law_wild ?k_law_wild ?a_law_is_formula ?l_law_is_formula ?c_law_is_formula ?k_law_is_formula ?a_law ?l_law ?c_law ?k_law ?a_con ?l_con ?b_con ?a_cmp ?l_cmp ?k_cmp ?low_cmp ?b_cmp ?z_abs ?z_all ?z_int ?z_len ?z_list ?z_max ?z_range ?z_repr ?z_sorted ?z_tuple
    (case a_parts_of => k_is)
    (case l_parts_of => k_is)
    (case c_parts_of => k_is)
    (case k_parts_of => k_is)
    (case a_is_formula => k_is)
    (case l_is_formula => k_is)
    (case c_is_formula => k_is)
    (case k_is_formula => k_is)
    (case a_tests_of => k_is)
    (case l_tests_of => k_is)
    (case c_tests_of => k_is)
    (case k_tests_of => k_is)
    (case a_is_constant => k_is)
    (case l_is_constant => k_is)
    (case c_is_constant => k_is)
    (case k_is_constant => k_is)
    (case a_is_test => k_is)
    (case l_is_test => k_is)
    (case c_is_test => k_is)
    (case k_is_test => k_is)
    (case a_law_tape => k_is)
    (case l_law_tape => k_is)
    (case c_law_tape => k_is)
    (case k_law_tape => k_is)
    (case a_law_draw => k_is)
    (case l_law_draw => k_is)
    (case c_law_draw => k_is)
    (case k_law_draw => k_is)
    (case a_law_word => k_is)
    (case l_law_word => k_is)
    (case c_law_word => k_is)
    (case k_law_word => k_is)
    (case a_law_lowest => k_is)
    (case l_law_lowest => k_is)
    (case c_law_lowest => k_is)
    (case k_law_lowest => k_is)
    (case a_law_number => k_is)
    (case l_law_number => k_is)
    (case c_law_number => k_is)
    (case k_law_number => k_is)
    (case a_law_cell => k_is)
    (case l_law_cell => k_is)
    (case c_law_cell => k_is)
    (case k_law_cell => k_is)
    (case a_law_cells => k_is)
    (case l_law_cells => k_is)
    (case c_law_cells => k_is)
    (case k_law_cells => k_is)
    (case a_law_columns => k_is)
    (case l_law_columns => k_is)
    (case c_law_columns => k_is)
    (case k_law_columns => k_is)
    (case a_law_test => k_is)
    (case l_law_test => k_is)
    (case c_law_test => k_is)
    (case k_law_test => k_is)
    (case a_law_is_test => k_is)
    (case l_law_is_test => k_is)
    (case c_law_is_test => k_is)
    (case k_law_is_test => k_is)
    (case a_law_tests => k_is)
    (case l_law_tests => k_is)
    (case c_law_tests => k_is)
    (case k_law_tests => k_is)
    (case a_law_odd => k_is)
    (case l_law_odd => k_is)
    (case c_law_odd => k_is)
    (case k_law_odd => k_is)
    (case a_law_wild => k_is)
    (case l_law_wild => k_is)
    (case c_law_wild => k_is)
    (case k_law_wild => k_is)
    (case a_law_is_formula => k_is)
    (case l_law_is_formula => k_is)
    (case c_law_is_formula => k_is)
    (case k_law_is_formula => k_is)
    (case a_law => k_is)
    (case l_law => k_is)
    (case c_law => k_is)
    (case k_law => k_is)
    (case z_abs => k_is)
    (case z_all => k_is)
    (case z_int => k_is)
    (case z_len => k_is)
    (case z_list => k_is)
    (case z_max => k_is)
    (case z_range => k_is)
    (case z_repr => k_is)
    (case z_sorted => k_is)
    (case z_tuple => k_is)
    (case a_con => k_is)
    (case l_con => k_is)
    (case b_con => kernel_rfl)
    (case a_cmp => k_is)
    (case l_cmp => k_is)
    (case k_cmp => k_keys)
    (case low_cmp => rfl)
    (case b_cmp => kernel_rfl)
#print axioms PySem.Challenge.cw_chartspec_k94_formulas_and_their_tests_holds

