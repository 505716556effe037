import PyProof.Rows.All
import Wide.All
import OpenK.AllK
import Wide.FinOn
import HandS.Base
import HandS.Call
import HandS.List
import HandS.Comp
import HandS.Ends
import HandS.Iter
import HandS.Text
import HandS.Words
import HandS.WordsList
import HandS.TupAny
import HandS.TupLe
import HandS.Rev
import HandS.Style
import HandS.Flow
import HandS.IsInst
import HandS.Codes
import HandS.FStrTup
import HandS.Walk
import HandS.More
import PyProof.StrBlock2
import HandS.TupSets
import HandS.Dict
import KE.KDictKeyed
import PyProof.SetRoads
import HandS.Strs
import HandS.DictComp
import HandS.Wide
import HandS.WideBits
import HandS.TupMul
import HandS.Deep
import HandS.SortInts
import HandS.Gcd
import HandS.Zip
import HandS.Conv
import HandS.NoneIn
import HandS.Replace
import HandS.Defaults
import HandS.ForExc
import HandS.ExcInit
import HandS.ExcIs
import KE.KExcIs
import HandS.ExcField
import HandS.ExcOwn
import HandS.Small
import KE.KDictZip
import HandS.RevTup
import KE.LtSeq
import KE.GoesMore
import PyProof.EnumMake
import PyProof.Draws
import KE.KDictSum
import PySem.Challenge.RW_chartspec_k49_moved_identities
set_option Elab.async false
set_option linter.all false
set_option maxRecDepth 100000
set_option maxHeartbeats 4000000
/-! The layer's promises with one thing more: no repr is under way (A.guards = some []). -/
namespace Cs
open PySem PySem.Spec PyProof.Rows L2

/-- a def's promise, given where no repr is under way -/
structure FnG (P : Program) (w : World) (K : PySem.W.Frag) (mg : Str → Option Value) (base : Heap) (k : Nat) (f : Addr) (fd : FuncData) (ps : List Str) (sp : Sp) : Prop where
  len : ∀ vs H Q E, sp vs H Q E → vs.length = ps.length
  go : ∀ (A : Around) (out : List Env) (s : Shared) (H : Hp) (args : Args) (us : List Value) (vs : List V) (Q : VK) (E : XK),
    Room k A → A.guards = some [] → Env0 P w K mg base A out s H → BindsTo s fd args (ps.zip us) → Vals vs us → sp vs H Q E →
    codeAny (model P w) A (.call (.ref f) args) (CR CX0 out P w H s Q E) s

section
variable {P : Program} {w : World} {K : PySem.W.Frag} {mg : Str → Option Value} {base : Heap}

/-- the contexts of bodies: as cxOf, nothing leaves the def -/
abbrev cxG (P : Program) (w : World) (K : PySem.W.Frag) (mg : Str → Option Value) (base : Heap) (N : List Str) (qual : Str) (sc : Scope) (f : Addr) (cd : Value) (A : Around) (out : List Env) (s : Shared) (H : Hp) (E : XK) : Cx :=
  (cxOf CX0 P w K mg base N qual sc f cd A out s H E).nox

/-- a def by its body -/
theorem FnG.of {x qual : Str} {st : Stmt} {f : Addr} {fd : FuncData} {N ps : List Str} {k : Nat} {sp : Sp} (F : Fun K x qual st f fd) (S : FnScope N ps (defScope st)) (len : ∀ vs H Q E, sp vs H Q E → vs.length = ps.length)
    (body : ∀ (cdv : Value) (A : Around) (out : List Env) (s : Shared) (H : Hp) (vs : List V) (Q : VK) (E : XK), Room k (A.deeper (envOfC qual (defScope st) s.heap.objs.size f cdv)) → A.guards = some [] → sp vs H Q E →
      ∃ t, PSs (cxG P w K mg base N qual (defScope st) f cdv A out s H E) (defBody st) t ∧ t { nx := fun _ H' => Q .non H', rt := Q } (start N vs) H) :
    FnG P w K mg base (k + 1) f fd ps sp := by
  obtain ⟨oc, od, kV, doc, pm, an, cdv, ct, osl, rfl, lk, hcd⟩ := F.ex
  refine ⟨len, fun A out s H args us vs Q E hr hg e0 hb r hsp => ?_⟩
  have hl := len _ _ _ _ hsp
  have inK : K.In s.heap := e0.mod.kin.keeps fun b o e => (e0.bs b o e).1
  have noL : s.heap.NoLimit := e0.mod.nolimit.keeps fun b o e => (e0.bs b o e).1
  refine codeAny_call_function hr.depth (inK _ _ lk) rfl S.co S.gen rfl (PySem.W.codeRec_of inK hcd) (hb _ _ _ _ ?_)
  refine wpAny_newFunctionEnv_cells S.kind (fun y hy => ?_) fun env he s1 x => ?_
  · rcases S.par y.1 (List.of_mem_zip (show (y.1, y.2) ∈ ps.zip us from hy)).1 with q | q
    · exact Or.inl q
    · exact Or.inr ⟨q, PySem.W.cellsFrom_some _ _ _ (Or.inl q)⟩
  · subst he
    refine ⟨noL.keeps x.toInCall.keep, codeAny_func ?_⟩
    obtain ⟨t, ht, hq⟩ := body cdv A out s H vs Q E (hr.deeper _) hg hsp
    have I : Inv (cxOf CX0 P w K mg base N qual (defScope st) f cdv A out s H E) [] (start N vs) H s1 := inv_start S hr.hd e0 hl r x
    refine wpAny_mono (ht.nox.run [] s1 (start N vs) H _ I hq) (fun fl s' hs => ?_) fun e s' hs => hs
    have fin : ∀ {σ' : L2.St} {H' : Hp} {v : V} {u : Value}, Inv (cxOf CX0 P w K mg base N qual (defScope st) f cdv A out s H E) [] σ' H' s' → RelV v u → Q v H' → CE out P w H s Q u s' :=
      fun {σ' H' v u} J rv q => ⟨v, H', J.os, J.bare, J.base, J.hok, rv, q⟩
    cases fl with
    | next =>
      obtain ⟨σ', H', J, q⟩ := hs
      exact fin (v := V.non) (u := Value.none) J rfl q
    | ret u =>
      obtain ⟨v, σ', H', J, rv, q⟩ := hs
      exact fin J rv q
    | brk =>
      obtain ⟨_, _, _, q⟩ := hs
      exact q.elim
    | cont =>
      obtain ⟨_, _, _, q⟩ := hs
      exact q.elim
end

section
variable {X : Cx} {k : Nat} {f : Addr} {fd : FuncData} {ps : List Str} {sp : Sp} {x : Str} {p pos : Pos} {e : Expr} {es : List Expr} {t : TA}
theorem goFn {pins : List (Addr × Obj)} {σ : L2.St} {H : Hp} {s : Shared} {Q : VK} {us : List Value} {vs : List V} (F : FnG X.prog X.w X.K X.mg X.base k f fd ps sp) (hr : Room k X.A) (hg : X.A.guards = some []) (hb : Binds X.K fd ps [])
    (I : Inv X pins σ H s) (r : Vals vs us) (h : sp vs H Q E0) : wpAny (model X.prog X.w) X.A (call (.ref f) us) (EP X pins σ Q) X.xe s := by
  have hl : (us ++ []).length = ps.length := by rw [List.append_nil, ← r.length]; exact F.len _ _ _ _ h
  have hb' := hb s us I.kIn hl
  rw [List.append_nil] at hb'
  refine wpAny_call (codeAny_mono (F.go X.A X.stack s H ⟨us, []⟩ us vs Q E0 hr hg I.env0 hb' r h) fun r s' hq => ?_)
  match r, hq with
  | .ok (.ret u), hq => exact I.after hq
  | .error e, hq => exact False.elim hq
  | .ok .next, hq => exact False.elim hq
  | .ok .brk, hq => exact False.elim hq
  | .ok .cont, hq => exact False.elim hq
/-- f(a, ..): the callee's promise -/
def tFn (sp : Sp) (t : TA) : TE := fun σ H Q => t σ H fun vs H1 => sp vs H1 Q E0
theorem pe_fn (F : FnG X.prog X.w X.K X.mg X.base k f fd ps sp) (hr : Room k X.A) (hgd : X.A.guards = some []) (hg : Gl X x) (hm : X.mg x = some (.ref f)) (hk : PySem.W.keepIn X.K (.ref f) = true) (hb : Binds X.K fd ps [])
    (ha : PA X (e :: es) t) (hdb : (x == ("__debug__" : Str)) = false := by decide) (he : starEach (e :: es) X.env = (false, eval e X.env) :: starEach es X.env := by rfl) (hpl : (backTo pos (starEach es X.env)).any (·.1) = false := by rfl) :
    PE X (.Call (.Name x p) (e :: es) [] pos) (tFn sp t) := by
  refine ⟨fun pins s σ H Q I h => wpAny_Call_Name_kw (ld_glob I hg hm ?_ hdb)⟩
  refine PySem.W.callWith_K (h₀ := X.base) I.ok.mod.kin hk (thn (ha.run pos pins s σ H _ I h) fun us s1 ⟨vs, H1, I1, r, q⟩ => ⟨I1.kIn, ?_⟩) he hpl
  exact goFn F hr hgd hb I1 r q
theorem pe_fn0 (F : FnG X.prog X.w X.K X.mg X.base k f fd ps sp) (hr : Room k X.A) (hgd : X.A.guards = some []) (hg : Gl X x) (hm : X.mg x = some (.ref f)) (hk : PySem.W.keepIn X.K (.ref f) = true) (hb : Binds X.K fd ps [])
    (hdb : (x == ("__debug__" : Str)) = false := by decide) : PE X (.Call (.Name x p) [] [] pos) (tFn sp tNil) := by
  refine ⟨fun pins s σ H Q I h => wpAny_Call_Name_kw (ld_glob I hg hm ?_ hdb)⟩
  exact PySem.W.callWith_K0 I.kIn hk (goFn (us := []) F hr hgd hb I .nil h)

/-- repr(x) of data: what stands in the text -/
def rRepr (K : PySem.W.Frag) : List V → Hp → VK → Prop := fun vs H Q => ∃ (x : V) (d : PyData), vs = [x] ∧ Dp K H x d ∧ d.showable = true ∧ d.hasDict = false ∧ d.depth ≤ 40 ∧ d.shown.length ≤ sizeLine ∧ Q (.str d.shown) H
theorem call_repr (hu : X.A.units + 64 < cLine) (hg : X.A.guards = some []) : CallR X (.builtin "repr") (rRepr X.K) := by
  intro pins s σ H vs us Q I r h
  obtain ⟨x, d, rfl, hd, sh, nd, dp, sz, q⟩ := h
  cases r with
  | cons r1 rr =>
    cases rr
    rename_i u
    obtain ⟨as, rd⟩ := Dp.reads I d x u hd r1
    cases hd with
    | non =>
      cases r1
      exact PySem.P.repr_of_none ⟨.str _, H, I.tok _, ⟨_, rfl⟩, q⟩
    | bl b =>
      cases r1
      exact PySem.P.repr_of_bool ⟨.str _, H, I.tok _, ⟨_, rfl⟩, q⟩
    | int i =>
      obtain ⟨t, rfl⟩ := r1
      exact PySem.P.repr_of_int (of_decide_eq_true sh) ⟨.str _, H, I.tok _, ⟨_, rfl⟩, q⟩
    | str z =>
      obtain ⟨t, rfl⟩ := r1
      exact PySem.P.repr_of_str ⟨.str _, H, I.tok _, ⟨_, rfl⟩, q⟩ sz
    | lst h1 h2 =>
      cases r1
      exact repr_of_reads' rd sh (PyData.noDict_hsm nd) hg (by omega) (fun _ _ e => e) (fun h1 u tk hk => ⟨.str _, H, I.kept hk, ⟨u, rfl⟩, q⟩) sz
    | tup h1 h2 =>
      cases r1
      exact repr_of_reads' rd sh (PyData.noDict_hsm nd) hg (by omega) (fun _ _ e => e) (fun h1 u tk hk => ⟨.str _, H, I.kept hk, ⟨u, rfl⟩, q⟩) sz
end
end Cs

set_option maxRecDepth 100000
set_option maxHeartbeats 4000000
namespace Cs
open PySem PySem.Spec PyProof.Rows L2

/-- what is tracked at the law's entry: the script, locked -/
def hpOf (a : Addr) (o : Obj) (xs : List V) : Hp := fun b => if b = a then some (.frz o (.lst xs)) else none
theorem hpOf_some {a b : Addr} {o : Obj} {xs : List V} {u : HO} (h : hpOf a o xs b = some u) : b = a ∧ u = .frz o (.lst xs) := by
  unfold hpOf at h
  by_cases e : b = a
  · rw [if_pos e] at h
    exact ⟨e, (Option.some.inj h).symm⟩
  · rw [if_neg e] at h
    cases h
theorem hpOf_at {a : Addr} {o : Obj} {xs : List V} : hpOf a o xs a = some (.frz o (.lst xs)) := if_pos rfl

section
variable {P : Program} {w : World} {K : PySem.W.Frag} {mg mb : Str → Option Value} {k : Nat} {fa a : Addr} {fd : FuncData} {x : Str} {sp : Sp} {s₁ : Shared} {vs : List Value} {ns : List Int}

/-- one run of the law from an abstract heap H that tracks no more than the script -/
theorem law_from (H : Hp) (inK : K.In s₁.heap) (hns : s₁.heap.Ns mainGlobals mg) (hb : s₁.heap.Ns builtinsNs mb) (hbb : ∀ y : Str, y ≠ "__name__" → mb y = bootBuiltins y) (hlim : s₁.heap.NoLimit) (hg : s₁.gens = #[])
    (ha : s₁.heap.get? a = some { cls := .type "list", data := .seq vs.toArray }) (hr : Room k callerA)
    (F : ∀ base : Heap, K.In base → base.Ns mainGlobals mg → FnG P w K mg base k fa fd [x] sp) (hbind : ∀ (s : Shared) (u : Value), BindsTo s fd ⟨[u], []⟩ [(x, u)])
    (hS : sp [.ref a] H (fun v _ => v = .bl true) E0) (hok : HOk P w H s₁.heap) (one : ∀ b u, H b = some u → b = a ∧ ∃ o xs, u = .frz o (.lst xs)) (off : ∀ u, H a = some u → K.lookup a = none) :
    codeAny (model P w) callerA (.call (.ref fa) ⟨[.ref a], []⟩) (fun r s' => r = .ok (.ret (.bool true)) ∧ OldK s₁.heap s'.heap ∧ s'.os = s₁.os ∧ AllBare s'.gens) s₁ := by
  have none_of : ∀ {b : Addr}, b ≠ a → H b = none := fun {b} n => by
    cases e : H b with
    | none => rfl
    | some u => exact absurd (one b u e).1 n
  have ns_keep : ∀ {b : Addr} {m : Str → Option Value}, s₁.heap.Ns b m → (hidT s₁.heap H).Ns b m := fun {b m} ⟨o, es, ep, e, d, q⟩ => by
    refine ⟨o, es, ep, hidT_get e (none_of fun z => ?_), d, q⟩
    rw [z, ha] at e
    cases e
    cases (show Data.seq vs.toArray _ = Data.dict es ep from d)
  have kb : K.In (hidT s₁.heap H) := fun b o e => by
    refine hidT_get (inK b o e) ?_
    cases q : H b with
    | none => rfl
    | some u =>
      obtain ⟨z, _⟩ := one b u q
      rw [z] at q e
      rw [off u q] at e
      cases e
  obtain ⟨mc, c1, c2⟩ := hlim
  have md : Mod K mg (hidT s₁.heap H) := ⟨kb, ns_keep hns, ⟨mb, ns_keep hb, hbb⟩, ⟨mc, ns_keep c1, c2⟩⟩
  have e0 : Env0 P w K mg (hidT s₁.heap H) callerA [] s₁ H :=
    ⟨rfl, md, fun _ _ e => of_hidT e, Nat.le_of_eq (hidT_size _ _), trivial, (fun b hm => absurd (show b ∈ ([] : List Addr) from hm) List.not_mem_nil), hok, .of_eq hg⟩
  refine codeAny_mono ((F _ kb (ns_keep hns)).go callerA [] s₁ H ⟨[.ref a], []⟩ [.ref a] [.ref a] _ _ hr rfl e0 (hbind s₁ (.ref a)) (.cons rfl .nil) hS) fun r s' h => ?_
  match r, h with
  | .error e, h => exact False.elim h
  | .ok .next, h => exact False.elim h
  | .ok .brk, h => exact False.elim h
  | .ok .cont, h => exact False.elim h
  | .ok (.ret u), ⟨v, H', os, bare, un, hok', rv, q⟩ =>
    cases (show v = V.bl true from q)
    cases (show u = Value.bool true from rv)
    refine ⟨rfl, OldK.of_keep fun b o e => ?_, os, bare⟩
    cases q : H b with
    | none => exact un.keep b o e q (fun z => absurd (show b ∈ ([] : List Addr) from z) List.not_mem_nil) (fun z => absurd (show b ∈ ([] : List Addr) from z) List.not_mem_nil)
    | some u =>
      obtain ⟨_, ob, xs, z⟩ := one b u q
      subst z
      obtain ⟨g1, _⟩ := hok b _ q
      obtain ⟨g2, _⟩ := hok' b _ (un.frzs b ob _ q)
      rw [e] at g1
      cases g1
      exact g2

theorem law_run (inK : K.In s₁.heap) (hns : s₁.heap.Ns mainGlobals mg) (hb : s₁.heap.Ns builtinsNs mb) (hbb : ∀ y : Str, y ≠ "__name__" → mb y = bootBuiltins y) (hlim : s₁.heap.NoLimit) (hg : s₁.gens = #[])
    (ha : s₁.heap.get? a = some { cls := .type "list", data := .seq vs.toArray }) (hi : IntsAre vs ns) (hl : ns.length ≤ sizeLine) (hr : Room k callerA)
    (F : ∀ base : Heap, K.In base → base.Ns mainGlobals mg → FnG P w K mg base k fa fd [x] sp) (hbind : ∀ (s : Shared) (u : Value), BindsTo s fd ⟨[u], []⟩ [(x, u)])
    (hsp : ∀ H : Hp, SqL K H a (ns.map V.int) → sp [.ref a] H (fun v _ => v = .bl true) E0) :
    codeAny (model P w) callerA (.call (.ref fa) ⟨[.ref a], []⟩) (fun r s' => r = .ok (.ret (.bool true)) ∧ OldK s₁.heap s'.heap ∧ s'.os = s₁.os ∧ AllBare s'.gens) s₁ := by
  have rv := vals_ints hi
  have hl2 : (ns.map V.int).length ≤ sizeLine := by rw [List.length_map]; exact hl
  have hl3 : vs.length ≤ sizeLine := by rw [← rv.length]; exact hl2
  cases hk : K.lookup a with
  | none =>
    refine law_from (hpOf a { cls := .type "list", data := .seq vs.toArray } (ns.map V.int)) inK hns hb hbb hlim hg ha hr F hbind (hsp _ (.inl (.inr ⟨_, hpOf_at⟩))) (fun b u e => ?_) (fun b u e => ?_) fun _ _ => hk
    · obtain ⟨rfl, rfl⟩ := hpOf_some e
      exact ⟨ha, hl2, vs, _, rv, ha⟩
    · obtain ⟨z, q⟩ := hpOf_some e
      exact ⟨z, _, _, q⟩
  | some o =>
    have e := inK a o hk
    rw [ha] at e
    cases e
    exact law_from (fun _ => none) inK hns hb hbb hlim hg ha hr F hbind (hsp _ (.inr ⟨_, vs.toArray, _, hk, rfl, rfl, rfl, by rw [List.size_toArray]; exact hl3, by simpa using rv⟩)) (fun _ u e => absurd (show (none : Option HO) = some u from e) (by simp)) (fun _ u e => absurd (show (none : Option HO) = some u from e) (by simp)) fun u e => absurd (show (none : Option HO) = some u from e) (by simp)
end

/-- the law's row from the law's promise -/
theorem walkG {l : PySem.W.OpenLaw} {n k : Nat} {q : Program} {loose : List Str} {XP : (Str → Option Value) → Heap → Prop} {YP : World → Heap → Prop} {d : DefRec} {K : Params → PySem.W.Frag} {sp : PySem.W.Frag → Sp} {x : Str}
    (hn : l.most = some n) (hn2 : n ≤ sizeLine) (hdf : d.params.defaults = []) (hr : Room k callerA)
    (hY : ∀ (w : World) (h : Heap), YP w h → (K w.params).In h)
    (F : ∀ (w : World) (mg : Str → Option Value) (fa : Addr) (h : Heap), (K w.params).In h → h.Ns mainGlobals mg → mg d.name = some (.ref fa) →
      ∃ fd : FuncData, (∀ (s : Shared) (u : Value), BindsTo s fd ⟨[u], []⟩ [(x, u)]) ∧
        ∀ base : Heap, (K w.params).In base → base.Ns mainGlobals mg → FnG l.prog w (K w.params) mg base k fa fd [x] (sp (K w.params)))
    (hsp : ∀ (K : PySem.W.Frag) (H : Hp) (a : Addr) (ns : List Int), ns.length ≤ n → SqL K H a (ns.map V.int) → sp K [.ref a] H (fun v _ => v = .bl true) E0) :
    PySem.W.WalkO q loose XP YP l.row.toRowW d [] (fun f vs => PySem.call f vs) := by
  refine Att.attach_call hn hdf fun w s₀ s₁ mg mb fa o pm cd doc a vs ns G Y ho hd hcd hmg hobj hints hlen hg => ?_
  have inK := hY w _ Y
  obtain ⟨fd, hb, hF⟩ := F w mg fa _ inK G.T.g hmg
  exact law_run inK G.T.g G.T.b G.T.builtins G.T.nolimit hg hobj hints (Nat.le_trans hlen hn2) hr hF hb fun H hS => hsp (K w.params) H a ns hlen hS
end Cs

set_option maxRecDepth 100000
set_option maxHeartbeats 4000000
namespace Cs
open PySem PySem.Spec PyProof.Rows L2

/-! ### a def that stands in the text and keeps a promise -/
def At (K : PySem.W.Frag) (mg : Str → Option Value) (x : Str) (st : Stmt) : Prop := ∃ (f : Addr) (fd : FuncData), mg x = some (.ref f) ∧ Fun K x x st f fd
def Df (P : Program) (w : World) (K : PySem.W.Frag) (mg : Str → Option Value) (base : Heap) (k : Nat) (x : Str) (ps : List Str) (sp : Sp) : Prop :=
  ∃ (f : Addr) (fd : FuncData), mg x = some (.ref f) ∧ PySem.W.keepIn K (.ref f) = true ∧ Binds K fd ps [] ∧ FnG P w K mg base k f fd ps sp
section
variable {P : Program} {w : World} {K : PySem.W.Frag} {mg : Str → Option Value} {base : Heap}
theorem Df.of {x : Str} {st : Stmt} {N ps : List Str} {k : Nat} {sp : Sp} (A : At K mg x st)
    (bd : ∀ (kV doc pm : Value) (an : Option Addr) (cdv ct : Value) (us : List Value), us.length = ps.length → bindArgs (PySem.W.fnOf x x (defArgs st) (defBody st) (defScope st) .none kV doc pm an cdv ct) ⟨us, []⟩ = pure (ps.zip us))
    (S : FnScope N ps (defScope st)) (len : ∀ vs H Q E, sp vs H Q E → vs.length = ps.length)
    (body : ∀ (cdv : Value) (A : Around) (out : List Env) (f : Addr) (s : Shared) (H : Hp) (vs : List V) (Q : VK) (E : XK), Room k (A.deeper (envOfC x (defScope st) s.heap.objs.size f cdv)) → A.guards = some [] → sp vs H Q E →
      ∃ t, PSs (cxG P w K mg base N x (defScope st) f cdv A out s H E) (defBody st) t ∧ t { nx := fun _ H' => Q .non H', rt := Q } (start N vs) H) :
    Df P w K mg base (k + 1) x ps sp := by
  obtain ⟨f, fd, m, F⟩ := A
  exact ⟨f, fd, m, F.kp, F.binds bd, FnG.of F S len fun cdv A out s H vs Q E hr hg h => body cdv A out f s H vs Q E hr hg h⟩
end
section
variable {X : Cx} {k : Nat} {ps : List Str} {sp : Sp} {x : Str} {p pos : Pos} {e : Expr} {es : List Expr} {t : TA}
theorem pe_df (D : Df X.prog X.w X.K X.mg X.base k x ps sp) (hr : Room k X.A) (hgd : X.A.guards = some []) (hg : Gl X x)
    (ha : PA X (e :: es) t) (hdb : (x == ("__debug__" : Str)) = false := by decide) (he : starEach (e :: es) X.env = (false, eval e X.env) :: starEach es X.env := by rfl) (hpl : (backTo pos (starEach es X.env)).any (·.1) = false := by rfl) :
    PE X (.Call (.Name x p) (e :: es) [] pos) (tFn sp t) := by
  obtain ⟨f, fd, m, kp, b, G⟩ := D
  exact pe_fn G hr hgd hg m kp b ha hdb he hpl
theorem pe_df0 (D : Df X.prog X.w X.K X.mg X.base k x ps sp) (hr : Room k X.A) (hgd : X.A.guards = some []) (hg : Gl X x) (hdb : (x == ("__debug__" : Str)) = false := by decide) :
    PE X (.Call (.Name x p) [] [] pos) (tFn sp tNil) := by
  obtain ⟨f, fd, m, kp, b, G⟩ := D
  exact pe_fn0 G hr hgd hg m kp b hdb
end

/-! ### heaps -/
/-- all but t is as it was -/
def Al (t : Addr) (H H' : Hp) : Prop := ∀ b, b ≠ t → H' b = H b
/-- all that was tracked, but t, is as it was -/
def Gr (t : Addr) (H H' : Hp) : Prop := ∀ b o, H b = some o → b ≠ t → H' b = some o
theorem Al.gr {t : Addr} {H H' : Hp} (a : Al t H H') : Gr t H H' := fun b o e n => by rw [a b n]; exact e
theorem Al.upd {t : Addr} {H : Hp} {o : HO} : Al t H (upd H t o) := fun b n => upd_ne n
theorem Al.trans {t : Addr} {H H1 H2 : Hp} (a : Al t H H1) (b : Al t H1 H2) : Al t H H2 := fun c n => (b c n).trans (a c n)
theorem Al.free {t b : Addr} {H H' : Hp} (a : Al t H H') (n : b ≠ t) (h : H' b = none) : H b = none := by rw [← a b n]; exact h
theorem Gr.refl (t : Addr) (H : Hp) : Gr t H H := fun _ _ e _ => e
theorem Gr.trans {t : Addr} {H H1 H2 : Hp} (a : Gr t H H1) (b : Gr t H1 H2) : Gr t H H2 := fun c o e n => b c o (a c o e n) n
theorem Gr.of {t : Addr} {H H' : Hp} (a : Same H H') : Gr t H H' := fun b o e _ => a b o e
theorem Gr.free {t b : Addr} {H H' : Hp} (a : Gr t H H') (n : b ≠ t) (h : H' b = none) : H b = none := by
  cases e : H b with
  | none => rfl
  | some o =>
    rw [a b o e n] at h
    cases h
theorem Same.new {p : Addr} {H : Hp} {o : HO} (h : H p = none) : Same H (upd H p o) := fun b u e => by rw [upd_ne (ne_of_none e h)]; exact e
theorem Gr.new {t p : Addr} {H : Hp} {o : HO} (h : H p = none) : Gr t H (upd H p o) := Gr.of (Same.new h)

/-- things that never change are as they were -/
structure Im (H H' : Hp) : Prop where
  tup : ∀ b xs, H b = some (.tup xs) → H' b = some (.tup xs)
  frz : ∀ b o u, H b = some (.frz o u) → H' b = some (.frz o u)
theorem Im.refl (H : Hp) : Im H H := ⟨fun _ _ e => e, fun _ _ _ e => e⟩
theorem Im.trans {H H1 H2 : Hp} (a : Im H H1) (b : Im H1 H2) : Im H H2 := ⟨fun c xs e => b.tup c xs (a.tup c xs e), fun c o u e => b.frz c o u (a.frz c o u e)⟩
theorem Im.same {H H' : Hp} (a : Same H H') : Im H H' := ⟨fun b _ e => a b _ e, fun b _ _ e => a b _ e⟩
theorem Im.new {p : Addr} {H : Hp} {o : HO} (h : H p = none) : Im H (upd H p o) := Im.same (Same.new h)
theorem Im.gr {t : Addr} {H H' : Hp} {xs : List V} (a : Gr t H H') (h : H t = some (.lst xs)) : Im H H' :=
  ⟨fun b ys e => a b _ e fun z => (by subst z; rw [h] at e; cases e), fun b o u e => a b _ e fun z => (by subst z; rw [h] at e; cases e)⟩
theorem Im.set {t : Addr} {H : Hp} {xs : List V} {o : HO} (h : H t = some (.lst xs)) : Im H (upd H t o) := Im.gr (Al.upd.gr) h
theorem Im.sqT {K : PySem.W.Frag} {H H' : Hp} {a : Addr} {xs : List V} (e : Im H H') (h : SqT K H a xs) : SqT K H' a xs := by
  rcases h with (h | ⟨o, h⟩) | h
  · exact .inl (.inl (e.tup _ _ h))
  · exact .inl (.inr ⟨o, e.frz _ _ _ h⟩)
  · exact .inr h

/-! ### the tape -/
structure TapeAt (H : Hp) (t l : Addr) : Prop where
  ex : ∃ (ns : List Int) (p r s : Int), H t = some (.lst [.ref l, .int p, .int r, .int s]) ∧ H l = some (.lst (ns.map V.int)) ∧ 0 ≤ p ∧ 0 ≤ r ∧ 0 ≤ s
  ne : l ≠ t
theorem TapeAt.list {H : Hp} {t l : Addr} (T : TapeAt H t l) : ∃ xs, H t = some (.lst xs) := let ⟨_, _, _, _, h, _⟩ := T.ex; ⟨_, h⟩
theorem TapeAt.list' {H : Hp} {t l : Addr} (T : TapeAt H t l) : ∃ xs, H l = some (.lst xs) := let ⟨_, _, _, _, _, h, _⟩ := T.ex; ⟨_, h⟩
theorem TapeAt.same {H H' : Hp} {t l : Addr} (T : TapeAt H t l) (e : Same H H') : TapeAt H' t l := let ⟨ns, p, r, s, h1, h2, q⟩ := T.ex; ⟨⟨ns, p, r, s, e _ _ h1, e _ _ h2, q⟩, T.ne⟩
theorem TapeAt.new {H : Hp} {t l b : Addr} {o : HO} (T : TapeAt H t l) (h : H b = none) : TapeAt (upd H b o) t l := T.same (Same.new h)
theorem TapeAt.upd {H : Hp} {t l b : Addr} {o : HO} (T : TapeAt H t l) (n1 : b ≠ t) (n2 : b ≠ l) : TapeAt (upd H b o) t l :=
  let ⟨ns, p, r, s, h1, h2, q⟩ := T.ex; ⟨⟨ns, p, r, s, by rw [upd_ne n1.symm]; exact h1, by rw [upd_ne n2.symm]; exact h2, q⟩, T.ne⟩
theorem TapeAt.ne_t {H : Hp} {t l b : Addr} (T : TapeAt H t l) (h : H b = none) : b ≠ t := let ⟨_, e⟩ := T.list; (ne_of_none e h).symm
theorem TapeAt.ne_l {H : Hp} {t l b : Addr} (T : TapeAt H t l) (h : H b = none) : b ≠ l := let ⟨_, e⟩ := T.list'; (ne_of_none e h).symm
theorem TapeAt.im {H H' : Hp} {t l : Addr} (T : TapeAt H t l) (g : Gr t H H') : Im H H' := let ⟨_, e⟩ := T.list; Im.gr g e

/-- the law's own two: a tape is made; a number is drawn -/
def sp_law_tape (K : PySem.W.Frag) : Sp := fun vs H Q _ => ∃ (a : Addr) (ns : List Int), vs = [.ref a] ∧ SqL K H a (ns.map V.int) ∧ ns.length ≤ 63 ∧ ∀ t l H', Same H H' → TapeAt H' t l → H t = none → H l = none → Q (.ref t) H'
def sp_law_draw (K : PySem.W.Frag) : Sp := fun vs H Q _ => ∃ (t l : Addr) (m : Int), vs = [.ref t, .int m] ∧ TapeAt H t l ∧ m ≤ 1000000000 ∧ ∀ v H', TapeAt H' t l → Al t H H' → 0 ≤ v → v < max m 1 → Q (.int v) H'
end Cs

set_option maxRecDepth 100000
set_option maxHeartbeats 4000000
namespace Cs
open PySem PySem.Spec PyProof.Rows L2
/-! ### tests -/
section
variable {A B c : Prop}
theorem if_dec [Decidable c] (h1 : c → A) (h2 : ¬ c → B) : if decide c = true then A else B := by
  by_cases h : c
  · rw [decide_eq_true h, if_pos rfl]; exact h1 h
  · rw [decide_eq_false h, if_neg Bool.false_ne_true]; exact h2 h
theorem if_ndec [Decidable c] (h1 : ¬ c → A) (h2 : c → B) : if (!decide c) = true then A else B := by
  by_cases h : c
  · rw [decide_eq_true h]; exact h2 h
  · rw [decide_eq_false h]; exact h1 h
theorem if_int {i j : Int} (h1 : i = j → A) (h2 : ¬ i = j → B) : if decide (V.int i = V.int j) = true then A else B :=
  if_dec (fun h => h1 (V.int.inj h)) fun h => h2 fun e => h (by rw [e])
theorem if_nint {i j : Int} (h1 : ¬ i = j → A) (h2 : i = j → B) : if (!decide (V.int i = V.int j)) = true then A else B :=
  if_ndec (fun h => h1 fun e => h (by rw [e])) fun h => h2 (V.int.inj h)
theorem if_str {i j : Str} (h1 : i = j → A) (h2 : ¬ i = j → B) : if decide (V.str i = V.str j) = true then A else B :=
  if_dec (fun h => h1 (V.str.inj h)) fun h => h2 fun e => h (by rw [e])
theorem if_nstr {i j : Str} (h1 : ¬ i = j → A) (h2 : i = j → B) : if (!decide (V.str i = V.str j)) = true then A else B :=
  if_ndec (fun h => h1 fun e => h (by rw [e])) fun h => h2 (V.str.inj h)
theorem if_bool {b : Bool} (h1 : b = true → A) (h2 : b = false → B) : if b = true then A else B := by
  cases b with
  | true => exact h1 rfl
  | false => exact h2 rfl
theorem if_nbool {b : Bool} (h1 : b = false → A) (h2 : b = true → B) : if (!b) = true then A else B := by
  cases b with
  | true => exact h2 rfl
  | false => exact h1 rfl
end
theorem int_at {ns : List Int} {i : Nat} {y : V} (h : (ns.map V.int)[i]? = some y) : ∃ n, y = V.int n := by
  rw [List.getElem?_map] at h
  cases e : ns[i]? with
  | none => rw [e] at h; cases h
  | some z => rw [e] at h; exact ⟨z, (Option.some.inj h).symm⟩
theorem at_int {ns : List Int} {i : Int} (h0 : 0 ≤ i) (h : i < ns.length) : ∃ n, atI (ns.map V.int) i = some (V.int n) := by
  obtain ⟨j, rfl⟩ : ∃ j : Nat, i = (j : Int) := ⟨i.toNat, by omega⟩
  have hj : j < ns.length := by omega
  exact ⟨ns[j], atI_nat (by rw [List.getElem?_map, List.getElem?_eq_getElem hj]; rfl)⟩
theorem max_one (m : Int) : (if (1 : Int) > m then (1 : Int) else m) = max m 1 := by
  by_cases h : (1 : Int) > m
  · rw [if_pos h]; omega
  · rw [if_neg h]; omega
end Cs
namespace Cs
open PySem PySem.Spec PyProof.Rows L2
theorem set3 {α : Type} (σ : List α) (s : Nat) (a b c : α) : (((σ.set s a).set s b).set s c) = σ.set s c := by
  rw [List.set_set, List.set_set]
theorem get_snoc {ys : List V} {v u : V} {j : Nat} (e : (ys ++ [v])[j]? = some u) : (j < ys.length ∧ ys[j]? = some u) ∨ (j = ys.length ∧ u = v) := by
  by_cases h : j < ys.length
  · rw [List.getElem?_append_left h] at e
    exact .inl ⟨h, e⟩
  · rw [List.getElem?_append_right (by omega)] at e
    have q : j - ys.length = 0 := by
      by_cases z : j - ys.length = 0
      · exact z
      · rw [List.getElem?_eq_none (by show 1 ≤ _; omega)] at e
        cases e
    rw [q] at e
    exact .inr ⟨by omega, (Option.some.inj e).symm⟩
section
variable {K : PySem.W.Frag} {a : Addr} {xs : List V} {te : TE} {s : Nat} {σ : L2.St} {H1 : Hp} {D : Addr} {Qd : Hp → Prop}
/-- what holds of a comprehension's list under way: its items so far are as P says -/
def CompSo (P : Nat → V → Hp → Prop) (H1 : Hp) (D : Addr) (i : Nat) (H : Hp) : Prop := Same H1 H ∧ ∃ ys, H D = some (.lst ys) ∧ ys.length = i ∧ ∀ j v, ys[j]? = some v → P j v H
theorem comp_turn {P : Nat → V → Hp → Prop} {i n : Nat} {x : V} {H : Hp} (mono : ∀ i v H H', P i v H → Im H H' → P i v H') (hz : n ≤ sizeLine) (fresh : H1 D = none) (hi : i < n) (so : CompSo P H1 D i H)
    (elt : ∀ H, Same H1 H → ∀ Q' : VK, (∀ v H', Same H H' → P i v H' → Q' v H') → te ((σ.set s none).set s (some x)) H Q') :
    gName s x (wipe σ [s]) H fun σ2 H2 => wipe σ2 [s] = wipe σ [s] ∧ tYes σ2 H2 fun b H3 =>
      if b = true then te σ2 H3 fun y H4 => ∃ acc, H4 D = some (.lst acc) ∧ acc.length < sizeLine ∧ CompSo P H1 D (i + 1) (upd H4 D (.lst (acc ++ [y]))) else CompSo P H1 D (i + 1) H3 := by
  obtain ⟨sm, ys, hD, hlen, hP⟩ := so
  refine ⟨set3 σ s none (some x) none, ?_⟩
  unfold tYes
  dsimp only
  rw [if_pos rfl]
  refine elt H sm _ fun v H' sm' pv => ?_
  have hD' := sm' _ _ hD
  have im2 : Im H' (upd H' D (.lst (ys ++ [v]))) := Im.set hD'
  refine ⟨ys, hD', by omega, fun b o e => by rw [upd_ne (ne_of_none e fresh)]; exact sm' _ _ (sm _ _ e), ys ++ [v], upd_same, by rw [List.length_append, hlen]; rfl, fun j u e => ?_⟩
  rcases get_snoc e with ⟨_, e⟩ | ⟨rfl, rfl⟩
  · exact mono _ _ _ _ (hP j u e) ((Im.same sm').trans im2)
  · rw [hlen]
    exact mono _ _ _ _ pv im2
theorem comp_start {P : Nat → V → Hp → Prop} (fresh : H1 D = none) : CompSo P H1 D 0 (upd H1 D (.lst [])) := ⟨Same.new fresh, [], upd_same, rfl, fun j v e => by simp at e⟩
/-- a comprehension over a list, no test: each element of the new list is what P says; nothing that was tracked changes -/
theorem comp_list (P : Nat → V → Hp → Prop) (mono : ∀ i v H H', P i v H → Im H H' → P i v H') (hl : SqL K H1 a xs) (hz : xs.length ≤ sizeLine) (fresh : H1 D = none)
    (elt : ∀ i x, xs[i]? = some x → ∀ H, Same H1 H → ∀ Q' : VK, (∀ v H', Same H H' → P i v H' → Q' v H') → te ((σ.set s none).set s (some x)) H Q')
    (hd : ∀ H ys, Same H1 H → H D = some (.lst ys) → ys.length = xs.length → (∀ i v, ys[i]? = some v → P i v H) → Qd H) :
    ∃ W : Nat → Nat → Hp → Prop, (∃ m, W 0 m (upd H1 D (.lst []))) ∧ ∀ i m H, W i m H →
      ((Itl K a).stop i H ∧ Qd H) ∨ ((Itl K a).go i H ∧ ∃ Nx : Hp → Prop, (∀ H', Nx H' → ∃ m', m' < m ∧ W (i + 1) m' H') ∧ ∀ x H', (Itl K a).yld i H x H' → gName s x (wipe σ [s]) H' fun σ2 H2 => wipe σ2 [s] = wipe σ [s] ∧ tYes σ2 H2 fun b H3 =>
        if b = true then te σ2 H3 fun y H4 => ∃ acc, H4 D = some (.lst acc) ∧ acc.length < sizeLine ∧ Nx (upd H4 D (.lst (acc ++ [y]))) else Nx H3) :=
  lc_list (K := K) (a := a) (xs := xs) (CompSo P H1 D) (comp_start fresh) (fun i H _ h => h.1.seq hl)
    (fun i x H hx so => comp_turn mono hz fresh (List.getElem?_eq_some_iff.mp hx).1 so (elt i x hx)) fun H ⟨sm, ys, hD, hlen, hP⟩ => hd H ys sm hD hlen hP
theorem comp_tup (P : Nat → V → Hp → Prop) (mono : ∀ i v H H', P i v H → Im H H' → P i v H') (hl : SqT K H1 a xs) (hz : xs.length ≤ sizeLine) (fresh : H1 D = none)
    (elt : ∀ i x, xs[i]? = some x → ∀ H, Same H1 H → ∀ Q' : VK, (∀ v H', Same H H' → P i v H' → Q' v H') → te ((σ.set s none).set s (some x)) H Q')
    (hd : ∀ H ys, Same H1 H → H D = some (.lst ys) → ys.length = xs.length → (∀ i v, ys[i]? = some v → P i v H) → Qd H) :
    ∃ W : Nat → Nat → Hp → Prop, (∃ m, W 0 m (upd H1 D (.lst []))) ∧ ∀ i m H, W i m H →
      ((Itt K a).stop i H ∧ Qd H) ∨ ((Itt K a).go i H ∧ ∃ Nx : Hp → Prop, (∀ H', Nx H' → ∃ m', m' < m ∧ W (i + 1) m' H') ∧ ∀ x H', (Itt K a).yld i H x H' → gName s x (wipe σ [s]) H' fun σ2 H2 => wipe σ2 [s] = wipe σ [s] ∧ tYes σ2 H2 fun b H3 =>
        if b = true then te σ2 H3 fun y H4 => ∃ acc, H4 D = some (.lst acc) ∧ acc.length < sizeLine ∧ Nx (upd H4 D (.lst (acc ++ [y]))) else Nx H3) :=
  lc_tup (K := K) (a := a) (xs := xs) (CompSo P H1 D) (comp_start fresh) (fun i H _ h => (Im.same h.1).sqT hl)
    (fun i x H hx so => comp_turn mono hz fresh (List.getElem?_eq_some_iff.mp hx).1 so (elt i x hx)) fun H ⟨sm, ys, hD, hlen, hP⟩ => hd H ys sm hD hlen hP
end
end Cs

namespace Cs
open PySem PySem.Spec PyProof.Rows L2
theorem eq_map {α : Type} {ys : List V} {rs : List α} {f : α → V} (h1 : ys.length = rs.length) (h2 : ∀ (i : Nat) v, ys[i]? = some v → ∃ r, rs[i]? = some r ∧ v = f r) : ys = rs.map f := by
  refine List.ext_getElem? fun i => ?_
  rw [List.getElem?_map]
  cases e : ys[i]? with
  | none =>
    have : rs[i]? = none := List.getElem?_eq_none_iff.mpr (by have := List.getElem?_eq_none_iff.mp e; omega)
    rw [this]; rfl
  | some v =>
    obtain ⟨r, hr, rfl⟩ := h2 i v e
    rw [hr]; rfl
theorem get_len {α β : Type} {xs : List α} {rs : List β} (h : xs.length = rs.length) {i : Nat} {x : α} (e : xs[i]? = some x) : ∃ r, rs[i]? = some r := by
  have hi := (List.getElem?_eq_some_iff.mp e).1
  exact ⟨rs[i]'(by omega), List.getElem?_eq_getElem (by omega)⟩
section
variable {K : PySem.W.Frag} {a : Addr} {xs : List V} {te : TE} {s : Nat} {σ : L2.St} {H1 : Hp} {D : Addr} {Qd : Hp → Prop} {α : Type}
/-- .. where each element is a value that hangs on the datum alone -/
theorem map_list (rs : List α) (f : α → V) (hl : SqL K H1 a xs) (hz : xs.length ≤ sizeLine) (hlen : xs.length = rs.length) (fresh : H1 D = none)
    (elt : ∀ (i : Nat) x r, xs[i]? = some x → rs[i]? = some r → ∀ H, Same H1 H → ∀ Q' : VK, (∀ H', Same H H' → Q' (f r) H') → te ((σ.set s none).set s (some x)) H Q')
    (hd : ∀ H, Same H1 H → H D = some (.lst (rs.map f)) → Qd H) :
    ∃ W : Nat → Nat → Hp → Prop, (∃ m, W 0 m (upd H1 D (.lst []))) ∧ ∀ i m H, W i m H →
      ((Itl K a).stop i H ∧ Qd H) ∨ ((Itl K a).go i H ∧ ∃ Nx : Hp → Prop, (∀ H', Nx H' → ∃ m', m' < m ∧ W (i + 1) m' H') ∧ ∀ x H', (Itl K a).yld i H x H' → gName s x (wipe σ [s]) H' fun σ2 H2 => wipe σ2 [s] = wipe σ [s] ∧ tYes σ2 H2 fun b H3 =>
        if b = true then te σ2 H3 fun y H4 => ∃ acc, H4 D = some (.lst acc) ∧ acc.length < sizeLine ∧ Nx (upd H4 D (.lst (acc ++ [y]))) else Nx H3) :=
  comp_list (K := K) (a := a) (fun i v _ => ∃ r, rs[i]? = some r ∧ v = f r) (fun _ _ _ _ h _ => h) hl hz fresh
    (fun i x hx H sm Q' hQ => by
      obtain ⟨r, hr⟩ := get_len hlen hx
      exact elt i x r hx hr H sm Q' fun H' sm' => hQ _ H' sm' ⟨r, hr, rfl⟩)
    fun H ys sm hD hl2 hP => hd H sm (by rw [← eq_map (hl2.trans hlen) hP]; exact hD)
theorem map_tup (rs : List α) (f : α → V) (hl : SqT K H1 a xs) (hz : xs.length ≤ sizeLine) (hlen : xs.length = rs.length) (fresh : H1 D = none)
    (elt : ∀ (i : Nat) x r, xs[i]? = some x → rs[i]? = some r → ∀ H, Same H1 H → ∀ Q' : VK, (∀ H', Same H H' → Q' (f r) H') → te ((σ.set s none).set s (some x)) H Q')
    (hd : ∀ H, Same H1 H → H D = some (.lst (rs.map f)) → Qd H) :
    ∃ W : Nat → Nat → Hp → Prop, (∃ m, W 0 m (upd H1 D (.lst []))) ∧ ∀ i m H, W i m H →
      ((Itt K a).stop i H ∧ Qd H) ∨ ((Itt K a).go i H ∧ ∃ Nx : Hp → Prop, (∀ H', Nx H' → ∃ m', m' < m ∧ W (i + 1) m' H') ∧ ∀ x H', (Itt K a).yld i H x H' → gName s x (wipe σ [s]) H' fun σ2 H2 => wipe σ2 [s] = wipe σ [s] ∧ tYes σ2 H2 fun b H3 =>
        if b = true then te σ2 H3 fun y H4 => ∃ acc, H4 D = some (.lst acc) ∧ acc.length < sizeLine ∧ Nx (upd H4 D (.lst (acc ++ [y]))) else Nx H3) :=
  comp_tup (K := K) (a := a) (fun i v _ => ∃ r, rs[i]? = some r ∧ v = f r) (fun _ _ _ _ h _ => h) hl hz fresh
    (fun i x hx H sm Q' hQ => by
      obtain ⟨r, hr⟩ := get_len hlen hx
      exact elt i x r hx hr H sm Q' fun H' sm' => hQ _ H' sm' ⟨r, hr, rfl⟩)
    fun H ys sm hD hl2 hP => hd H sm (by rw [← eq_map (hl2.trans hlen) hP]; exact hD)
end
/-! ### rectangles -/
structure R where
  l : Int
  t : Int
  w : Int
  h : Int
  deriving DecidableEq
def R.vs (r : R) : List V := [.int r.l, .int r.t, .int r.w, .int r.h]
def R.es (r : R) : List V := [.int r.l, .int r.t, .int (r.l + r.w), .int (r.t + r.h)]
/-- v is the rectangle r -/
def Rc (K : PySem.W.Frag) (H : Hp) (v : V) (r : R) : Prop := ∃ a, v = .ref a ∧ SqT K H a r.vs
theorem Rc.im {K : PySem.W.Frag} {H H' : Hp} {v : V} {r : R} (h : Rc K H v r) (e : Im H H') : Rc K H' v r := let ⟨a, h1, h2⟩ := h; ⟨a, h1, e.sqT h2⟩
theorem Rc.same {K : PySem.W.Frag} {H H' : Hp} {v : V} {r : R} (h : Rc K H v r) (e : Same H H') : Rc K H' v r := h.im (Im.same e)
/-- xs are the rectangles rs -/
structure Rcs (K : PySem.W.Frag) (H : Hp) (xs : List V) (rs : List R) : Prop where
  len : xs.length = rs.length
  at_ : ∀ (i : Nat) (x : V) (r : R), xs[i]? = some x → rs[i]? = some r → Rc K H x r
theorem Rcs.im {K : PySem.W.Frag} {H H' : Hp} {xs : List V} {rs : List R} (h : Rcs K H xs rs) (e : Im H H') : Rcs K H' xs rs := ⟨h.len, fun i x r h1 h2 => (h.at_ i x r h1 h2).im e⟩
theorem Rcs.nil {K : PySem.W.Frag} {H : Hp} : Rcs K H [] [] := ⟨rfl, fun i x r h => by simp at h⟩
theorem Rcs.snoc {K : PySem.W.Frag} {H : Hp} {xs : List V} {rs : List R} {x : V} {r : R} (h : Rcs K H xs rs) (q : Rc K H x r) : Rcs K H (xs ++ [x]) (rs ++ [r]) := by
  refine ⟨by rw [List.length_append, List.length_append, h.len]; rfl, fun i y s h1 h2 => ?_⟩
  rcases get_snoc h1 with ⟨hi, h1⟩ | ⟨rfl, rfl⟩
  · rw [List.getElem?_append_left (by rw [← h.len]; exact hi)] at h2
    exact h.at_ i y s h1 h2
  · rw [h.len, List.getElem?_append_right (Nat.le_refl _), Nat.sub_self] at h2
    cases (Option.some.inj h2)
    exact q
theorem Rcs.take {K : PySem.W.Frag} {H : Hp} {xs : List V} {rs : List R} (h : Rcs K H xs rs) (n : Nat) : Rcs K H (xs.take n) (rs.take n) := by
  refine ⟨by rw [List.length_take, List.length_take, h.len], fun i y s h1 h2 => ?_⟩
  rw [List.getElem?_take] at h1 h2
  split at h1
  · rw [if_pos (by assumption)] at h2
    exact h.at_ i y s h1 h2
  · cases h1
theorem Rcs.drop {K : PySem.W.Frag} {H : Hp} {xs : List V} {rs : List R} (h : Rcs K H xs rs) (n : Nat) : Rcs K H (xs.drop n) (rs.drop n) := by
  refine ⟨by rw [List.length_drop, List.length_drop, h.len], fun i y s h1 h2 => ?_⟩
  rw [List.getElem?_drop] at h1 h2
  exact h.at_ _ y s h1 h2
theorem Rcs.reverse {K : PySem.W.Frag} {H : Hp} {xs : List V} {rs : List R} (h : Rcs K H xs rs) : Rcs K H xs.reverse rs.reverse := by
  refine ⟨by rw [List.length_reverse, List.length_reverse, h.len], fun i y s h1 h2 => ?_⟩
  have hi : i < xs.length := by have := (List.getElem?_eq_some_iff.mp h1).1; rw [List.length_reverse] at this; exact this
  rw [List.getElem?_reverse hi] at h1
  rw [List.getElem?_reverse (by rw [← h.len]; exact hi), ← h.len] at h2
  exact h.at_ _ y s h1 h2
end Cs

set_option maxRecDepth 100000
set_option maxHeartbeats 4000000
/-! rules with the written part named, so that they stand within comprehensions too -/
namespace Cs
open PySem PySem.Spec PyProof.Rows L2
section
variable {X : Cx} {a b e : Expr} {ta tb te : TE} {pos : Pos}
theorem ixL (K : PySem.W.Frag) (h : X.K = K := by rfl) : IxR X (rIxL K) := h ▸ ix_list
theorem ixT (K : PySem.W.Frag) (h : X.K = K := by rfl) : IxR X (rIxT K) := h ▸ ix_tup
theorem slL (K : PySem.W.Frag) (h : X.K = K := by rfl) : SlR X (rSlL K) := h ▸ sl_list
theorem slT (K : PySem.W.Frag) (h : X.K = K := by rfl) : SlR X (rSlA K) := h ▸ sl_tupA
theorem eqK (K : PySem.W.Frag) (hu : X.A.units + 64 < cLine) (h : X.K = K := by rfl) : OpR X (compareOp .Eq) (rEqD K) := h ▸ op_eqD hu
theorem neK (K : PySem.W.Frag) (hu : X.A.units + 64 < cLine) (h : X.K = K := by rfl) : OpR X (compareOp .NotEq) (rNeD K) := h ▸ op_neD hu
theorem catT (K : PySem.W.Frag) (h : X.K = K := by rfl) : OpR X (binaryOp .Add) (rCatA K) := h ▸ op_catA
def rLen (K : PySem.W.Frag) : List V → Hp → VK → Prop := fun xs H Q => ∃ x n, xs = [x] ∧ LenV K x H n ∧ Q (.int n) H
theorem lenK (K : PySem.W.Frag) (h : X.K = K := by rfl) : CallR X (.builtin "len") (rLen K) := h ▸ call_len
def rListOf (K : PySem.W.Frag) : List V → Hp → VK → Prop := fun xs H Q => ∃ p ys, xs = [.ref p] ∧ (SqL K H p ys ∨ SqT K H p ys) ∧ ∀ l, H l = none → Q (.ref l) (upd H l (.lst ys))
theorem listK (K : PySem.W.Frag) (h : X.K = K := by rfl) : CallR X (.type "list") (rListOf K) := h ▸ call_list_of
def rTupOf (K : PySem.W.Frag) : List V → Hp → VK → Prop := fun xs H Q => ∃ p ys, xs = [.ref p] ∧ ((SqL K H p ys ∧ ∀ l, H l = none → Q (.ref l) (upd H l (.tup ys))) ∨ (SqT K H p ys ∧ Q (.ref p) H))
theorem tupK (K : PySem.W.Frag) (h : X.K = K := by rfl) : CallR X (.type "tuple") (rTupOf K) := h ▸ call_tuple_of
theorem reprK (K : PySem.W.Frag) (hu : X.A.units + 64 < cLine) (hg : X.A.guards = some []) (h : X.K = K := by rfl) : CallR X (.builtin "repr") (rRepr K) := h ▸ call_repr hu hg
theorem minK (K : PySem.W.Frag) (hc : X.calm = true) (h : X.K = K := by rfl) : CallR X (.builtin "min") (rMin K) := h ▸ cr_min hc
theorem maxK (K : PySem.W.Frag) (hc : X.calm = true) (h : X.K = K := by rfl) : CallR X (.builtin "max") (rMax K) := h ▸ cr_max hc
theorem sumK (K : PySem.W.Frag) (hc : X.calm = true) (h : X.K = K := by rfl) : CallR X (.builtin "sum") (rSum K) := h ▸ cr_sum hc
/-- a test by truth -/
def tTru (K : PySem.W.Frag) (ta : TE) : TT := fun σ H Q => ta σ H fun x H' => ∃ k, TruV K x H' k ∧ Q k H'
theorem truK (K : PySem.W.Frag) (ha : PE X a ta) (he : ∀ whole, isTrue a X.env whole = (do let v ← whole; standAt a.pos; holding [v] (truthy v)) := by intro _; rfl) (h : X.K = K := by rfl) : PT X a (tTru K ta) := h ▸ pt_truth ha he
end
theorem atI_mem {α : Type} {xs : List α} {v : Int} (h0 : 0 ≤ v) (h1 : v < xs.length) : ∃ z, atI xs v = some z ∧ xs[v.toNat]? = some z ∧ z ∈ xs := by
  obtain ⟨j, rfl⟩ : ∃ j : Nat, v = (j : Int) := ⟨v.toNat, by omega⟩
  have hj : j < xs.length := by omega
  have e : xs[j]? = some xs[j] := List.getElem?_eq_getElem hj
  exact ⟨xs[j], atI_nat e, by rw [Int.toNat_natCast]; exact e, List.getElem_mem hj⟩
/-! the slots as a written list -/
theorem gset {i : Nat} {v : V} {σ σ' : L2.St} {H : Hp} {Q : L2.St → Hp → Prop} (e : σ.set i (some v) = σ') (h : Q σ' H) : gName i v σ H Q := by
  subst e
  exact h
theorem set_0 {α : Type} {a b : α} {l : List α} : (a :: l).set 0 b = b :: l := rfl
theorem set_s {α : Type} {a b : α} {l l' : List α} {n : Nat} (h : l.set n b = l') : (a :: l).set (n + 1) b = a :: l' := by
  subst h
  rfl
def tPar2 (i j : Nat) (ta : TA) : TS := fun D σ H => ta σ H fun vs H1 => ∃ v w, vs = [v, w] ∧ gName i v σ H1 fun σ' H' => gName j w σ' H' D.nx
theorem par2 {X : Cx} {i j : Nat} {st : Stmt} {ta : TA} (h : PS X st (tPar i j ta)) : PS X st (tPar2 i j ta) := h
theorem at_start {N : List Str} {vs : List V} {σ : L2.St} {t : TS} {D : Ends} {H : Hp} (e : L2.start N vs = σ) (h : t D σ H) : t D (L2.start N vs) H := by
  subst e
  exact h
theorem rep_0 {α : Type} {a : α} : List.replicate 0 a = [] := rfl
theorem rep_s {α : Type} {a : α} {k : Nat} {l : List α} (h : List.replicate k a = l) : List.replicate (k + 1) a = a :: l := by
  subst h
  rfl
theorem app_nil {α : Type} {r l : List (Option α)} (h : r = l) : ([] : List α).map some ++ r = l := h
theorem app_cons {α : Type} {v : α} {vs : List α} {r l : List (Option α)} (h : vs.map some ++ r = l) : (v :: vs).map some ++ r = some v :: l := by
  subst h
  rfl
theorem st_of {N : List Str} {vs : List V} {k : Nat} {σ : L2.St} (h : N.length - vs.length = k) (e : vs.map some ++ List.replicate k none = σ) : L2.start N vs = σ := by
  subst h
  exact e
theorem cut_to {xs : List V} {k : Int} (h : 0 ≤ k) : cutV xs none (some k) = xs.take k.toNat := by
  obtain ⟨j, rfl⟩ : ∃ j : Nat, k = (j : Int) := ⟨k.toNat, by omega⟩
  unfold cutV
  rw [HT.sIx_none, HT.sIx_nat, List.drop_zero, Nat.sub_zero, Int.toNat_natCast]
  by_cases h : j ≤ xs.length
  · rw [Nat.min_eq_left h]
  · rw [Nat.min_eq_right (by omega), List.take_length, List.take_of_length_le (by omega)]
theorem cut_from {xs : List V} {k : Int} (h : 0 ≤ k) : cutV xs (some k) none = xs.drop k.toNat := by
  obtain ⟨j, rfl⟩ : ∃ j : Nat, k = (j : Int) := ⟨k.toNat, by omega⟩
  unfold cutV
  rw [HT.sIx_none, HT.sIx_nat, Int.toNat_natCast]
  by_cases h : j ≤ xs.length
  · rw [Nat.min_eq_left h, List.take_of_length_le (by rw [List.length_drop]; omega)]
  · rw [Nat.min_eq_right (by omega), List.drop_of_length_le (Nat.le_refl _), List.drop_of_length_le (by omega), List.take_nil]
theorem Al.at_ {t b : Addr} {H H' : Hp} {o : HO} (a : Al t H H') (n : b ≠ t) (h : H b = some o) : H' b = some o := by rw [a b n]; exact h
theorem Al.none_ {t b : Addr} {H H' : Hp} (a : Al t H H') (n : b ≠ t) (h : H b = none) : H' b = none := by rw [a b n]; exact h
end Cs

set_option maxRecDepth 100000
set_option maxHeartbeats 4000000
/-! how long the text of data may get -/
namespace Cs
open PySem PySem.Spec PyProof.Rows L2
def smallStr (x : Str) : Bool := x.cps.toList.all fun c => decide (c < 16 ^ 8)
theorem smallStr_all {x : Str} (h : smallStr x = true) : ∀ c ∈ x.cps.toList, c < 16 ^ 8 := fun c hc => of_decide_eq_true (List.all_eq_true.mp h c hc)
mutual
/-- no dicts, ints below 2 ^ 1920, texts of codes that can be shown -/
def plainD : PyData → Bool
  | .none => true
  | .bool _ => true
  | .int i => decide (i.natAbs.log2 < 1920)
  | .str x => smallStr x
  | .list xs => plainAll xs
  | .tuple xs => plainAll xs
  | .dict _ => false
def plainAll : List PyData → Bool
  | [] => true
  | x :: xs => plainD x && plainAll xs
end
mutual
def cost : PyData → Nat
  | .none => 4
  | .bool _ => 5
  | .int _ => 1921
  | .str x => 10 * x.length + 2
  | .list xs => costAll xs + 2
  | .tuple xs => costAll xs + 2
  | .dict _ => 0
def costAll : List PyData → Nat
  | [] => 0
  | x :: xs => cost x + 2 + costAll xs
end
theorem list_text (ts : List Str) : (listText ts).length ≤ piled ts + 2 := by
  cases ts with
  | nil => decide +kernel
  | cons t r =>
    have e1 : (listText (t :: r)).length = (textFrom 0 "[" (t :: r)).length + 1 := by
      show (textFrom 0 "[" (t :: r) ++ "]").length = _
      rw [strLen_append]; rfl
    have e2 : (textFrom 0 "[" (t :: r)).length = (textFrom 1 (("[" : Str) ++ (if (0 : Nat) > 0 then ", " else "" : String) ++ t) r).length := rfl
    have e3 : ((("[" : Str) ++ (if (0 : Nat) > 0 then ", " else "" : String) ++ t)).length = 1 + t.length := by
      rw [strLen_append, strLen_append]; rfl
    have h := textFrom_length_pos r 1 (("[" : Str) ++ (if (0 : Nat) > 0 then ", " else "" : String) ++ t) (Nat.succ_pos 0)
    rw [piled_cons]
    omega
mutual
theorem plain_shows : ∀ d : PyData, plainD d = true → d.showable = true ∧ d.hasDict = false ∧ d.shown.length ≤ cost d
  | .none, _ => ⟨by simp only [PyData.showable], by simp only [PyData.hasDict], by simp only [PyData.shown, cost]; decide +kernel⟩
  | .bool b, _ => ⟨by simp only [PyData.showable], by simp only [PyData.hasDict], by simp only [PyData.shown, cost]; cases b <;> decide +kernel⟩
  | .int i, h => by
    simp only [plainD] at h
    exact ⟨by simp only [PyData.showable]; exact h, by simp only [PyData.hasDict], by simp only [PyData.shown, cost]; exact int_text_len_1921 (of_decide_eq_true h)⟩
  | .str x, h => by
    simp only [plainD] at h
    exact ⟨by simp only [PyData.showable], by simp only [PyData.hasDict], by simp only [PyData.shown, cost]; exact StrLaws.reprText_len x (smallStr_all h)⟩
  | .list xs, h => by
    simp only [plainD] at h
    obtain ⟨h1, h2, h3⟩ := plain_showsAll xs h
    refine ⟨by simp only [PyData.showable]; exact h1, by simp only [PyData.hasDict]; exact h2, ?_⟩
    simp only [PyData.shown, cost]
    have := list_text (PyData.shownAll xs)
    omega
  | .tuple xs, h => by
    simp only [plainD] at h
    obtain ⟨h1, h2, h3⟩ := plain_showsAll xs h
    refine ⟨by simp only [PyData.showable]; exact h1, by simp only [PyData.hasDict]; exact h2, ?_⟩
    simp only [PyData.shown, cost]
    have := fmt_text (PyData.shownAll xs)
    omega
  | .dict _, h => by simp [plainD] at h
theorem plain_showsAll : ∀ xs : List PyData, plainAll xs = true → PyData.showableAll xs = true ∧ PyData.hasDictAll xs = false ∧ piled (PyData.shownAll xs) ≤ costAll xs
  | [], _ => ⟨by simp only [PyData.showableAll], by simp only [PyData.hasDictAll], by simp only [PyData.shownAll, costAll]; exact Nat.le_refl _⟩
  | x :: xs, h => by
    simp only [plainAll, Bool.and_eq_true] at h
    obtain ⟨a1, a2, a3⟩ := plain_shows x h.1
    obtain ⟨b1, b2, b3⟩ := plain_showsAll xs h.2
    refine ⟨by simp only [PyData.showableAll, a1, b1, Bool.and_self], by simp only [PyData.hasDictAll, a2, b2, Bool.or_self], ?_⟩
    simp only [PyData.shownAll, costAll, piled_cons]
    omega
end
/-- what repr asks of data -/
def RepOk (d : PyData) : Prop := plainD d = true ∧ d.depth ≤ 40 ∧ cost d ≤ sizeLine
theorem repr_go {K : PySem.W.Frag} {x : V} {d : PyData} {H : Hp} {Q : VK} (hd : Dp K H x d) (ok : RepOk d) (q : Q (.str d.shown) H) : rRepr K [x] H Q := by
  obtain ⟨h1, h2, h3⟩ := plain_shows d ok.1
  exact ⟨x, d, rfl, hd, h1, h2, ok.2.1, Nat.le_trans h3 ok.2.2, q⟩
theorem RepOk.sh {d : PyData} (ok : RepOk d) : d.showable = true := (plain_shows d ok.1).1
theorem RepOk.nd {d : PyData} (ok : RepOk d) : d.hasDict = false := (plain_shows d ok.1).2.1
theorem RepOk.dp {d : PyData} (ok : RepOk d) : d.depth ≤ 40 := ok.2.1
theorem RepOk.sz {d : PyData} (ok : RepOk d) : d.shown.length ≤ sizeLine := Nat.le_trans (plain_shows d ok.1).2.2 ok.2.2
theorem small_int {i : Int} (h1 : -1000000000000000000000000000000 ≤ i) (h2 : i ≤ 1000000000000000000000000000000) : plainD (.int i) = true := by
  simp only [plainD]
  refine decide_eq_true ?_
  by_cases h : i.natAbs = 0
  · rw [h]; decide
  · refine (Nat.log2_lt h).mpr ?_
    have : i.natAbs ≤ 1000000000000000000000000000000 := by omega
    exact Nat.lt_of_le_of_lt this (by decide)
/-- the rectangle as data -/
def R.d (r : R) : PyData := .tuple [.int r.l, .int r.t, .int r.w, .int r.h]
theorem Rc.dp {K : PySem.W.Frag} {H : Hp} {v : V} {r : R} (h : Rc K H v r) : Dp K H v r.d := by
  obtain ⟨a, rfl, h⟩ := h
  exact .tup h (.cons (.int _) (.cons (.int _) (.cons (.int _) (.cons (.int _) .nil))))
theorem R.rep {r : R} (h : ∀ z ∈ [r.l, r.t, r.w, r.h], -1000000000000000000000000000000 ≤ z ∧ z ≤ 1000000000000000000000000000000) : RepOk r.d := by
  refine ⟨?_, by simp [R.d, PyData.depth, PyData.depthAll], ?_⟩
  · have p : ∀ z ∈ [r.l, r.t, r.w, r.h], plainD (.int z) = true := fun z hz => small_int (h z hz).1 (h z hz).2
    simp only [R.d, plainD, plainAll, Bool.and_true, Bool.and_eq_true] at *
    exact ⟨p _ (by simp), p _ (by simp), p _ (by simp), p _ (by simp)⟩
  · simp only [R.d, cost, costAll]
    decide
end Cs

set_option maxRecDepth 100000
set_option maxHeartbeats 4000000
/-! rectangles: the plain functions, and what the program's functions promise of them -/
namespace Cs
open PySem PySem.Spec PyProof.Rows L2
def has (r : R) (x y : Int) : Bool := (decide (r.l ≤ x) && decide (x < r.l + r.w)) && (decide (r.t ≤ y) && decide (y < r.t + r.h))
def In (a b : R) : Bool := decide (b.l ≤ a.l) && (decide (b.t ≤ a.t) && (decide (a.l + a.w ≤ b.l + b.w) && decide (a.t + a.h ≤ b.t + b.h)))
def com (a b : R) : Option R :=
  if max a.l b.l < min (a.l + a.w) (b.l + b.w) ∧ max a.t b.t < min (a.t + a.h) (b.t + b.h) then
    some ⟨max a.l b.l, max a.t b.t, min (a.l + a.w) (b.l + b.w) - max a.l b.l, min (a.t + a.h) (b.t + b.h) - max a.t b.t⟩
  else none
theorem com_comm (a b : R) : com a b = com b a := by
  unfold com
  rw [Int.max_comm a.l b.l, Int.max_comm a.t b.t, Int.min_comm (a.l + a.w), Int.min_comm (a.t + a.h)]
theorem max_if (i j : Int) : (if j > i then j else i) = max i j := by split <;> omega
theorem min_if (i j : Int) : (if j < i then j else i) = min i j := by split <;> omega
/-- v is None or the rectangle o -/
def OptR (K : PySem.W.Frag) (H : Hp) (v : V) : Option R → Prop
  | none => v = .non
  | some r => Rc K H v r
theorem OptR.im {K : PySem.W.Frag} {H H' : Hp} {v : V} {o : Option R} (h : OptR K H v o) (e : Im H H') : OptR K H' v o := by
  cases o with
  | none => exact h
  | some r => exact Rc.im h e
theorem OptR.same {K : PySem.W.Frag} {H H' : Hp} {v : V} {o : Option R} (h : OptR K H v o) (e : Same H H') : OptR K H' v o := h.im (Im.same e)
theorem OptR.isN {K : PySem.W.Frag} {H : Hp} {v : V} {o : Option R} (h : OptR K H v o) : decide (v = .non) = o.isNone := by
  cases o with
  | none => cases h; rfl
  | some r => obtain ⟨a, rfl, _⟩ := h; rfl
def odata : Option R → PyData
  | none => .none
  | some r => r.d
theorem OptR.dp {K : PySem.W.Frag} {H : Hp} {v : V} {o : Option R} (h : OptR K H v o) : Dp K H v (odata o) := by
  cases o with
  | none => cases h; exact .non
  | some r => exact Rc.dp h
theorem none_rep : RepOk .none := ⟨rfl, by simp [PyData.depth], by simp only [cost]; decide⟩
def sp_edges (K : PySem.W.Frag) : Sp := fun vs H Q _ => ∃ (v : V) (r : R), vs = [v] ∧ Rc K H v r ∧ ∀ p, H p = none → Q (.ref p) (upd H p (.tup r.es))
def sp_inside (K : PySem.W.Frag) : Sp := fun vs H Q _ => ∃ (u v : V) (a b : R), vs = [u, v] ∧ Rc K H u a ∧ Rc K H v b ∧ ∀ H', Same H H' → Q (.bl (In a b)) H'
def sp_contains (K : PySem.W.Frag) : Sp := fun vs H Q _ => ∃ (v : V) (r : R) (x y : Int), vs = [v, .int x, .int y] ∧ Rc K H v r ∧ Q (.bl (has r x y)) H
def sp_common (K : PySem.W.Frag) : Sp := fun vs H Q _ => ∃ (u v : V) (a b : R), vs = [u, v] ∧ Rc K H u a ∧ Rc K H v b ∧ ∀ x H', Same H H' → OptR K H' x (com a b) → Q x H'
def sp_overlap (K : PySem.W.Frag) : Sp := fun vs H Q _ => ∃ (u v : V) (a b : R), vs = [u, v] ∧ Rc K H u a ∧ Rc K H v b ∧ ∀ H', Same H H' → Q (.bl (com a b).isSome) H'
def spLaw (K : PySem.W.Frag) : Sp := fun vs H Q _ => ∃ (a : Addr) (ns : List Int), vs = [.ref a] ∧ SqL K H a (ns.map V.int) ∧ ns.length ≤ 63 ∧ ∀ H', Q (.bl true) H'
theorem law_start (K : PySem.W.Frag) (H : Hp) (a : Addr) (ns : List Int) (h1 : ns.length ≤ 63) (h2 : SqL K H a (ns.map V.int)) : spLaw K [.ref a] H (fun v _ => v = .bl true) E0 := ⟨a, ns, rfl, h2, h1, fun _ => rfl⟩
end Cs

set_option maxRecDepth 100000
set_option maxHeartbeats 4000000
/-! texts as lists of codes; a written dict asked by get; comprehensions and loops over a text -/
namespace Cs
open PySem PySem.Spec PyProof.Rows L2
/-- the text of the codes l -/
def S (l : List Nat) : Str := ⟨l.toArray⟩
theorem S_len (l : List Nat) : (S l).length = l.length := by simp [S, Str.length]
theorem S_codes (l : List Nat) : (S l).cps.toList = l := by simp [S]
theorem S_app (l m : List Nat) : S l ++ S m = S (l ++ m) := by
  show Str.mk (l.toArray ++ m.toArray) = Str.mk (l ++ m).toArray
  rw [List.append_toArray]
theorem S_inj {l m : List Nat} (h : S l = S m) : l = m := by
  have := congrArg (fun x : Str => x.cps.toList) h
  simpa [S] using this
theorem S_of (x : Str) : ∃ l, x = S l := ⟨x.cps.toList, by cases x; simp [S]⟩
theorem S_eq {l : List Nat} {x : Str} (h : x.cps.toList = l) : x = S l := by
  subst h
  cases x
  simp [S]
theorem S_at {l : List Nat} {i : Nat} {c : Nat} (h : (S l).cps[i]? = some c) : l[i]? = some c := by
  have : (S l).cps.toList[i]? = some c := by rw [Array.getElem?_toList]; exact h
  rwa [S_codes] at this
/-- text * int -/
def rMulS : R2 := fun x y H Q => ∃ (l : List Nat) (k : Int), x = .str (S l) ∧ y = .int k ∧ 1 ≤ k ∧ l.length * k.toNat ≤ 100000 ∧ k ≤ 100000 ∧ Q (.str (S (List.replicate k.toNat l).flatten)) H
theorem fold_cat : ∀ (n : Nat) (acc l : List Nat), (List.replicate n l.toArray).foldl (· ++ ·) acc.toArray = (acc ++ (List.replicate n l).flatten).toArray
  | 0, acc, l => by simp
  | n + 1, acc, l => by
    rw [List.replicate_succ, List.foldl_cons, List.append_toArray, fold_cat n (acc ++ l) l, List.replicate_succ, List.flatten_cons, List.append_assoc]
theorem op_mul_str {X : Cx} : OpR X (binaryOp .Mult) rMulS := by
  intro pins s σ H x y v u Q I rx ry h
  obtain ⟨l, k, rfl, rfl, k1, k2, k3, q⟩ := h
  obtain ⟨t, rfl⟩ := rx
  obtain ⟨t', rfl⟩ := ry
  have hz : sizeLine = 16777216 := by decide
  refine SB.mul (x := S l) ⟨by simp; omega, fun _ _ h => ?_, fun _ _ => ?_⟩ fun t' n => ⟨.str (Txt.mul (S l) k), H, I.tok _, ⟨_, rfl⟩, ?_⟩
  · rw [S_len] at h
    have hl : (l.length : Int) ≤ 100000 := by
      have : l.length * 1 ≤ l.length * k.toNat := Nat.mul_le_mul_left _ (by omega)
      omega
    have : (2 ^ 63 - 1 : Int) / 100000 ≤ (2 ^ 63 - 1) / k := by
      refine Int.le_ediv_of_mul_le (by omega) ?_
      have : (2 ^ 63 - 1 : Int) / 100000 * k ≤ (2 ^ 63 - 1 : Int) / 100000 * 100000 := Int.mul_le_mul_of_nonneg_left k3 (by decide)
      exact Int.le_trans this (by decide)
    have : (100000 : Int) ≤ (2 ^ 63 - 1 : Int) / 100000 := by decide
    omega
  · rw [S_len]
    show decide (l.length * k.toNat > sizeLine) = false
    exact decide_eq_false (by omega)
  · have e : Txt.mul (S l) k = S (List.replicate k.toNat l).flatten := by
      unfold Txt.mul
      rw [if_neg (by omega)]
      by_cases h1 : (k == 1 || (S l).length == 0) = true
      · rw [if_pos h1]
        rcases Bool.or_eq_true _ _ ▸ h1 with h | h
        · have : k = 1 := by simpa using h
          subst this
          show S l = S (List.replicate 1 l).flatten
          simp
        · rw [S_len] at h
          have : l = [] := by simpa using h
          subst this
          simp
      · rw [if_neg h1]
        have := fold_cat k.toNat [] l
        show Str.mk _ = Str.mk _
        rw [show (S l).cps = l.toArray from rfl]
        simpa using this
    rw [e]
    exact q
section
variable {X : Cx} {o e f : Expr} {apos cpos : Pos} {td ty tx : TE}
/-- d.get(x, z) of a written dict: r says what it holds at the text -/
def tWGet (K : PySem.W.Frag) (w : World) (ty tx : TE) (d : Addr) : TE := fun σ H Q => ty σ H fun y H2 => tx σ H2 fun z H3 => ∃ (x : Str) (es : Array DictEntry) (n : Nat), y = .str x ∧ KDict K w d es n ∧
  ((∃ u v, findBy Value.isStrOf es x = some u ∧ RelV v u ∧ Q v H3) ∨ (findBy Value.isStrOf es x = none ∧ Q z H3))
theorem pe_wget {d : Addr} {x : Str} {pos : Pos} (hg : Gl X x) (hm : X.mg x = some (.ref d)) (D : ∃ es n, KDict X.K X.w d es n) (he : PE X e ty) (hf : PE X f tx) (m : M2 X (.Name x pos) "get" apos e f cpos) (hd : (x == ("__debug__" : Str)) = false := by decide) :
    PE X (.Call (.Attribute (.Name x pos) "get" apos) [e, f] [] cpos) (tWGet X.K X.w ty tx d) := by
  refine ⟨fun pins s σ H Q I h => ?_⟩
  obtain ⟨es, n, D⟩ := D
  refine wpAny_Call_method m.base m.few m.line PySem.F.plainAttrs_dict PySem.F.slot_dict_get PySem.F.type_dict_get (thn ((pe_glob (X := X) (v := .ref d) hg hm rfl hd).run pins s σ H (fun v H' => v = .ref d ∧ H' = H) I ⟨rfl, rfl⟩) fun u s1 ⟨v, H1, I1, rx, e1, e2⟩ => ?_)
  subst e1
  subst e2
  obtain rfl : u = Value.ref d := rx
  have hm0 := PySem.W.mapOf_K (prog := X.prog) (w := X.w) I1.kIn D.at_ D.lit
  refine ⟨hm0.typeIs, fun b eb => ?_, ?_⟩
  · cases eb
    exact ⟨_, I1.kIn _ _ D.at_, rfl⟩
  rw [m.trees]
  refine Calls.callWith_builtin rfl (Calls.evalArgs_plain (Calls.spliced_cons (thn (he.run pins s1 σ H1 _ I1 h) fun iv s2 ⟨y, H2, I2, ry, q2⟩ => Calls.spliced_cons (thn (hf.run pins s2 σ H2 _ I2 q2) fun fv s3 ⟨z, H3, I3, rz, q3⟩ => Calls.spliced_nil ?_))))
  obtain ⟨x0, es', n', ey, D', q⟩ := q3
  subst ey
  obtain ⟨t, rfl⟩ := (show ∃ t, iv = Value.str x0 t from ry)
  have hm3 := PySem.W.mapOf_K (prog := X.prog) (w := X.w) I3.kIn D'.at_ D'.lit
  refine call_meetsIn PySem.F.slot_dict_get hm3.typeIs PySem.F.entry_dict_get (PySem.F.args_dict_get_3 _ _ _) (meets_dict_get_default (strKind X.prog X.w) d (strKind_is X.prog X.w x0 t) D'.low fv) ⟨_, hm3, ?_⟩
  rcases q with ⟨u0, v0, hq, rv, q⟩ | ⟨hq, q⟩
  · rw [hq]
    exact ⟨v0, H3, I3.tok _, rv, q⟩
  · rw [hq]
    exact ⟨z, H3, I3.tok _, rz, q⟩
/-- a module's number, whatever token it bears -/
theorem pe_globI {x : Str} {i : Int} {pos : Pos} (hg : Gl X x) (hm : ∃ t, X.mg x = some (.int i t)) (hd : (x == ("__debug__" : Str)) = false := by decide) : PE X (.Name x pos) (tC (.int i)) := by
  obtain ⟨t, hm⟩ := hm
  exact pe_glob hg hm ⟨t, rfl⟩ hd
end
section
variable {K : PySem.W.Frag} {l : List Nat} {te : TE} {g : TG} {tb : TS} {s : Nat} {σ : L2.St} {H H1 : Hp} {D : Addr} {Qd : Hp → Prop} {En : Ends}
theorem for_text (Pv : Nat → L2.St → Hp → Prop) (h0 : Pv 0 σ H)
    (hs : ∀ (i : Nat) c σ H, l[i]? = some c → Pv i σ H → g (.str (S [c])) σ H fun σ2 H2 => tb { En with nx := Pv (i + 1), ct := Pv (i + 1), bk := En.nx } σ2 H2) (hd : ∀ σ H, Pv l.length σ H → En.nx σ H) :
    ∃ W : Nat → Nat → L2.St → Hp → Prop, (∃ m, W 0 m σ H) ∧ ∀ i m σ H, W i m σ H →
      ((Its (S l)).stop i H ∧ En.nx σ H) ∨ ((Its (S l)).go i H ∧ ∃ N : L2.St → Hp → Prop, (∀ σ' H', N σ' H' → ∃ m', m' < m ∧ W (i + 1) m' σ' H') ∧ ∀ x H', (Its (S l)).yld i H x H' → g x σ H' fun σ2 H2 => tb { En with nx := N, ct := N, bk := En.nx } σ2 H2) := by
  have sz : (S l).cps.size = l.length := by simp [S]
  refine ⟨fun i m σ H => m = l.length - i ∧ i ≤ l.length ∧ Pv i σ H, ⟨l.length, by simp, Nat.zero_le _, h0⟩, ?_⟩
  rintro i m σ H ⟨rfl, hi, p⟩
  by_cases hlt : i < l.length
  · refine .inr ⟨by show i < (S l).cps.size; omega, Pv (i + 1), fun σ' H' p' => ⟨l.length - (i + 1), by omega, rfl, hlt, p'⟩, fun x H' y => ?_⟩
    obtain ⟨e, c, hc, ex⟩ := y
    subst e
    subst ex
    exact hs i c σ _ (S_at hc) p
  · have e : i = l.length := by omega
    subst e
    exact .inl ⟨by show (S l).cps.size ≤ _; omega, hd σ H p⟩
theorem lc_text (Pv : Nat → Hp → Prop) (h0 : Pv 0 (upd H1 D (.lst [])))
    (hs : ∀ (i : Nat) c H, l[i]? = some c → Pv i H → gName s (.str (S [c])) (wipe σ [s]) H fun σ2 H2 => wipe σ2 [s] = wipe σ [s] ∧ tYes σ2 H2 fun b H3 =>
      if b = true then te σ2 H3 fun y H4 => ∃ acc, H4 D = some (.lst acc) ∧ acc.length < sizeLine ∧ Pv (i + 1) (upd H4 D (.lst (acc ++ [y]))) else Pv (i + 1) H3) (hd : ∀ H, Pv l.length H → Qd H) :
    ∃ W : Nat → Nat → Hp → Prop, (∃ m, W 0 m (upd H1 D (.lst []))) ∧ ∀ i m H, W i m H →
      ((Its (S l)).stop i H ∧ Qd H) ∨ ((Its (S l)).go i H ∧ ∃ Nx : Hp → Prop, (∀ H', Nx H' → ∃ m', m' < m ∧ W (i + 1) m' H') ∧ ∀ x H', (Its (S l)).yld i H x H' → gName s x (wipe σ [s]) H' fun σ2 H2 => wipe σ2 [s] = wipe σ [s] ∧ tYes σ2 H2 fun b H3 =>
        if b = true then te σ2 H3 fun y H4 => ∃ acc, H4 D = some (.lst acc) ∧ acc.length < sizeLine ∧ Nx (upd H4 D (.lst (acc ++ [y]))) else Nx H3) := by
  have sz : (S l).cps.size = l.length := by simp [S]
  refine ⟨fun i m H => m = l.length - i ∧ i ≤ l.length ∧ Pv i H, ⟨l.length, by simp, Nat.zero_le _, h0⟩, ?_⟩
  rintro i m H ⟨rfl, hi, p⟩
  by_cases hlt : i < l.length
  · refine .inr ⟨by show i < (S l).cps.size; omega, Pv (i + 1), fun H' p' => ⟨l.length - (i + 1), by omega, rfl, hlt, p'⟩, fun x H' y => ?_⟩
    obtain ⟨e, c, hc, ex⟩ := y
    subst e
    subst ex
    exact hs i c _ (S_at hc) p
  · have e : i = l.length := by omega
    subst e
    exact .inl ⟨by show (S l).cps.size ≤ _; omega, hd H p⟩
/-- [f(c) for c in text], f a value that hangs on the sign alone -/
theorem map_text (f : Nat → V) (hz : l.length ≤ sizeLine) (fresh : H1 D = none)
    (elt : ∀ (i : Nat) c, l[i]? = some c → ∀ H, Same H1 H → ∀ Q' : VK, (∀ H', Same H H' → Q' (f c) H') → te ((σ.set s none).set s (some (.str (S [c])))) H Q')
    (hd : ∀ H, Same H1 H → H D = some (.lst (l.map f)) → Qd H) :
    ∃ W : Nat → Nat → Hp → Prop, (∃ m, W 0 m (upd H1 D (.lst []))) ∧ ∀ i m H, W i m H →
      ((Its (S l)).stop i H ∧ Qd H) ∨ ((Its (S l)).go i H ∧ ∃ Nx : Hp → Prop, (∀ H', Nx H' → ∃ m', m' < m ∧ W (i + 1) m' H') ∧ ∀ x H', (Its (S l)).yld i H x H' → gName s x (wipe σ [s]) H' fun σ2 H2 => wipe σ2 [s] = wipe σ [s] ∧ tYes σ2 H2 fun b H3 =>
        if b = true then te σ2 H3 fun y H4 => ∃ acc, H4 D = some (.lst acc) ∧ acc.length < sizeLine ∧ Nx (upd H4 D (.lst (acc ++ [y]))) else Nx H3) :=
  lc_text (CompSo (fun i v _ => ∃ c, l[i]? = some c ∧ v = f c) H1 D) (comp_start fresh)
    (fun i c H hc so => comp_turn (fun _ _ _ _ h _ => h) hz fresh (List.getElem?_eq_some_iff.mp hc).1 so fun H sm Q' hQ => elt i c hc H sm Q' fun H' sm' => hQ _ H' sm' ⟨c, hc, rfl⟩)
    fun H ⟨sm, ys, hD, hlen, hP⟩ => hd H sm (by rw [← eq_map hlen hP]; exact hD)
end
end Cs

set_option maxRecDepth 100000
set_option maxHeartbeats 4000000
/-! widths of texts -/
namespace Cs
open PySem PySem.Spec PyProof.Rows L2
def alpha : List Nat := (Str.ofString " !\"#$&'()*+,-./0123456789:;<=>?@ABCDEFGHIJKLMNOPQRSTUVWXYZ[\\]^_`" ++ Str.ofString "abcdefghijklmnopqrstuvwxyz{|}~").cps.toList
theorem alpha_len : alpha.length = 94 := by decide +kernel
theorem alpha_small : ∀ c ∈ alpha, c < 128 := by decide +kernel
/-- the width of the sign with the code c -/
def gw (c : Nat) : Int :=
  if c ∈ (Str.ofString "!'.:i|").cps.toList then 1
  else if c ∈ (Str.ofString "(),;[]jl`").cps.toList then 2
  else if c ∈ (Str.ofString " \"*-/1<>I\\^frt{}").cps.toList then 3
  else if c ∈ (Str.ofString "$023456789=?J_abcdeghknopqsuvxyz").cps.toList then 4
  else 5
theorem gw_pos (c : Nat) : 1 ≤ gw c := by unfold gw; split <;> (try decide); split <;> (try decide); split <;> (try decide); split <;> decide
theorem gw_le (c : Nat) : gw c ≤ 5 := by unfold gw; split <;> (try decide); split <;> (try decide); split <;> (try decide); split <;> decide
/-- a text of such signs -/
def Word (l : List Nat) : Prop := ∀ c ∈ l, c ∈ alpha
theorem Word.nil : Word [] := fun _ h => absurd h List.not_mem_nil
theorem Word.app {l m : List Nat} (a : Word l) (b : Word m) : Word (l ++ m) := fun c h => (List.mem_append.mp h).elim (a c) (b c)
theorem Word.one {c : Nat} (h : c ∈ alpha) : Word [c] := fun d hd => by rw [List.mem_singleton.mp hd]; exact h
def tw (l : List Nat) : Int := if l = [] then 0 else (l.map gw).sum + l.length - 1
theorem sum_gw : ∀ l : List Nat, (l.length : Int) ≤ (l.map gw).sum ∧ (l.map gw).sum ≤ 5 * l.length
  | [] => by simp
  | c :: r => by
    have := sum_gw r
    have := gw_pos c
    have := gw_le c
    rw [List.map_cons, List.sum_cons, List.length_cons]
    omega
theorem tw_nn (l : List Nat) : 0 ≤ tw l := by
  unfold tw
  split
  · exact Int.le_refl _
  · have := (sum_gw l).1
    have : 0 < l.length := List.length_pos_iff.mpr (by assumption)
    omega
theorem tw_le (l : List Nat) : tw l ≤ 6 * l.length := by
  unfold tw
  split
  · omega
  · have := (sum_gw l).2
    omega
theorem sum_gw1 : ∀ l : List Nat, (l.map fun c => 1 + gw c).sum = (l.map gw).sum + l.length
  | [] => by simp
  | c :: r => by
    have := sum_gw1 r
    rw [List.map_cons, List.sum_cons, List.map_cons, List.sum_cons, List.length_cons]
    omega
theorem tw_law (l : List Nat) : max ((l.map fun c => 1 + gw c).sum - 1) 0 = tw l := by
  rw [sum_gw1]
  unfold tw
  split
  · rename_i h
    subst h
    show max ((0 : Int) + 0 - 1) 0 = 0
    decide
  · have := (sum_gw l).1
    have : 0 < l.length := List.length_pos_iff.mpr (by assumption)
    omega
theorem tw_app (l m : List Nat) (h1 : l ≠ []) (h2 : m ≠ []) : tw (l ++ m) = tw l + 1 + tw m := by
  unfold tw
  rw [if_neg h1, if_neg h2, if_neg (by simp [h1]), List.map_append, List.sum_append, List.length_append]
  omega
theorem sum_take_map {f : Nat → Int} {l : List Nat} {i : Nat} {c : Nat} (h : l[i]? = some c) : ((l.take (i + 1)).map f).sum = ((l.take i).map f).sum + f c := by
  rw [List.take_add_one, h, List.map_append, List.sum_append]
  simp
/-- the column x is one of a sign's, the first sign at left -/
def ink : List Nat → Int → Int → Bool
  | [], _, _ => false
  | c :: r, left, x => if x < left + gw c then decide (left ≤ x) && !decide (c = 32) else ink r (left + gw c + 1) x
theorem ink_cons (c : Nat) (r : List Nat) (left x : Int) : ink (c :: r) left x = if x < left + gw c then decide (left ≤ x) && !decide (c = 32) else ink r (left + gw c + 1) x := rfl
theorem ink_off : ∀ (l : List Nat) (left x : Int), x < left → ink l left x = false
  | [], _, _, _ => rfl
  | c :: r, left, x, h => by
    have := gw_pos c
    unfold ink
    rw [if_pos (by omega), decide_eq_false (by omega)]
    rfl
/-- .. as the law asks it -/
def ink2 : List Nat → Int → Int → Bool
  | [], _, _ => false
  | c :: r, left, x => if left ≤ x ∧ x < left + gw c then !decide (c = 32) else ink2 r (left + gw c + 1) x
theorem ink2_cons (c : Nat) (r : List Nat) (left x : Int) : ink2 (c :: r) left x = if left ≤ x ∧ x < left + gw c then !decide (c = 32) else ink2 r (left + gw c + 1) x := rfl
theorem ink2_off : ∀ (l : List Nat) (left x : Int), x < left → ink2 l left x = false
  | [], _, _, _ => rfl
  | c :: r, left, x, h => by
    have := gw_pos c
    unfold ink2
    rw [if_neg (by omega)]
    exact ink2_off r _ _ (by omega)
theorem ink_eq : ∀ (l : List Nat) (left x : Int), ink2 l left x = ink l left x
  | [], _, _ => rfl
  | c :: r, left, x => by
    have := gw_pos c
    unfold ink2 ink
    by_cases h : x < left + gw c
    · rw [if_pos h]
      by_cases h2 : left ≤ x
      · rw [if_pos ⟨h2, h⟩, decide_eq_true h2]; rfl
      · rw [if_neg (by omega), decide_eq_false h2, ink2_off r _ _ (by omega)]; rfl
    · rw [if_neg h, if_neg (by omega)]
      exact ink_eq r _ _
def inkT (l : List Nat) (x y : Int) : Bool := (decide (0 ≤ y) && decide (y < 7)) && ink l 0 x
theorem drop_cons {l : List Nat} {i : Nat} {c : Nat} (h : l[i]? = some c) : l.drop i = c :: l.drop (i + 1) := by
  obtain ⟨hi, e⟩ := List.getElem?_eq_some_iff.mp h
  rw [List.drop_eq_getElem_cons hi, e]
/-- the written table of widths -/
structure Glyphs (K : PySem.W.Frag) (w : World) (mg : Str → Option Value) : Prop where
  tab : ∃ (d : Addr) (es : Array DictEntry) (n : Nat), mg "GLYPH_WIDTHS" = some (.ref d) ∧ KDict K w d es n ∧ ∀ c ∈ alpha, (∃ t, findBy Value.isStrOf es (S [c]) = some (.int (gw c) t)) ∨ (findBy Value.isStrOf es (S [c]) = none ∧ gw c = 5)
  other : ∃ t, mg "OTHER_WIDTH" = some (.int 5 t)
  height : ∃ t, mg "TEXT_HEIGHT" = some (.int 7 t)
/-- the check of the table, to be run -/
def tabB (es : Array DictEntry) : Bool := alpha.all fun c => match findBy Value.isStrOf es (S [c]) with
  | some (.int i _) => decide (i = gw c)
  | none => decide (gw c = 5)
  | _ => false
theorem tab_of {es : Array DictEntry} (h : tabB es = true) : ∀ c ∈ alpha, (∃ t, findBy Value.isStrOf es (S [c]) = some (.int (gw c) t)) ∨ (findBy Value.isStrOf es (S [c]) = none ∧ gw c = 5) := fun c hc => by
  have q := List.all_eq_true.mp h c hc
  split at q
  · rename_i i t e
    exact .inl ⟨t, by rw [e, of_decide_eq_true q]⟩
  · rename_i e
    exact .inr ⟨e, of_decide_eq_true q⟩
  · cases q
def sp_glyph_width (K : PySem.W.Frag) : Sp := fun vs H Q _ => ∃ c, vs = [.str (S [c])] ∧ c ∈ alpha ∧ Q (.int (gw c)) H
def sp_text_width (K : PySem.W.Frag) : Sp := fun vs H Q _ => ∃ l, vs = [.str (S l)] ∧ Word l ∧ l.length ≤ 100000 ∧ ∀ H', Same H H' → Q (.int (tw l)) H'
def sp_inked (K : PySem.W.Frag) : Sp := fun vs H Q _ => ∃ l x y, vs = [.str (S l), .int x, .int y] ∧ Word l ∧ Q (.bl (inkT l x y)) H
def sp_law_sign_width (K : PySem.W.Frag) : Sp := fun vs H Q _ => ∃ c, vs = [.str (S [c])] ∧ Q (.int (gw c)) H
def sp_law_width (K : PySem.W.Frag) : Sp := fun vs H Q _ => ∃ l, vs = [.str (S l)] ∧ Q (.int (tw l)) H
def sp_law_inked (K : PySem.W.Frag) : Sp := fun vs H Q _ => ∃ l x y, vs = [.str (S l), .int x, .int y] ∧ Q (.bl (inkT l x y)) H
def sp_law_word (K : PySem.W.Frag) : Sp := fun vs H Q _ => ∃ (t l : Addr), vs = [.ref t] ∧ TapeAt H t l ∧ ∀ m H', TapeAt H' t l → Gr t H H' → Word m → m.length ≤ 5 → Q (.str (S m)) H'
theorem S_lit : S [] = Str.ofString "" := by decide +kernel
theorem S_sp : S [32] = Str.ofString " " := by decide +kernel
theorem S_sp_iff {c : Nat} : (S [c] = Str.ofString " ") ↔ c = 32 := by
  rw [← S_sp]
  constructor
  · intro h
    have := S_inj h
    simpa using this
  · intro h; rw [h]
end Cs

set_option maxRecDepth 100000
set_option maxHeartbeats 4000000
/-! t[a::2] of a tuple -/
namespace Cs
open PySem PySem.Spec PyProof.Rows L2
/-- every other item, from the first on -/
def ev {α : Type} : List α → List α
  | [] => []
  | [a] => [a]
  | a :: _ :: r => a :: ev r
theorem ev_vals : ∀ {xs : List V} {us : List Value}, Vals xs us → Vals (ev xs) (ev us)
  | _, _, .nil => .nil
  | _, _, .cons h .nil => .cons h .nil
  | _, _, .cons h (.cons _ t) => .cons h (ev_vals t)
theorem ev_len {α : Type} : ∀ l : List α, (ev l).length ≤ l.length
  | [] => Nat.le_refl _
  | [_] => Nat.le_refl _
  | _ :: _ :: r => by have := ev_len r; show (ev r).length + 1 ≤ r.length + 1 + 1; omega
theorem ev_pick {α : Type} : ∀ l : List α, ((List.range ((l.length + 1) / 2)).filterMap fun m => l[2 * m]?) = ev l
  | [] => by simp [ev]
  | [a] => by simp [ev]
  | a :: b :: r => by
    have e : ((a :: b :: r).length + 1) / 2 = (r.length + 1) / 2 + 1 := by
      show (r.length + 1 + 1 + 1) / 2 = _
      omega
    rw [e, List.range_succ_eq_map, List.filterMap_cons, List.filterMap_map]
    have e2 : ((fun m => (a :: b :: r)[2 * m]?) ∘ Nat.succ) = fun m => r[2 * m]? := by
      funext m
      show (a :: b :: r)[2 * (m + 1)]? = _
      rw [show 2 * (m + 1) = 2 * m + 1 + 1 from by omega, List.getElem?_cons_succ, List.getElem?_cons_succ]
    rw [e2, ev_pick r]
    rfl
section
variable {prog : Program} {w : World} {A : Around} {E : Value → Shared → Prop} {s : Shared}
theorem slice_two {sl : Addr} {vl : Value} {u : Tok} {lo : Option Int} {n : Nat} {Q : Int × Int × Nat → Shared → Prop} (hs : s.heap.IsSliceOf sl vl .none (.int 2 u)) (pl : IsPart vl lo)
    (h : Q (((HT.sIx n 0 lo : Nat) : Int), 2, (n - HT.sIx n 0 lo + 1) / 2) s) : wpAny (model prog w) A (Builtin.Slice.sliceApplied (.ref sl) (pure (n : Int))) Q E s := by
  obtain ⟨os, hos, hcs, hds⟩ := id hs
  unfold Builtin.Slice.sliceApplied Builtin.Slice.sliceFields
  refine wpAny_bind (wpAny_bind (wpAny_field hos hds (x := vl) rfl (wpAny_bind (wpAny_field hos hds (x := .none) rfl (wpAny_bind (wpAny_field hos hds (x := .int 2 u) rfl (wpAny_pure ?_)))))))
  refine wpAny_bind (HT.slicePart_ (.int 2 u) ?_)
  show wpAny _ _ (if ((2 : Int) == 0) = true then _ else _) _ _ s
  rw [if_neg (by decide)]
  refine wpAny_bind (HT.slicePart_ pl (wpAny_bind (HT.slicePart_ .none (wpAny_bind (wpAny_pure ?_)))))
  have e1 : Builtin.Slice.sliceAdjust lo none 2 (n : Int) = (((HT.sIx n 0 lo : Nat) : Int), (n : Int)) := by
    unfold Builtin.Slice.sliceAdjust
    simp only [show ¬ ((2 : Int) < 0) from by omega, if_false]
    refine Prod.ext ?_ rfl
    cases lo with
    | none => rfl
    | some v => exact HT.clip_eq v n 0
  have hle : HT.sIx n 0 lo ≤ n := HT.sIx_le n 0 (Nat.zero_le _) lo
  have e2 : Builtin.Slice.slicePlaces ((HT.sIx n 0 lo : Nat) : Int) (n : Int) 2 = (n - HT.sIx n 0 lo + 1) / 2 := by
    unfold Builtin.Slice.slicePlaces
    simp only [show (2 : Int) > 0 from by omega, if_true]
    split <;> omega
  show wpAny _ _ (match Builtin.Slice.sliceAdjust lo none 2 (n : Int) with | (lo, hi) => pure (lo, (2 : Int), Builtin.Slice.slicePlaces lo hi 2)) _ _ s
  rw [e1]
  show wpAny _ _ (pure (((HT.sIx n 0 lo : Nat) : Int), (2 : Int), Builtin.Slice.slicePlaces ((HT.sIx n 0 lo : Nat) : Int) (n : Int) 2)) _ _ s
  rw [e2]
  exact wpAny_pure h
theorem pick_two (xs : Array Value) (i : Nat) : ((List.range ((xs.size - i + 1) / 2)).filterMap fun (m : Nat) => xs[((i : Int) + (m : Int) * 2).toNat]?).toArray = (ev (xs.toList.drop i)).toArray := by
  have e : (fun (m : Nat) => xs[((i : Int) + (m : Int) * 2).toNat]?) = fun m => (xs.toList.drop i)[2 * m]? := by
    funext m
    rw [List.getElem?_drop, Array.getElem?_toList]
    congr 1
    omega
  rw [e, ← ev_pick (xs.toList.drop i), List.length_drop, Array.length_toList]
theorem item_two {t sl : Addr} {items : Array Value} {vl : Value} {u : Tok} {lo : Option Int} {Q : Value → Shared → Prop} (ht : IsTup s.heap t items) (hs : s.heap.IsSliceOf sl vl .none (.int 2 u)) (pl : IsPart vl lo)
    (h : Q (.ref s.heap.objs.size) { s with heap := s.heap.push { cls := .type "tuple", data := .seq (ev (items.toList.drop (HT.sIx items.size 0 lo))).toArray } })
    (hsz : items.size ≤ sizeLine) : wpAny (model prog w) A (getItem (.ref t) (.ref sl)) Q E s := by
  have ok : sizeOk (.seq (ev (items.toList.drop (HT.sIx items.size 0 lo))).toArray) := by
    show (ev (items.toList.drop (HT.sIx items.size 0 lo))).toArray.size ≤ sizeLine
    have := ev_len (items.toList.drop (HT.sIx items.size 0 lo))
    rw [List.length_drop] at this
    have e : items.toList.length = items.size := Array.length_toList
    rw [List.size_toArray]
    omega
  obtain ⟨os, hos, hcs, hds⟩ := id hs
  have hTs : s.TypeIs (.ref sl) "slice" := ⟨os, hos, hcs⟩
  unfold getItem
  try with_reducible refine wpAny_holding ?_
  first | refine wpAny_bind (wpAny_pure ?_) | skip
  refine wpAny_bind (wpAny_sequenceKey ht.typeIs (by decide) ?_)
  refine wpAny_bind (wpAny_callSpecial?_slot (name := Str.ofString "__getitem__") ht.typeIs PyProof.Rows.slot_tuple_getitem (wpAny_call_entry PyProof.Rows.slot_tuple_getitem ht.typeIs entry_tuple_getitem ?_ (args_tuple_getitem _ _)))
  show wpAny _ _ (Builtin.Tuple.tupleItemsOf (.ref t) >>= _) _ _ s
  refine wpAny_bind (tupleItemsOf_ ht (wpAny_bind (wpAny_typeOf hTs ?_)))
  rw [if_pos (by decide)]
  refine wpAny_bind (slice_two hs pl ?_)
  have hno : ¬ ((((HT.sIx items.size 0 lo : Nat) : Int) == 0 && (2 : Int) == 1 && ((items.size - HT.sIx items.size 0 lo + 1) / 2) == items.size) = true) := by
    intro q
    rw [Bool.and_eq_true, Bool.and_eq_true] at q
    exact absurd q.1.2 (by decide)
  show wpAny _ _ (if (((HT.sIx items.size 0 lo : Nat) : Int) == 0 && (2 : Int) == 1 && ((items.size - HT.sIx items.size 0 lo + 1) / 2) == items.size) = true then _ else _) _ _ s
  rw [if_neg hno, pick_two]
  first
    | exact wpAny_bind (m := Builtin.Tuple.tupleExact _) (wpAny_newObj_type (wpAny_pure ⟨_, rfl, wpAny_pure h⟩) ok)
    | exact wpAny_bind (m := Builtin.Tuple.tupleExact _) (wpAny_newObj_type (wpAny_bind (wpAny_pure (wpAny_pure ⟨_, rfl, wpAny_pure h⟩))) ok)
    | exact wpAny_bind (wpAny_bind (m := Builtin.Tuple.tupleExact _) (wpAny_newObj_type (wpAny_pure (wpAny_pure ⟨_, rfl, wpAny_pure h⟩)) ok))
    | exact wpAny_bind (wpAny_bind (m := Builtin.Tuple.tupleExact _) (wpAny_newObj_type (wpAny_pure ⟨_, rfl, wpAny_pure h⟩) ok))
end
section
variable {X : Cx} {e : Expr} {te : TE} {lo : Option Expr} {tl : TO} {pos p2 p3 : Pos} {j : Nat}
def tSl2 (K : PySem.W.Frag) (te : TE) (tl : TO) : TE := fun σ H Q => te σ H fun x H1 => tl σ H1 fun l H2 => ∃ a xs, x = .ref a ∧ SqT K H2 a xs ∧ ∀ p, H2 p = none → Q (.ref p) (upd H2 p (.tup (ev (xs.drop (HT.sIx xs.length 0 l)))))
theorem pe_sl2 (K : PySem.W.Frag) (he : PE X e te) (hl : PO X lo tl) (hK : X.K = K := by rfl) : PE X (.Subscript e (.Slice lo none (some (.Constant (.int 2) j p3)) p2) pos) (tSl2 K te tl) := by
  subst hK
  refine ⟨fun pins s σ H Q I h => ?_⟩
  refine Subscript_ (thn (he.run pins s σ H _ I h) fun v s1 ⟨x, H1, I1, r1, q1⟩ => ?_)
  refine wpAny_Slice (thn (hl.run pins s1 σ H1 _ I1 q1) fun vl s2 ⟨l, H2, I2, pl, q2⟩ => ?_)
  rw [evalPart_none]
  refine wpAny_pure (thn ((pe_int (X := X) (i := 2) (j := j) (pos := p3)).run pins s2 σ H2 (fun v H' => v = .int 2 ∧ H' = H2) I2 ⟨rfl, rfl⟩) fun vs s3 ⟨y, H3, I3, ry, e1, e2⟩ => ?_)
  subst e1
  subst e2
  obtain ⟨u, rfl⟩ := (show ∃ t, vs = Value.int 2 t from ry)
  obtain ⟨a, xs, ex, hx, q⟩ := q2
  subst ex
  obtain rfl : v = Value.ref a := r1
  have I4 : Inv X pins σ H3 { s3 with heap := s3.heap.push { cls := .type "slice", data := .fields #[vl, .none, .int 2 u] } } := I3.kept (t' := s3.toks) fun b ob q => Heap.get?_push_of_some _ q
  obtain ⟨its, r, ht, hz⟩ := I4.tuple hx
  have hlen : its.toArray.size = xs.length := by rw [List.size_toArray]; exact r.length.symm
  show wpAny (model X.prog X.w) X.A (subscriptTail e (.Slice lo none (some (.Constant (.int 2) j p3)) p2) (.ref a) (.ref s3.heap.objs.size)) (EP X pins σ Q) X.xe { s3 with heap := s3.heap.push { cls := .type "slice", data := .fields #[vl, .none, .int 2 u] } }
  refine tail_any (ops := [.ref a, .ref s3.heap.objs.size]) ht.typeIs PyProof.Rows.slot_tuple_getitem.lookup ?_ (by with_unfolding_all rfl)
  refine item_two ht (Heap.IsSliceOf.new ..) pl ?_ (by rw [hlen]; exact hz)
  rw [hlen]
  refine ⟨.ref _, _, I4.laid (t' := s3.toks) (o := .tup (ev (xs.drop (HT.sIx xs.length 0 l)))) (fun b ob q => Heap.get?_push_of_some _ q) (Nat.le_refl _) ?_, rfl, q _ (I4.hok.fresh (Nat.le_refl _))⟩
  exact ⟨Nat.le_trans (ev_len _) (by rw [List.length_drop]; omega), _, ev_vals (r.drop (HT.sIx xs.length 0 l)), IsTup.new _ _⟩
end
end Cs

set_option maxRecDepth 100000
set_option maxHeartbeats 4000000
/-! shapes -/
namespace Cs
open PySem PySem.Spec PyProof.Rows L2
/-- v is a tuple of vs -/
def Tup (K : PySem.W.Frag) (H : Hp) (v : V) (vs : List V) : Prop := ∃ a, v = .ref a ∧ SqT K H a vs
theorem Tup.im {K : PySem.W.Frag} {H H' : Hp} {v : V} {vs : List V} (h : Tup K H v vs) (e : Im H H') : Tup K H' v vs := let ⟨a, h1, h2⟩ := h; ⟨a, h1, e.sqT h2⟩
theorem Tup.same {K : PySem.W.Frag} {H H' : Hp} {v : V} {vs : List V} (h : Tup K H v vs) (e : Same H H') : Tup K H' v vs := h.im (Im.same e)
inductive Sh where
  | rect (x y w h : Int)
  | line (x y u v : Int)
  | poly (p : Int × Int) (ps : List (Int × Int))
  | circ (x y r : Int)
  | tS (x y : Int) (l : List Nat)
  | tM (x y : Int) (l : List Nat)
  | tE (x y : Int) (l : List Nat)
def flat : List (Int × Int) → List Int
  | [] => []
  | p :: r => p.1 :: p.2 :: flat r
def Sh.name : Sh → Str
  | .rect .. => Str.ofString "rectangle"
  | .line .. => Str.ofString "line"
  | .poly .. => Str.ofString "polyline"
  | .circ .. => Str.ofString "circle"
  | .tS .. => Str.ofString "text start"
  | .tM .. => Str.ofString "text middle"
  | .tE .. => Str.ofString "text end"
def Sh.pts : Sh → List Int
  | .rect x y w h => [x, y, w, h]
  | .line x y u v => [x, y, u, v]
  | .poly p ps => flat (p :: ps)
  | .circ x y r => [x, y, r]
  | .tS x y _ => [x, y]
  | .tM x y _ => [x, y]
  | .tE x y _ => [x, y]
def Sh.txt : Sh → List Nat
  | .tS _ _ l => l
  | .tM _ _ l => l
  | .tE _ _ l => l
  | _ => []
/-- its corners (of a line, a polyline) -/
def Sh.cor : Sh → List (Int × Int)
  | .line x y u v => [(x, y), (u, v)]
  | .poly p ps => p :: ps
  | _ => []
/-- r is the least rectangle that holds the pixels ps -/
structure IsBB (ps : List (Int × Int)) (r : R) : Prop where
  l1 : r.l ∈ ps.map (·.1)
  l2 : ∀ p ∈ ps, r.l ≤ p.1
  t1 : r.t ∈ ps.map (·.2)
  t2 : ∀ p ∈ ps, r.t ≤ p.2
  r1 : r.l + r.w - 1 ∈ ps.map (·.1)
  r2 : ∀ p ∈ ps, p.1 ≤ r.l + r.w - 1
  b1 : r.t + r.h - 1 ∈ ps.map (·.2)
  b2 : ∀ p ∈ ps, p.2 ≤ r.t + r.h - 1
theorem IsBB.one {ps : List (Int × Int)} {a b : R} (h : IsBB ps a) (k : IsBB ps b) : a = b := by
  have el : a.l = b.l := by
    obtain ⟨p, p1, p2⟩ := List.mem_map.mp h.l1
    obtain ⟨q, q1, q2⟩ := List.mem_map.mp k.l1
    have := h.l2 q q1; have := k.l2 p p1; omega
  have et : a.t = b.t := by
    obtain ⟨p, p1, p2⟩ := List.mem_map.mp h.t1
    obtain ⟨q, q1, q2⟩ := List.mem_map.mp k.t1
    have := h.t2 q q1; have := k.t2 p p1; omega
  have er : a.l + a.w - 1 = b.l + b.w - 1 := by
    obtain ⟨p, p1, p2⟩ := List.mem_map.mp h.r1
    obtain ⟨q, q1, q2⟩ := List.mem_map.mp k.r1
    have := h.r2 q q1; have := k.r2 p p1; omega
  have eb : a.t + a.h - 1 = b.t + b.h - 1 := by
    obtain ⟨p, p1, p2⟩ := List.mem_map.mp h.b1
    obtain ⟨q, q1, q2⟩ := List.mem_map.mp k.b1
    have := h.b2 q q1; have := k.b2 p p1; omega
  obtain ⟨l, t, w, h'⟩ := a
  obtain ⟨l2, t2, w2, h2⟩ := b
  simp only at el et er eb
  subst el et
  have : w = w2 := by omega
  have : h' = h2 := by omega
  simp [*]
/-- r is the rectangle around s -/
def IsBox : Sh → R → Prop
  | .rect x y w h, r => r = ⟨x, y, w, h⟩
  | .line x y u v, r => IsBB [(x, y), (u, v)] r
  | .poly p ps, r => IsBB (p :: ps) r
  | .circ x y q, r => r = ⟨x - q, y - q, 2 * q + 1, 2 * q + 1⟩
  | .tS x y l, r => r = ⟨x, y, tw l, 7⟩
  | .tM x y l, r => r = ⟨x - tw l / 2, y, tw l, 7⟩
  | .tE x y l, r => r = ⟨x - tw l, y, tw l, 7⟩
theorem IsBox.one {s : Sh} {a b : R} (h : IsBox s a) (k : IsBox s b) : a = b := by
  cases s with
  | line x y u v => exact IsBB.one h k
  | poly p ps => exact IsBB.one h k
  | rect x y w h' => exact Eq.trans h (Eq.symm k)
  | circ x y q => exact Eq.trans h (Eq.symm k)
  | tS x y l => exact Eq.trans h (Eq.symm k)
  | tM x y l => exact Eq.trans h (Eq.symm k)
  | tE x y l => exact Eq.trans h (Eq.symm k)
theorem flat_ev : ∀ ps : List (Int × Int), ev (flat ps) = ps.map (·.1)
  | [] => rfl
  | p :: r => by show p.1 :: ev (flat r) = _; rw [flat_ev r]; rfl
theorem flat_od : ∀ ps : List (Int × Int), ev ((flat ps).drop 1) = ps.map (·.2)
  | [] => rfl
  | [p] => rfl
  | p :: q :: r => by
    have := flat_od (q :: r)
    show p.2 :: ev (q.2 :: flat r) = _
    have e : ev (q.2 :: flat r) = ev ((flat (q :: r)).drop 1) := rfl
    rw [e, this]
    rfl
theorem flat_len : ∀ ps : List (Int × Int), (flat ps).length = 2 * ps.length
  | [] => rfl
  | p :: r => by show (flat r).length + 1 + 1 = _; rw [flat_len r, List.length_cons]; omega
theorem flat_app : ∀ a b : List (Int × Int), flat (a ++ b) = flat a ++ flat b
  | [], b => rfl
  | p :: r, b => by show p.1 :: p.2 :: flat (r ++ b) = _; rw [flat_app r b]; rfl
theorem flat_at : ∀ (ps : List (Int × Int)) (i : Nat) (p : Int × Int), ps[i]? = some p → (flat ps)[2 * i]? = some p.1 ∧ (flat ps)[2 * i + 1]? = some p.2
  | [], i, p, h => by simp at h
  | q :: r, 0, p, h => by
    have e : q = p := Option.some.inj h
    subst e
    exact ⟨rfl, rfl⟩
  | q :: r, i + 1, p, h => by
    have := flat_at r i p h
    show (q.1 :: q.2 :: flat r)[2 * (i + 1)]? = _ ∧ (q.1 :: q.2 :: flat r)[2 * (i + 1) + 1]? = _
    rw [show 2 * (i + 1) = 2 * i + 1 + 1 from by omega, List.getElem?_cons_succ, List.getElem?_cons_succ, List.getElem?_cons_succ, List.getElem?_cons_succ]
    exact this
theorem ev_map {α β : Type} (f : α → β) : ∀ l : List α, ev (l.map f) = (ev l).map f
  | [] => rfl
  | [_] => rfl
  | a :: b :: r => by show f a :: ev (r.map f) = _; rw [ev_map f r]; rfl
theorem Sh.pts_cor {s : Sh} (h : s.cor ≠ []) : s.pts = flat s.cor := by
  cases s <;> first | rfl | exact absurd rfl h
theorem bb_of {ps : List (Int × Int)} {L T Rt B : Int} (h1 : L ∈ ps.map (·.1)) (h1' : ∀ z, z ∈ ps.map (·.1) → L ≤ z) (h2 : T ∈ ps.map (·.2)) (h2' : ∀ z, z ∈ ps.map (·.2) → T ≤ z)
    (h3 : Rt ∈ ps.map (·.1)) (h3' : ∀ z, z ∈ ps.map (·.1) → z ≤ Rt) (h4 : B ∈ ps.map (·.2)) (h4' : ∀ z, z ∈ ps.map (·.2) → z ≤ B) : IsBB ps ⟨L, T, Rt - L + 1, B - T + 1⟩ := by
  have e1 : L + (Rt - L + 1) - 1 = Rt := by omega
  have e2 : T + (B - T + 1) - 1 = B := by omega
  refine ⟨h1, fun p hp => h1' _ (List.mem_map.mpr ⟨p, hp, rfl⟩), h2, fun p hp => h2' _ (List.mem_map.mpr ⟨p, hp, rfl⟩), ?_, fun p hp => ?_, ?_, fun p hp => ?_⟩
  · show L + (Rt - L + 1) - 1 ∈ _
    rw [e1]; exact h3
  · show _ ≤ L + (Rt - L + 1) - 1
    rw [e1]; exact h3' _ (List.mem_map.mpr ⟨p, hp, rfl⟩)
  · show T + (B - T + 1) - 1 ∈ _
    rw [e2]; exact h4
  · show _ ≤ T + (B - T + 1) - 1
    rw [e2]; exact h4' _ (List.mem_map.mpr ⟨p, hp, rfl⟩)
def iv (l : List Int) : List V := l.map V.int
structure ShOk (s : Sh) : Prop where
  word : Word s.txt
  tlen : s.txt.length ≤ 1000
  plen : s.pts.length ≤ 1000
def sp_around_points (K : PySem.W.Frag) : Sp := fun vs H Q _ => ∃ (v : V) (ps : List (Int × Int)), vs = [v] ∧ Tup K H v (iv (flat ps)) ∧ ps ≠ [] ∧ ps.length ≤ 1000 ∧ ∀ x r H', Same H H' → IsBB ps r → Rc K H' x r → Q x H'
def sp_around_text (K : PySem.W.Frag) : Sp := fun vs H Q _ => ∃ (s : Sh) (v : V), vs = [.str s.name, v, .str (S s.txt)] ∧ Tup K H v (iv s.pts) ∧ ShOk s ∧ (∃ x y l, s = .tS x y l ∨ s = .tM x y l ∨ s = .tE x y l) ∧ ∀ x r H', Same H H' → IsBox s r → Rc K H' x r → Q x H'
def sp_around (K : PySem.W.Frag) : Sp := fun vs H Q _ => ∃ (s : Sh) (v : V), vs = [.str s.name, v, .str (S s.txt)] ∧ Tup K H v (iv s.pts) ∧ ShOk s ∧ ∀ x r H', Same H H' → IsBox s r → Rc K H' x r → Q x H'
def sp_law_around (K : PySem.W.Frag) : Sp := sp_around K
end Cs

set_option maxRecDepth 100000
set_option maxHeartbeats 4000000
/-! min and max of a tuple of ints -/
namespace Cs
open PySem PySem.Spec PyProof.Rows L2
section
variable {prog : Program} {w : World} {A : Around} {E : Value → Shared → Prop} {s : Shared} {l : Addr} {xs : Array (Int × Tok)} {Q : Value → Shared → Prop}
theorem walk_tup (hl : s.heap.IsTuple l (intItems xs))
    (h : ∀ s₂ : Shared, s₂ = { s with heap := s.heap.push { cls := .type "tuple_iterator", data := .fields #[.ref l, .int 0 0] } } →
      (s₂.heap.IsTupleIter s.heap.objs.size l 0 ∧ s₂.heap.IsTuple l (intItems xs)) → (∀ b ∈ [s.heap.objs.size, l], b < s₂.heap.objs.size) → l ≠ s.heap.objs.size → Q (.ref s.heap.objs.size) s₂) :
    wpAny (model prog w) A (pyIter (.ref l)) Q E s := by
  have hlt : l < s.heap.objs.size := by
    obtain ⟨_, e, _⟩ := hl
    exact Heap.lt_size e
  refine wpAny_pyIter_tuple hl (h _ rfl ⟨⟨_, Heap.get?_push_size _ rfl, rfl, rfl⟩, hl.push _⟩ (fun b hb => ?_) (Nat.ne_of_lt hlt))
  show b < (s.heap.push _).objs.size
  rw [Heap.size_push]
  rcases List.mem_cons.mp hb with rfl | hb
  · exact Nat.lt_succ_self _
  · rw [List.mem_singleton.mp hb]
    exact Nat.lt_succ_of_lt hlt
theorem tup_old {h' : Heap} (hk : ∀ b o, b ∉ [s.heap.objs.size] → (s.heap.push { cls := .type "tuple_iterator", data := .fields #[.ref l, .int 0 0] }).get? b = some o → h'.get? b = some o) :
    ∀ b o, s.heap.get? b = some o → h'.get? b = some o := fun b o e => by
  refine hk b o (fun hm => ?_) (Heap.get?_push_of_some _ e)
  have := Heap.lt_size e
  rw [List.mem_singleton.mp hm] at this
  exact absurd this (Nat.lt_irrefl _)
theorem max_tup (hh : A.handled = none) (hl : s.heap.IsTuple l (intItems xs)) (hne : 0 < xs.size)
    (h : ∀ v h' tk, (intItems xs)[argBest (fun i j => decide (numAt xs i > numAt xs j)) (xs.size - 1)]? = some v → (∀ b o, s.heap.get? b = some o → h'.get? b = some o) → Q v { s with heap := h', toks := tk }) :
    wpAny (model prog w) A (call (.builtin "max") [.ref l]) Q E s := by
  refine call_max_walk (walk_tup hl fun s₂ e st hfp hlI => ?_)
  subst e
  refine ⟨_, _, _, _, _, _, _, rfl, Walks.tuple (A := A.in1) hh _ l hlI (intItems xs), st, hfp, by simpa [intItems] using hne, CmpOf.ints_gt (numAt xs) (fun _ _ => intItems_at), fun v h' tk hP hk => ?_⟩
  exact h v h' tk (by simpa [intItems] using hP) (tup_old hk)
theorem min_tup (hh : A.handled = none) (hl : s.heap.IsTuple l (intItems xs)) (hne : 0 < xs.size)
    (h : ∀ v h' tk, (intItems xs)[argBest (fun i j => decide (numAt xs i < numAt xs j)) (xs.size - 1)]? = some v → (∀ b o, s.heap.get? b = some o → h'.get? b = some o) → Q v { s with heap := h', toks := tk }) :
    wpAny (model prog w) A (call (.builtin "min") [.ref l]) Q E s := by
  refine call_min_walk (walk_tup hl fun s₂ e st hfp hlI => ?_)
  subst e
  refine ⟨_, _, _, _, _, _, _, rfl, Walks.tuple (A := A.in1) hh _ l hlI (intItems xs), st, hfp, by simpa [intItems] using hne, CmpOf.ints_lt (numAt xs) (fun _ _ => intItems_at), fun v h' tk hP hk => ?_⟩
  exact h v h' tk (by simpa [intItems] using hP) (tup_old hk)
end
section
variable {X : Cx}
def rMaxT (K : PySem.W.Frag) : List V → Hp → VK → Prop := fun vs H Q => ∃ (a : Addr) (ns : List Int), vs = [V.ref a] ∧ SqT K H a (ns.map V.int) ∧ 0 < ns.length ∧ ∀ m, m ∈ ns → (∀ y, y ∈ ns → y ≤ m) → Q (.int m) H
def rMinT (K : PySem.W.Frag) : List V → Hp → VK → Prop := fun vs H Q => ∃ (a : Addr) (ns : List Int), vs = [V.ref a] ∧ SqT K H a (ns.map V.int) ∧ 0 < ns.length ∧ ∀ m, m ∈ ns → (∀ y, y ∈ ns → m ≤ y) → Q (.int m) H
theorem cr_maxT (hc : X.calm = true) : CallR X (.builtin "max") (rMaxT X.K) := by
  intro pins s σ H vs us Q I r h
  obtain ⟨a, ns, rfl, hs, hne, q⟩ := h
  obtain ⟨its, rv, hl, _⟩ := I.tuple hs
  rw [Vals.ref1 r]
  have hi := rv.ints
  obtain ⟨xs, e⟩ := hi.allInts.items
  have hn : numsOf (intItems xs).toList = ns := by rw [← e]; exact hi.numsOf
  rw [nums_intItems] at hn
  subst hn
  rw [e] at hl
  have hsz : 0 < xs.size := by simpa using hne
  refine max_tup (I.ok.hd hc) hl hsz fun v h' tk hv hk => ?_
  obtain ⟨t, rfl⟩ := intItems_at hv
  obtain ⟨h1, h2⟩ := argBest_gt (numAt xs) (xs.size - 1)
  refine ⟨.int _, H, I.kept hk, ⟨_, rfl⟩, q _ ?_ fun a ha => ?_⟩
  · rw [numAt_eq]; exact PySem.getD_mem (by rw [List.length_map, Array.length_toList]; omega)
  · obtain ⟨j, hj, rfl⟩ := mem_getD ha
    rw [List.length_map, Array.length_toList] at hj
    rw [← numAt_eq]; exact h2 j (by omega)
theorem cr_minT (hc : X.calm = true) : CallR X (.builtin "min") (rMinT X.K) := by
  intro pins s σ H vs us Q I r h
  obtain ⟨a, ns, rfl, hs, hne, q⟩ := h
  obtain ⟨its, rv, hl, _⟩ := I.tuple hs
  rw [Vals.ref1 r]
  have hi := rv.ints
  obtain ⟨xs, e⟩ := hi.allInts.items
  have hn : numsOf (intItems xs).toList = ns := by rw [← e]; exact hi.numsOf
  rw [nums_intItems] at hn
  subst hn
  rw [e] at hl
  have hsz : 0 < xs.size := by simpa using hne
  refine min_tup (I.ok.hd hc) hl hsz fun v h' tk hv hk => ?_
  obtain ⟨t, rfl⟩ := intItems_at hv
  obtain ⟨h1, h2⟩ := argBest_lt (numAt xs) (xs.size - 1)
  refine ⟨.int _, H, I.kept hk, ⟨_, rfl⟩, q _ ?_ fun a ha => ?_⟩
  · rw [numAt_eq]; exact PySem.getD_mem (by rw [List.length_map, Array.length_toList]; omega)
  · obtain ⟨j, hj, rfl⟩ := mem_getD ha
    rw [List.length_map, Array.length_toList] at hj
    rw [← numAt_eq]; exact h2 j (by omega)
theorem minT (K : PySem.W.Frag) (hc : X.calm = true) (h : X.K = K := by rfl) : CallR X (.builtin "min") (rMinT K) := h ▸ cr_minT hc
theorem maxT (K : PySem.W.Frag) (hc : X.calm = true) (h : X.K = K := by rfl) : CallR X (.builtin "max") (rMaxT K) := h ▸ cr_maxT hc
end
end Cs

set_option maxRecDepth 100000
set_option maxHeartbeats 4000000
/-! comprehensions over a stepped range; shapes moved -/
namespace Cs
open PySem PySem.Spec PyProof.Rows L2
section
variable {g : TG} {te : TE} {s : Nat} {σ : L2.St} {H1 : Hp} {D : Addr} {Qd : Hp → Prop} {lo c : Int} {n : Nat}
theorem lc_step (Pv : Nat → Hp → Prop) (h0 : Pv 0 (upd H1 D (.lst [])))
    (hs : ∀ i H, i < n → Pv i H → gName s (.int (lo + (i : Nat) * c)) (wipe σ [s]) H fun σ2 H2 => wipe σ2 [s] = wipe σ [s] ∧ tYes σ2 H2 fun b H3 =>
      if b = true then te σ2 H3 fun y H4 => ∃ acc, H4 D = some (.lst acc) ∧ acc.length < sizeLine ∧ Pv (i + 1) (upd H4 D (.lst (acc ++ [y]))) else Pv (i + 1) H3) (hd : ∀ H, Pv n H → Qd H) :
    ∃ W : Nat → Nat → Hp → Prop, (∃ m, W 0 m (upd H1 D (.lst []))) ∧ ∀ i m H, W i m H →
      ((Itc lo c n).stop i H ∧ Qd H) ∨ ((Itc lo c n).go i H ∧ ∃ Nx : Hp → Prop, (∀ H', Nx H' → ∃ m', m' < m ∧ W (i + 1) m' H') ∧ ∀ x H', (Itc lo c n).yld i H x H' → gName s x (wipe σ [s]) H' fun σ2 H2 => wipe σ2 [s] = wipe σ [s] ∧ tYes σ2 H2 fun b H3 =>
        if b = true then te σ2 H3 fun y H4 => ∃ acc, H4 D = some (.lst acc) ∧ acc.length < sizeLine ∧ Nx (upd H4 D (.lst (acc ++ [y]))) else Nx H3) := by
  refine ⟨fun i m H => m = n - i ∧ i ≤ n ∧ Pv i H, ⟨n, by simp, Nat.zero_le _, h0⟩, ?_⟩
  rintro i m H ⟨rfl, hi, p⟩
  by_cases hlt : i < n
  · refine .inr ⟨hlt, Pv (i + 1), fun H' p' => ⟨n - (i + 1), by omega, rfl, hlt, p'⟩, fun x H' y => ?_⟩
    obtain ⟨e, ex⟩ := y
    subst e
    subst ex
    exact hs i _ hlt p
  · have e : i = n := by omega
    subst e
    exact .inl ⟨Nat.le_refl _, hd H p⟩
/-- [… for k in range(lo, …, c)], whose items are xs, one after another -/
theorem map_step (xs : List V) (hn : xs.length = n) (hz : n ≤ sizeLine) (fresh : H1 D = none)
    (elt : ∀ (i : Nat) v, xs[i]? = some v → ∀ H, Same H1 H → ∀ Q' : VK, (∀ H', Same H H' → Q' v H') → te ((σ.set s none).set s (some (.int (lo + (i : Nat) * c)))) H Q')
    (hd : ∀ H, Same H1 H → H D = some (.lst xs) → Qd H) :
    ∃ W : Nat → Nat → Hp → Prop, (∃ m, W 0 m (upd H1 D (.lst []))) ∧ ∀ i m H, W i m H →
      ((Itc lo c n).stop i H ∧ Qd H) ∨ ((Itc lo c n).go i H ∧ ∃ Nx : Hp → Prop, (∀ H', Nx H' → ∃ m', m' < m ∧ W (i + 1) m' H') ∧ ∀ x H', (Itc lo c n).yld i H x H' → gName s x (wipe σ [s]) H' fun σ2 H2 => wipe σ2 [s] = wipe σ [s] ∧ tYes σ2 H2 fun b H3 =>
        if b = true then te σ2 H3 fun y H4 => ∃ acc, H4 D = some (.lst acc) ∧ acc.length < sizeLine ∧ Nx (upd H4 D (.lst (acc ++ [y]))) else Nx H3) :=
  lc_step (CompSo (fun i v _ => xs[i]? = some v) H1 D) (comp_start fresh)
    (fun i H hi so => comp_turn (fun _ _ _ _ h _ => h) hz fresh hi so fun H sm Q' hQ => by
      have hx : xs[i]? = some xs[i] := List.getElem?_eq_getElem (by omega)
      exact elt i _ hx H sm Q' fun H' sm' => hQ _ H' sm' hx)
    fun H ⟨sm, ys, hD, hlen, hP⟩ => hd H sm (by
      have e : ys = xs := by
        refine List.ext_getElem? fun i => ?_
        cases q : ys[i]? with
        | none =>
          have := List.getElem?_eq_none_iff.mp q
          exact (List.getElem?_eq_none (by omega)).symm
        | some v => exact (hP i v q).symm
      rw [← e]
      exact hD)
end
theorem rg0 {m : Nat} (h : m ≤ 1000000) : RgC 0 ((2 * m : Nat) : Int) 2 m := by
  have hs : Builtin.Range.rangeSize 0 ((2 * m : Nat) : Int) 2 = m := by
    unfold Builtin.Range.rangeSize
    rw [if_pos (by decide)]
    split <;> omega
  refine ⟨by decide, by decide, ?_, hs⟩
  unfold Builtin.Range.small
  rw [hs]
  have j1 : (0 : Int) ≤ ((2 * m : Nat) : Int) := by omega
  have j2 : ((2 * m : Nat) : Int) ≤ 2000000 := by omega
  have m1 : (0 : Int) ≤ (m : Int) := by omega
  have m2 : (m : Int) ≤ 1000000 := by omega
  clear hs
  generalize ((2 * m : Nat) : Int) = j at *
  generalize (m : Int) = k at *
  simp only [Builtin.Range.rangeFitsLong, Bool.and_eq_true, Bool.or_eq_true, decide_eq_true_eq, beq_iff_eq, show (2 : Int) > 0 by decide, if_true]
  omega
theorem rg1 {m : Nat} (h : m ≤ 1000000) : RgC 1 ((2 * m : Nat) : Int) 2 m := by
  have hs : Builtin.Range.rangeSize 1 ((2 * m : Nat) : Int) 2 = m := by
    unfold Builtin.Range.rangeSize
    rw [if_pos (by decide)]
    split <;> omega
  refine ⟨by decide, by decide, ?_, hs⟩
  unfold Builtin.Range.small
  rw [hs]
  have j1 : (0 : Int) ≤ ((2 * m : Nat) : Int) := by omega
  have j2 : ((2 * m : Nat) : Int) ≤ 2000000 := by omega
  have m1 : (0 : Int) ≤ (m : Int) := by omega
  have m2 : (m : Int) ≤ 1000000 := by omega
  clear hs
  generalize ((2 * m : Nat) : Int) = j at *
  generalize (m : Int) = k at *
  simp only [Builtin.Range.rangeFitsLong, Bool.and_eq_true, Bool.or_eq_true, decide_eq_true_eq, beq_iff_eq, show (2 : Int) > 0 by decide, if_true]
  omega
/-- a shape moved -/
def Sh.mv (dx dy : Int) : Sh → Sh
  | .rect x y w h => .rect (x + dx) (y + dy) w h
  | .line x y u v => .line (x + dx) (y + dy) (u + dx) (v + dy)
  | .poly p ps => .poly (p.1 + dx, p.2 + dy) (ps.map fun q => (q.1 + dx, q.2 + dy))
  | .circ x y r => .circ (x + dx) (y + dy) r
  | .tS x y l => .tS (x + dx) (y + dy) l
  | .tM x y l => .tM (x + dx) (y + dy) l
  | .tE x y l => .tE (x + dx) (y + dy) l
theorem Sh.mv_name {s : Sh} {dx dy : Int} : (s.mv dx dy).name = s.name := by cases s <;> rfl
theorem Sh.mv_txt {s : Sh} {dx dy : Int} : (s.mv dx dy).txt = s.txt := by cases s <;> rfl
theorem Sh.mv_cor {s : Sh} {dx dy : Int} : (s.mv dx dy).cor = s.cor.map fun q => (q.1 + dx, q.2 + dy) := by cases s <;> rfl
theorem Sh.mv_len {s : Sh} {dx dy : Int} : (s.mv dx dy).pts.length = s.pts.length := by
  cases s <;> first | rfl | skip
  rename_i p ps
  show (flat (_ :: _)).length = (flat (p :: ps)).length
  rw [flat_len, flat_len, List.length_cons, List.length_cons, List.length_map]
theorem ShOk.mv {s : Sh} {dx dy : Int} (h : ShOk s) : ShOk (s.mv dx dy) := ⟨by rw [Sh.mv_txt]; exact h.word, by rw [Sh.mv_txt]; exact h.tlen, by rw [Sh.mv_len]; exact h.plen⟩
theorem IsBB.mv {ps : List (Int × Int)} {r : R} {dx dy : Int} (h : IsBB ps r) : IsBB (ps.map fun q => (q.1 + dx, q.2 + dy)) ⟨r.l + dx, r.t + dy, r.w, r.h⟩ := by
  obtain ⟨h1, h2, h3, h4, h5, h6, h7, h8⟩ := h
  refine ⟨?_, ?_, ?_, ?_, ?_, ?_, ?_, ?_⟩
  · obtain ⟨p, a, b⟩ := List.mem_map.mp h1
    exact List.mem_map.mpr ⟨_, List.mem_map.mpr ⟨p, a, rfl⟩, by show p.1 + dx = r.l + dx; omega⟩
  · intro q hq
    obtain ⟨p, a, rfl⟩ := List.mem_map.mp hq
    have := h2 p a
    show r.l + dx ≤ p.1 + dx
    omega
  · obtain ⟨p, a, b⟩ := List.mem_map.mp h3
    exact List.mem_map.mpr ⟨_, List.mem_map.mpr ⟨p, a, rfl⟩, by show p.2 + dy = r.t + dy; omega⟩
  · intro q hq
    obtain ⟨p, a, rfl⟩ := List.mem_map.mp hq
    have := h4 p a
    show r.t + dy ≤ p.2 + dy
    omega
  · obtain ⟨p, a, b⟩ := List.mem_map.mp h5
    exact List.mem_map.mpr ⟨_, List.mem_map.mpr ⟨p, a, rfl⟩, by show p.1 + dx = r.l + dx + r.w - 1; omega⟩
  · intro q hq
    obtain ⟨p, a, rfl⟩ := List.mem_map.mp hq
    have := h6 p a
    show p.1 + dx ≤ r.l + dx + r.w - 1
    omega
  · obtain ⟨p, a, b⟩ := List.mem_map.mp h7
    exact List.mem_map.mpr ⟨_, List.mem_map.mpr ⟨p, a, rfl⟩, by show p.2 + dy = r.t + dy + r.h - 1; omega⟩
  · intro q hq
    obtain ⟨p, a, rfl⟩ := List.mem_map.mp hq
    have := h8 p a
    show p.2 + dy ≤ r.t + dy + r.h - 1
    omega
theorem IsBox.mv {s : Sh} {r : R} {dx dy : Int} (h : IsBox s r) : IsBox (s.mv dx dy) ⟨r.l + dx, r.t + dy, r.w, r.h⟩ := by
  cases s with
  | line x y u v => exact IsBB.mv h
  | poly p ps => exact IsBB.mv h
  | rect x y w k => rw [show r = _ from h] <;> rfl
  | circ x y q => rw [show r = _ from h]; show R.mk _ _ _ _ = R.mk _ _ _ _; congr 1 <;> simp only <;> omega
  | tS x y l => rw [show r = _ from h] <;> rfl
  | tM x y l => rw [show r = _ from h]; show R.mk _ _ _ _ = R.mk _ _ _ _; congr 1 <;> simp only <;> omega
  | tE x y l => rw [show r = _ from h]; show R.mk _ _ _ _ = R.mk _ _ _ _; congr 1 <;> simp only <;> omega
def sp_law_shifted (K : PySem.W.Frag) : Sp := fun vs H Q _ => ∃ (s : Sh) (v : V) (dx dy : Int), vs = [.str s.name, v, .int dx, .int dy] ∧ Tup K H v (iv s.pts) ∧ s.pts.length ≤ 1000 ∧ ∀ x H', Same H H' → Tup K H' x (iv (s.mv dx dy).pts) → Q x H'
/-- a drawn form: its three parts, and what is known of its size -/
structure Drawn (K : PySem.W.Frag) (H : Hp) (x : V) (s : Sh) : Prop where
  rad : ∀ a b q, s = .circ a b q → 0 ≤ q
  ok : ShOk s
  sm : ∀ z ∈ s.pts, -1000 ≤ z ∧ z ≤ 1000
  at_ : ∃ (a : Addr) (v : V), x = .ref a ∧ SqT K H a [.str s.name, v, .str (S s.txt)] ∧ Tup K H v (iv s.pts)
def sp_law_form (K : PySem.W.Frag) : Sp := fun vs H Q _ => ∃ (t l : Addr) (m : Int), vs = [.ref t, .int m] ∧ TapeAt H t l ∧ 1 ≤ m ∧ m ≤ 100 ∧ ∀ x s H', TapeAt H' t l → Gr t H H' → Drawn K H' x s → Q x H'
theorem small_box {s : Sh} {r : R} (h : IsBox s r) (ok : ShOk s) (sm : ∀ z ∈ s.pts, -1000 ≤ z ∧ z ≤ 1000) : ∀ z ∈ [r.l, r.t, r.w, r.h], -1000000 ≤ z ∧ z ≤ 1000000 := by
  have hc : ∀ ps : List (Int × Int), (∀ z ∈ flat ps, -1000 ≤ z ∧ z ≤ 1000) → ∀ p ∈ ps, (-1000 ≤ p.1 ∧ p.1 ≤ 1000) ∧ (-1000 ≤ p.2 ∧ p.2 ≤ 1000) := by
    intro ps
    induction ps with
    | nil => intro _ p hp; cases hp
    | cons q r ih =>
      intro hz p hp
      rcases List.mem_cons.mp hp with rfl | hp
      · exact ⟨hz _ (List.mem_cons_self ..), hz _ (List.mem_cons_of_mem _ (List.mem_cons_self ..))⟩
      · exact ih (fun z hz' => hz z (List.mem_cons_of_mem _ (List.mem_cons_of_mem _ hz'))) p hp
  have hb : ∀ ps : List (Int × Int), (∀ z ∈ flat ps, -1000 ≤ z ∧ z ≤ 1000) → IsBB ps r → ∀ z ∈ [r.l, r.t, r.w, r.h], -1000000 ≤ z ∧ z ≤ 1000000 := by
    intro ps hz b
    have hc := hc ps hz
    obtain ⟨p1, a1, b1⟩ := List.mem_map.mp b.l1
    obtain ⟨p2, a2, b2⟩ := List.mem_map.mp b.t1
    obtain ⟨p3, a3, b3⟩ := List.mem_map.mp b.r1
    obtain ⟨p4, a4, b4⟩ := List.mem_map.mp b.b1
    have := hc _ a1; have := hc _ a2; have := hc _ a3; have := hc _ a4
    intro z hz
    simp only [List.mem_cons, List.not_mem_nil, or_false] at hz
    omega
  cases s with
  | line x y u v => exact hb [(x, y), (u, v)] sm h
  | poly p ps => exact hb (p :: ps) sm h
  | rect x y w k => rw [show r = _ from h]; exact fun z hz => by have := sm z hz; omega
  | circ x y q =>
    rw [show r = _ from h]
    have a1 := sm x (by simp [Sh.pts]); have a2 := sm y (by simp [Sh.pts]); have a3 := sm q (by simp [Sh.pts])
    intro z hz
    simp only [List.mem_cons, List.not_mem_nil, or_false] at hz
    omega
  | tS x y l =>
    rw [show r = _ from h]
    have a1 := sm x (by simp [Sh.pts]); have a2 := sm y (by simp [Sh.pts])
    have := tw_nn l; have := tw_le l; have := ok.tlen; simp only [Sh.txt] at this
    intro z hz
    simp only [List.mem_cons, List.not_mem_nil, or_false] at hz
    omega
  | tM x y l =>
    rw [show r = _ from h]
    have a1 := sm x (by simp [Sh.pts]); have a2 := sm y (by simp [Sh.pts])
    have := tw_nn l; have := tw_le l; have := ok.tlen; simp only [Sh.txt] at this
    intro z hz
    simp only [List.mem_cons, List.not_mem_nil, or_false] at hz
    omega
  | tE x y l =>
    rw [show r = _ from h]
    have a1 := sm x (by simp [Sh.pts]); have a2 := sm y (by simp [Sh.pts])
    have := tw_nn l; have := tw_le l; have := ok.tlen; simp only [Sh.txt] at this
    intro z hz
    simp only [List.mem_cons, List.not_mem_nil, or_false] at hz
    omega
theorem rgf0 {ps : List (Int × Int)} (h : (flat ps).length ≤ 1000) : RgC 0 ((iv (flat ps)).length : Int) 2 ps.length := by
  have := flat_len ps
  rw [show (iv (flat ps)).length = 2 * ps.length from by rw [iv, List.length_map, flat_len]]
  exact rg0 (by omega)
theorem rgf1 {ps : List (Int × Int)} (h : (flat ps).length ≤ 1000) : RgC 1 ((iv (flat ps)).length : Int) 2 ps.length := by
  have := flat_len ps
  rw [show (iv (flat ps)).length = 2 * ps.length from by rw [iv, List.length_map, flat_len]]
  exact rg1 (by omega)
theorem fx {ps : List (Int × Int)} {i : Nat} {v : V} (h : ((ps.map (·.1)).map V.int)[i]? = some v) : atI (iv (flat ps)) (0 + (i : Int) * 2) = some v := by
  rw [List.getElem?_map, List.getElem?_map] at h
  cases q : ps[i]? with
  | none => rw [q] at h; cases h
  | some p =>
    rw [q] at h
    rw [show (0 : Int) + (i : Int) * 2 = ((2 * i : Nat) : Int) from by omega]
    refine atI_nat ?_
    rw [iv, List.getElem?_map, (flat_at ps i p q).1]
    exact h
theorem fy {ps : List (Int × Int)} {i : Nat} {v : V} (h : ((ps.map (·.2)).map V.int)[i]? = some v) : atI (iv (flat ps)) (1 + (i : Int) * 2) = some v := by
  rw [List.getElem?_map, List.getElem?_map] at h
  cases q : ps[i]? with
  | none => rw [q] at h; cases h
  | some p =>
    rw [q] at h
    rw [show (1 : Int) + (i : Int) * 2 = ((2 * i + 1 : Nat) : Int) from by omega]
    refine atI_nat ?_
    rw [iv, List.getElem?_map, (flat_at ps i p q).2]
    exact h
def Sh.tag : Sh → Nat
  | .rect .. => 0
  | .line .. => 1
  | .poly .. => 2
  | .circ .. => 3
  | .tS .. => 4
  | .tM .. => 5
  | .tE .. => 6
theorem nm0 {s : Sh} : s.name = Str.ofString "rectangle" ↔ s.tag = 0 := by
  cases s <;> first | exact ⟨fun _ => rfl, fun _ => rfl⟩ | exact ⟨fun h => absurd h (by show ¬ Str.ofString _ = Str.ofString _; decide +kernel), fun h => by cases h⟩
theorem nm1 {s : Sh} : s.name = Str.ofString "line" ↔ s.tag = 1 := by
  cases s <;> first | exact ⟨fun _ => rfl, fun _ => rfl⟩ | exact ⟨fun h => absurd h (by show ¬ Str.ofString _ = Str.ofString _; decide +kernel), fun h => by cases h⟩
theorem nm2 {s : Sh} : s.name = Str.ofString "polyline" ↔ s.tag = 2 := by
  cases s <;> first | exact ⟨fun _ => rfl, fun _ => rfl⟩ | exact ⟨fun h => absurd h (by show ¬ Str.ofString _ = Str.ofString _; decide +kernel), fun h => by cases h⟩
theorem nm3 {s : Sh} : s.name = Str.ofString "circle" ↔ s.tag = 3 := by
  cases s <;> first | exact ⟨fun _ => rfl, fun _ => rfl⟩ | exact ⟨fun h => absurd h (by show ¬ Str.ofString _ = Str.ofString _; decide +kernel), fun h => by cases h⟩
theorem nm4 {s : Sh} : s.name = Str.ofString "text start" ↔ s.tag = 4 := by
  cases s <;> first | exact ⟨fun _ => rfl, fun _ => rfl⟩ | exact ⟨fun h => absurd h (by show ¬ Str.ofString _ = Str.ofString _; decide +kernel), fun h => by cases h⟩
theorem nm5 {s : Sh} : s.name = Str.ofString "text middle" ↔ s.tag = 5 := by
  cases s <;> first | exact ⟨fun _ => rfl, fun _ => rfl⟩ | exact ⟨fun h => absurd h (by show ¬ Str.ofString _ = Str.ofString _; decide +kernel), fun h => by cases h⟩
theorem nm6 {s : Sh} : s.name = Str.ofString "text end" ↔ s.tag = 6 := by
  cases s <;> first | exact ⟨fun _ => rfl, fun _ => rfl⟩ | exact ⟨fun h => absurd h (by show ¬ Str.ofString _ = Str.ofString _; decide +kernel), fun h => by cases h⟩
theorem inK {X : Cx} (K : PySem.W.Frag) (h : X.K = K := by rfl) : OpR X (compareOp .In) (rIn K false) := h ▸ op_in_seq
theorem notInK {X : Cx} (K : PySem.W.Frag) (h : X.K = K := by rfl) : OpR X (compareOp .NotIn) (rIn K true) := h ▸ op_notIn_seq
theorem in_lp {s : Sh} : inV (.str s.name) [.str (Str.ofString "line"), .str (Str.ofString "polyline")] = decide (s.cor ≠ []) := by
  cases s with
  | line x y u v => rw [decide_eq_true (by intro h; cases h)]; show inV (.str (Str.ofString _)) _ = true; decide +kernel
  | poly p ps => rw [decide_eq_true (by intro h; cases h)]; show inV (.str (Str.ofString _)) _ = true; decide +kernel
  | rect _ _ _ _ => rw [decide_eq_false (fun h => h rfl)]; show inV (.str (Str.ofString _)) _ = false; decide +kernel
  | circ _ _ _ => rw [decide_eq_false (fun h => h rfl)]; show inV (.str (Str.ofString _)) _ = false; decide +kernel
  | tS _ _ _ => rw [decide_eq_false (fun h => h rfl)]; show inV (.str (Str.ofString _)) _ = false; decide +kernel
  | tM _ _ _ => rw [decide_eq_false (fun h => h rfl)]; show inV (.str (Str.ofString _)) _ = false; decide +kernel
  | tE _ _ _ => rw [decide_eq_false (fun h => h rfl)]; show inV (.str (Str.ofString _)) _ = false; decide +kernel
theorem IsBox.cor {s : Sh} {r : R} (h : s.cor ≠ []) (b : IsBB s.cor r) : IsBox s r := by
  cases s <;> first | exact b | exact absurd rfl h
theorem tag_cor {s : Sh} : (s.tag = 1 ∨ s.tag = 2) ↔ s.cor ≠ [] := by
  cases s <;> simp [Sh.tag, Sh.cor]
theorem Drawn.of {K : PySem.W.Frag} {H : Hp} {p q : Addr} {s : Sh} (rad : ∀ a b q, s = .circ a b q → 0 ≤ q) (ok : ShOk s) (sm : ∀ z ∈ s.pts, -1000 ≤ z ∧ z ≤ 1000) (hS : SqT K H p (iv s.pts)) (hq : H q = none) : Drawn K (upd H q (.tup [.str s.name, .ref p, .str (S s.txt)])) (.ref q) s :=
  ⟨rad, ok, sm, q, .ref p, rfl, SqT.of upd_same, p, rfl, (Im.new hq).sqT hS⟩
theorem Drawn.of0 {K : PySem.W.Frag} {H : Hp} {p q : Addr} {s : Sh} (rad : ∀ a b q, s = .circ a b q → 0 ≤ q) (e : s.txt = []) (hl : s.pts.length ≤ 1000) (sm : ∀ z ∈ s.pts, -1000 ≤ z ∧ z ≤ 1000) (hS : SqT K H p (iv s.pts)) (hq : H q = none) : Drawn K (upd H q (.tup [.str s.name, .ref p, .str (Str.ofString "")])) (.ref q) s := by
  have := Drawn.of (s := s) rad ⟨by rw [e]; exact Word.nil, by rw [e]; exact Nat.zero_le _, hl⟩ sm hS hq
  rw [e, S_lit] at this
  exact this
theorem all4 {a b c d : Int} {P : Int → Prop} (h1 : P a) (h2 : P b) (h3 : P c) (h4 : P d) : ∀ z ∈ [a, b, c, d], P z := by
  intro z hz
  simp only [List.mem_cons, List.not_mem_nil, or_false] at hz
  rcases hz with rfl | rfl | rfl | rfl <;> assumption
theorem all3 {a b c : Int} {P : Int → Prop} (h1 : P a) (h2 : P b) (h3 : P c) : ∀ z ∈ [a, b, c], P z := by
  intro z hz
  simp only [List.mem_cons, List.not_mem_nil, or_false] at hz
  rcases hz with rfl | rfl | rfl <;> assumption
theorem all2 {a b : Int} {P : Int → Prop} (h1 : P a) (h2 : P b) : ∀ z ∈ [a, b], P z := by
  intro z hz
  simp only [List.mem_cons, List.not_mem_nil, or_false] at hz
  rcases hz with rfl | rfl <;> assumption
def sp_law_holds (K : PySem.W.Frag) : Sp := sp_contains K
theorem cut4 {s : Sh} : cutS s.name none (some 4) = Str.ofString "text" ↔ s.cor = [] ∧ s.tag ≠ 0 ∧ s.tag ≠ 3 := by
  cases s with
  | line _ _ _ _ => exact ⟨fun h => absurd h (by show ¬ cutS (Str.ofString _) _ _ = _; decide +kernel), fun h => by cases h.1⟩
  | poly _ _ => exact ⟨fun h => absurd h (by show ¬ cutS (Str.ofString _) _ _ = _; decide +kernel), fun h => by cases h.1⟩
  | rect _ _ _ _ => exact ⟨fun h => absurd h (by show ¬ cutS (Str.ofString _) _ _ = _; decide +kernel), fun h => absurd rfl h.2.1⟩
  | circ _ _ _ => exact ⟨fun h => absurd h (by show ¬ cutS (Str.ofString _) _ _ = _; decide +kernel), fun h => absurd rfl h.2.2⟩
  | tS _ _ _ => exact ⟨fun _ => ⟨rfl, (by intro h; cases h), (by intro h; cases h)⟩, fun _ => by show cutS (Str.ofString _) _ _ = _; decide +kernel⟩
  | tM _ _ _ => exact ⟨fun _ => ⟨rfl, (by intro h; cases h), (by intro h; cases h)⟩, fun _ => by show cutS (Str.ofString _) _ _ = _; decide +kernel⟩
  | tE _ _ _ => exact ⟨fun _ => ⟨rfl, (by intro h; cases h), (by intro h; cases h)⟩, fun _ => by show cutS (Str.ofString _) _ _ = _; decide +kernel⟩
theorem nocor {s : Sh} {dx dy : Int} (h : s.cor = []) : ∃ x y r, s.pts = x :: y :: r ∧ (s.mv dx dy).pts = (x + dx) :: (y + dy) :: r := by
  cases s with
  | line _ _ _ _ => cases h
  | poly _ _ => cases h
  | rect x y w k => exact ⟨x, y, [w, k], rfl, rfl⟩
  | circ x y q => exact ⟨x, y, [q], rfl, rfl⟩
  | tS x y l => exact ⟨x, y, [], rfl, rfl⟩
  | tM x y l => exact ⟨x, y, [], rfl, rfl⟩
  | tE x y l => exact ⟨x, y, [], rfl, rfl⟩
theorem cut_2 {a b : V} {r : List V} : cutV (a :: b :: r) (some 2) none = r := by rw [cut_from (by decide)] <;> rfl
theorem six2 {n : Nat} : HT.sIx (n + 2) 0 (some 2) = 2 := by
  rw [show (2 : Int) = ((2 : Nat) : Int) from rfl, HT.sIx_nat]
  omega
theorem nm_len (s : Sh) : s.name.length ≤ 16 := by cases s <;> (show (Str.ofString _).length ≤ 16; decide +kernel)
theorem fx1 {ps : List (Int × Int)} {i : Nat} {q : Int × Int} (h : ps[i]? = some q) : atI (iv (flat ps)) (0 + (i : Int) * 2) = some (V.int q.1) := fx (by rw [List.getElem?_map, List.getElem?_map, h]; rfl)
theorem fy1 {ps : List (Int × Int)} {i : Nat} {q : Int × Int} (h : ps[i]? = some q) : atI (iv (flat ps)) (0 + (i : Int) * 2 + 1) = some (V.int q.2) := by
  rw [show (0 : Int) + (i : Int) * 2 + 1 = 1 + (i : Int) * 2 from by omega]
  exact fy (by rw [List.getElem?_map, List.getElem?_map, h]; rfl)
theorem flat_take {ps : List (Int × Int)} {i : Nat} {q : Int × Int} {f : Int × Int → Int × Int} (h : ps[i]? = some q) : iv (flat ((ps.take (i + 1)).map f)) = iv (flat ((ps.take i).map f)) ++ [V.int (f q).1, V.int (f q).2] := by
  rw [List.take_add_one, h, List.map_append, flat_app, iv, List.map_append]
  rfl
end Cs

set_option maxRecDepth 100000
set_option maxHeartbeats 4000000
/-! what shapes cover -/
namespace Cs
open PySem PySem.Spec PyProof.Rows L2
def ab (i : Int) : Int := if i < 0 then -i else i
/-- how far (x, y) is from the line, times its size -/
def off (p q : Int × Int) (x y : Int) : Int := (y - p.2) * (q.1 - p.1) - (x - p.1) * (q.2 - p.2)
def near (p q : Int × Int) (x y : Int) : Bool := decide (2 * ab (off p q x y) ≤ max (ab (q.1 - p.1)) (ab (q.2 - p.2)))
def between (p q : Int × Int) (x y : Int) : Bool := decide (min p.1 q.1 ≤ x ∧ x ≤ max p.1 q.1 ∧ min p.2 q.2 ≤ y ∧ y ≤ max p.2 q.2)
def onl (p q : Int × Int) (x y : Int) : Bool := between p q x y && near p q x y
theorem ab_nn (i : Int) : 0 ≤ ab i := by unfold ab; split <;> omega
theorem ab_neg (i : Int) : ab (-i) = ab i := by unfold ab; split <;> split <;> omega
theorem off_swap (p q : Int × Int) (x y : Int) : off q p x y = - off p q x y := by
  unfold off
  grind
theorem onl_swap (p q : Int × Int) (x y : Int) : onl q p x y = onl p q x y := by
  have e1 : between q p x y = between p q x y := by
    unfold between
    rw [Int.min_comm, Int.max_comm, Int.min_comm q.2, Int.max_comm q.2]
  have e2 : near q p x y = near p q x y := by
    unfold near
    rw [off_swap, ab_neg, show p.1 - q.1 = -(q.1 - p.1) from by omega, show p.2 - q.2 = -(q.2 - p.2) from by omega, ab_neg, ab_neg]
  unfold onl
  rw [e1, e2]
theorem onl_end (p q : Int × Int) : onl p q p.1 p.2 = true := by
  have e : off p q p.1 p.2 = 0 := by unfold off; rw [Int.sub_self, Int.sub_self, Int.zero_mul, Int.zero_mul]; rfl
  unfold onl between near
  rw [e]
  have := ab_nn (q.1 - p.1)
  have h0 : ab 0 = 0 := rfl
  rw [h0, Bool.and_eq_true, decide_eq_true_eq, decide_eq_true_eq]
  omega
theorem has_bb {p q : Int × Int} {r : R} (h : IsBB [p, q] r) (x y : Int) : has r x y = between p q x y := by
  have a1 := h.l1; have a2 := h.t1; have a3 := h.r1; have a4 := h.b1
  have b1 := h.l2 p (by simp); have b2 := h.l2 q (by simp); have b3 := h.t2 p (by simp); have b4 := h.t2 q (by simp)
  have b5 := h.r2 p (by simp); have b6 := h.r2 q (by simp); have b7 := h.b2 p (by simp); have b8 := h.b2 q (by simp)
  simp only [List.map_cons, List.map_nil, List.mem_cons, List.not_mem_nil, or_false] at a1 a2 a3 a4
  rw [Bool.eq_iff_iff]
  simp only [has, between, Bool.and_eq_true, decide_eq_true_eq]
  omega
theorem onl_same {p : Int × Int} (x y : Int) : onl p p x y = decide (p = (x, y)) := by
  obtain ⟨a, b⟩ := p
  rw [Bool.eq_iff_iff]
  unfold onl between near off
  simp only [Bool.and_eq_true, decide_eq_true_eq, Prod.mk.injEq]
  constructor
  · rintro ⟨h, _⟩; omega
  · rintro ⟨rfl, rfl⟩
    refine ⟨by omega, ?_⟩
    simp [ab]
/-- one of the lines from point to point -/
def chain : List (Int × Int) → Int → Int → Bool
  | p :: q :: r, x, y => onl p q x y || chain (q :: r) x y
  | _, _, _ => false
def pol (p : Int × Int) (ps : List (Int × Int)) (x y : Int) : Bool := if ps = [] then decide (p = (x, y)) else chain (p :: ps) x y
def cov : Sh → Int → Int → Bool
  | .rect a b u v, x, y => has ⟨a, b, u, v⟩ x y
  | .line a b c d, x, y => onl (a, b) (c, d) x y
  | .poly p ps, x, y => pol p ps x y
  | .circ a b q, x, y => decide ((x - a) ^ 2 + (y - b) ^ 2 ≤ q * q + q)
  | .tS a b l, x, y => inkT l (x - a) (y - b)
  | .tM a b l, x, y => inkT l (x - (a - tw l / 2)) (y - b)
  | .tE a b l, x, y => inkT l (x - (a - tw l)) (y - b)
/-- of a size at which all products stay small -/
def Nr (z : Int) : Prop := -1000000000 ≤ z ∧ z ≤ 1000000000
def sp_line_covers (K : PySem.W.Frag) : Sp := fun vs H Q _ => ∃ (v : V) (p q : Int × Int) (x y : Int), vs = [v, .int x, .int y] ∧ Tup K H v (iv (flat [p, q])) ∧ (∀ z ∈ flat [p, q], Nr z) ∧ Nr x ∧ Nr y ∧ ∀ H', Same H H' → Q (.bl (onl p q x y)) H'
def sp_law_on_line (K : PySem.W.Frag) : Sp := sp_line_covers K
def sp_polyline_covers (K : PySem.W.Frag) : Sp := fun vs H Q _ => ∃ (v : V) (p : Int × Int) (ps : List (Int × Int)) (x y : Int), vs = [v, .int x, .int y] ∧ Tup K H v (iv (flat (p :: ps))) ∧ (flat (p :: ps)).length ≤ 1000 ∧ (∀ z ∈ flat (p :: ps), Nr z) ∧ Nr x ∧ Nr y ∧ ∀ H', Same H H' → Q (.bl (pol p ps x y)) H'
def sp_circle_covers (K : PySem.W.Frag) : Sp := fun vs H Q _ => ∃ (v : V) (a b q x y : Int), vs = [v, .int x, .int y] ∧ Tup K H v (iv [a, b, q]) ∧ Nr a ∧ Nr b ∧ Nr q ∧ Nr x ∧ Nr y ∧ ∀ H', Same H H' → Q (.bl (decide ((x - a) ^ 2 + (y - b) ^ 2 ≤ q * q + q))) H'
def sp_covers (K : PySem.W.Frag) : Sp := fun vs H Q _ => ∃ (s : Sh) (v : V) (x y : Int), vs = [.str s.name, v, .str (S s.txt), .int x, .int y] ∧ Tup K H v (iv s.pts) ∧ ShOk s ∧ (∀ z ∈ s.pts, Nr z) ∧ Nr x ∧ Nr y ∧ ∀ H', Same H H' → Q (.bl (cov s x y)) H'
def sp_law_covers (K : PySem.W.Frag) : Sp := sp_covers K
theorem pol_cor {s : Sh} (h : s.cor ≠ []) : ∃ p ps, s.cor = p :: ps ∧ ∀ x y, cov s x y = pol p ps x y := by
  cases s with
  | line a b c d =>
    refine ⟨(a, b), [(c, d)], rfl, fun x y => ?_⟩
    show onl (a, b) (c, d) x y = if [(c, d)] = [] then _ else (onl (a, b) (c, d) x y || false)
    rw [if_neg (by intro h; cases h), Bool.or_false]
  | poly p ps => exact ⟨p, ps, rfl, fun x y => rfl⟩
  | rect _ _ _ _ => exact absurd rfl h
  | circ _ _ _ => exact absurd rfl h
  | tS _ _ _ => exact absurd rfl h
  | tM _ _ _ => exact absurd rfl h
  | tE _ _ _ => exact absurd rfl h
theorem rg1_ : RgC 0 1 2 1 := ⟨by decide, by decide, by decide +kernel, by decide +kernel⟩
end Cs

set_option maxRecDepth 100000
set_option maxHeartbeats 4000000
/-! a polyline, line by line, as the law walks it -/
namespace Cs
open PySem PySem.Spec PyProof.Rows L2
theorem chain_one {l : List (Int × Int)} (h : l.length ≤ 1) (x y : Int) : chain l x y = false := by
  match l, h with
  | [], _ => rfl
  | [_], _ => rfl
  | _ :: _ :: _, h => simp only [List.length_cons] at h; omega
def gst (p : Int × Int) (ps : List (Int × Int)) (x y : Int) (i : Nat) : Bool := if ps = [] then (if i = 0 then onl p p x y else false) else chain ((p :: ps).drop i) x y
def gm (ps : List (Int × Int)) : Nat := if ps = [] then 1 else ps.length
theorem gst0 (p : Int × Int) (ps : List (Int × Int)) (x y : Int) : gst p ps x y 0 = pol p ps x y := by
  unfold gst pol
  by_cases h : ps = []
  · rw [if_pos h, if_pos h, if_pos rfl, onl_same]
  · rw [if_neg h, if_neg h, List.drop_zero]
theorem gst_end (p : Int × Int) (ps : List (Int × Int)) (x y : Int) : gst p ps x y (gm ps) = false := by
  unfold gst gm
  by_cases h : ps = []
  · rw [if_pos h, if_pos h, if_neg (by decide)]
  · rw [if_neg h, if_neg h]
    exact chain_one (by rw [List.length_drop, List.length_cons]; omega) x y
theorem iv_len (p : Int × Int) (ps : List (Int × Int)) : ((iv (flat (p :: ps))).length : Int) - 2 = 2 * (ps.length : Int) := by
  rw [iv, List.length_map, flat_len, List.length_cons]
  omega
theorem gst_step {p : Int × Int} {ps : List (Int × Int)} {x y : Int} {i : Nat} (h : i < gm ps) :
    ∃ (u v : Int × Int) (j : Nat), (p :: ps)[i]? = some u ∧ (p :: ps)[j]? = some v ∧ (if ((iv (flat (p :: ps))).length : Int) - 2 < 0 + (i : Int) * 2 + 2 then ((iv (flat (p :: ps))).length : Int) - 2 else 0 + (i : Int) * 2 + 2) = 0 + (j : Int) * 2 ∧ gst p ps x y i = (onl u v x y || gst p ps x y (i + 1)) := by
  rw [iv_len]
  unfold gm at h
  by_cases e : ps = []
  · rw [if_pos e] at h
    have : i = 0 := by omega
    subst this
    subst e
    refine ⟨p, p, 0, rfl, rfl, by rw [if_pos (by simp)]; simp, ?_⟩
    unfold gst
    simp
  · rw [if_neg e] at h
    have h1 : i < (p :: ps).length := by rw [List.length_cons]; omega
    have h2 : i + 1 < (p :: ps).length := by rw [List.length_cons]; omega
    refine ⟨(p :: ps)[i], (p :: ps)[i + 1], i + 1, List.getElem?_eq_getElem h1, List.getElem?_eq_getElem h2, by rw [if_neg (by omega)]; omega, ?_⟩
    unfold gst
    rw [if_neg e, if_neg e, List.drop_eq_getElem_cons h1, List.drop_eq_getElem_cons h2]
    rfl
theorem gst_rg {p : Int × Int} {ps : List (Int × Int)} (h : (flat (p :: ps)).length ≤ 1000) : RgC 0 (if (1 : Int) > ((iv (flat (p :: ps))).length : Int) - 2 then 1 else ((iv (flat (p :: ps))).length : Int) - 2) 2 (gm ps) := by
  rw [iv_len]
  rw [flat_len, List.length_cons] at h
  unfold gm
  by_cases e : ps = []
  · subst e
    rw [if_pos (by simp), if_pos rfl]
    exact rg1_
  · have : ps.length ≠ 0 := fun z => e (List.length_eq_zero_iff.mp z)
    rw [if_neg e, if_neg (by omega), show 2 * (ps.length : Int) = ((2 * ps.length : Nat) : Int) from by omega]
    exact rg0 (by omega)
theorem nr_at {ps : List (Int × Int)} {i : Nat} {u : Int × Int} (h : ps[i]? = some u) (nz : ∀ z ∈ flat ps, Nr z) : Nr u.1 ∧ Nr u.2 := by
  obtain ⟨a, b⟩ := flat_at ps i u h
  exact ⟨nz _ (List.mem_of_getElem? a), nz _ (List.mem_of_getElem? b)⟩
theorem not_cor {s : Sh} (hc : ¬ s.cor ≠ []) (e0 : ¬ s.tag = 0) (e3 : ¬ s.tag = 3) : ∃ x y l, s = .tS x y l ∨ s = .tM x y l ∨ s = .tE x y l := by
  cases s with
  | rect _ _ _ _ => exact absurd rfl e0
  | line _ _ _ _ => exact absurd (by intro h; cases h) hc
  | poly _ _ => exact absurd (by intro h; cases h) hc
  | circ _ _ _ => exact absurd rfl e3
  | tS x y l => exact ⟨x, y, l, Or.inl rfl⟩
  | tM x y l => exact ⟨x, y, l, Or.inr (Or.inl rfl)⟩
  | tE x y l => exact ⟨x, y, l, Or.inr (Or.inr rfl)⟩
theorem cov_text {s : Sh} {r : R} (hs : ∃ x y l, s = .tS x y l ∨ s = .tM x y l ∨ s = .tE x y l) (hb : IsBox s r) (x y : Int) : inkT s.txt (x - r.l) (y - r.t) = cov s x y := by
  obtain ⟨a1, a2, l, hs⟩ := hs
  rcases hs with rfl | rfl | rfl <;> (rw [show r = _ from hb]; rfl)
theorem wide_box {s : Sh} {r : R} (h : IsBox s r) (ok : ShOk s) (sm : ∀ z ∈ s.pts, -30000 ≤ z ∧ z ≤ 30000) : ∀ z ∈ [r.l, r.t, r.w, r.h], -1000000 ≤ z ∧ z ≤ 1000000 := by
  have hc : ∀ ps : List (Int × Int), (∀ z ∈ flat ps, -30000 ≤ z ∧ z ≤ 30000) → ∀ p ∈ ps, (-30000 ≤ p.1 ∧ p.1 ≤ 30000) ∧ (-30000 ≤ p.2 ∧ p.2 ≤ 30000) := by
    intro ps
    induction ps with
    | nil => intro _ p hp; cases hp
    | cons q r ih =>
      intro hz p hp
      rcases List.mem_cons.mp hp with rfl | hp
      · exact ⟨hz _ (List.mem_cons_self ..), hz _ (List.mem_cons_of_mem _ (List.mem_cons_self ..))⟩
      · exact ih (fun z hz' => hz z (List.mem_cons_of_mem _ (List.mem_cons_of_mem _ hz'))) p hp
  have hb : ∀ ps : List (Int × Int), (∀ z ∈ flat ps, -30000 ≤ z ∧ z ≤ 30000) → IsBB ps r → ∀ z ∈ [r.l, r.t, r.w, r.h], -1000000 ≤ z ∧ z ≤ 1000000 := by
    intro ps hz b
    have hc := hc ps hz
    obtain ⟨p1, a1, b1⟩ := List.mem_map.mp b.l1
    obtain ⟨p2, a2, b2⟩ := List.mem_map.mp b.t1
    obtain ⟨p3, a3, b3⟩ := List.mem_map.mp b.r1
    obtain ⟨p4, a4, b4⟩ := List.mem_map.mp b.b1
    have := hc _ a1; have := hc _ a2; have := hc _ a3; have := hc _ a4
    intro z hz
    simp only [List.mem_cons, List.not_mem_nil, or_false] at hz
    omega
  cases s with
  | line x y u v => exact hb [(x, y), (u, v)] sm h
  | poly p ps => exact hb (p :: ps) sm h
  | rect x y w k => rw [show r = _ from h]; exact fun z hz => by have := sm z hz; omega
  | circ x y q =>
    rw [show r = _ from h]
    have a1 := sm x (by simp [Sh.pts]); have a2 := sm y (by simp [Sh.pts]); have a3 := sm q (by simp [Sh.pts])
    intro z hz
    simp only [List.mem_cons, List.not_mem_nil, or_false] at hz
    omega
  | tS x y l =>
    rw [show r = _ from h]
    have a1 := sm x (by simp [Sh.pts]); have a2 := sm y (by simp [Sh.pts])
    have := tw_nn l; have := tw_le l; have := ok.tlen; simp only [Sh.txt] at this
    intro z hz
    simp only [List.mem_cons, List.not_mem_nil, or_false] at hz
    omega
  | tM x y l =>
    rw [show r = _ from h]
    have a1 := sm x (by simp [Sh.pts]); have a2 := sm y (by simp [Sh.pts])
    have := tw_nn l; have := tw_le l; have := ok.tlen; simp only [Sh.txt] at this
    intro z hz
    simp only [List.mem_cons, List.not_mem_nil, or_false] at hz
    omega
  | tE x y l =>
    rw [show r = _ from h]
    have a1 := sm x (by simp [Sh.pts]); have a2 := sm y (by simp [Sh.pts])
    have := tw_nn l; have := tw_le l; have := ok.tlen; simp only [Sh.txt] at this
    intro z hz
    simp only [List.mem_cons, List.not_mem_nil, or_false] at hz
    omega

theorem flat_mv {dx dy : Int} (hx : -19001 ≤ dx ∧ dx ≤ 19001) (hy : -19001 ≤ dy ∧ dy ≤ 19001) : ∀ ps : List (Int × Int), (∀ z ∈ flat ps, -1000 ≤ z ∧ z ≤ 1000) → ∀ z ∈ flat (ps.map fun q => (q.1 + dx, q.2 + dy)), -30000 ≤ z ∧ z ≤ 30000
  | [], _, z, hz => by cases hz
  | p :: r, h, z, hz => by
    have h1 := h p.1 (List.mem_cons_self ..)
    have h2 := h p.2 (List.mem_cons_of_mem _ (List.mem_cons_self ..))
    rcases List.mem_cons.mp hz with e | hz
    · have : z = p.1 + dx := e
      omega
    rcases List.mem_cons.mp hz with e | hz
    · have : z = p.2 + dy := e
      omega
    exact flat_mv hx hy r (fun w hw => h w (List.mem_cons_of_mem _ (List.mem_cons_of_mem _ hw))) z hz
theorem mv_sm {s : Sh} {dx dy : Int} (sm : ∀ z ∈ s.pts, -1000 ≤ z ∧ z ≤ 1000) (hx : -19001 ≤ dx ∧ dx ≤ 19001) (hy : -19001 ≤ dy ∧ dy ≤ 19001) : ∀ z ∈ (s.mv dx dy).pts, -30000 ≤ z ∧ z ≤ 30000 := by
  cases s with
  | poly p ps => exact flat_mv hx hy (p :: ps) sm
  | line x y u v => exact flat_mv hx hy [(x, y), (u, v)] sm
  | rect x y u v =>
    have a1 := sm x (by simp [Sh.pts]); have a2 := sm y (by simp [Sh.pts]); have a3 := sm u (by simp [Sh.pts]); have a4 := sm v (by simp [Sh.pts])
    exact all4 (by omega) (by omega) (by omega) (by omega)
  | circ x y u =>
    have a1 := sm x (by simp [Sh.pts]); have a2 := sm y (by simp [Sh.pts]); have a3 := sm u (by simp [Sh.pts])
    exact all3 (by omega) (by omega) (by omega)
  | tS x y l =>
    have a1 := sm x (by simp [Sh.pts]); have a2 := sm y (by simp [Sh.pts])
    exact all2 (by omega) (by omega)
  | tM x y l =>
    have a1 := sm x (by simp [Sh.pts]); have a2 := sm y (by simp [Sh.pts])
    exact all2 (by omega) (by omega)
  | tE x y l =>
    have a1 := sm x (by simp [Sh.pts]); have a2 := sm y (by simp [Sh.pts])
    exact all2 (by omega) (by omega)
theorem cov_back (a b c d x y : Int) : cov (.line c d a b) x y = cov (.line a b c d) x y := onl_swap (a, b) (c, d) x y
theorem cov_e1 (a b c d : Int) : cov (.line a b c d) a b = true := onl_end (a, b) (c, d)
theorem cov_e2 (a b c d : Int) : cov (.line a b c d) c d = true := (onl_swap (c, d) (a, b) c d).trans (onl_end (c, d) (a, b))
theorem line_vs {a b c d : Int} {v x y : V} : [V.str (Str.ofString "line"), v, V.str (Str.ofString ""), x, y] = [V.str (Sh.line a b c d).name, v, V.str (S (Sh.line a b c d).txt), x, y] := by
  rw [show S (Sh.line a b c d).txt = Str.ofString "" from S_lit]
  rfl
theorem line_ok {a b c d : Int} : ShOk (.line a b c d) := ⟨Word.nil, Nat.zero_le _, (show 4 ≤ 1000 by decide)⟩
end Cs

set_option maxRecDepth 100000
set_option maxHeartbeats 4000000
/-! primitives -/
namespace Cs
open PySem PySem.Spec PyProof.Rows L2
def sp_law_inside (K : PySem.W.Frag) : Sp := fun vs H Q _ => ∃ (u v : V) (a b : R), vs = [u, v] ∧ Rc K H u a ∧ Rc K H v b ∧ Q (.bl (In a b)) H
def sp_law_common (K : PySem.W.Frag) : Sp := sp_common K
/-- v is a primitive: its shape s, its clip o -/
structure Prim (K : PySem.W.Frag) (H : Hp) (v : V) (s : Sh) (o : Option R) : Prop where
  ok : ShOk s
  at_ : ∃ (p : Addr) (x0 x1 x2 u c6 c7 c : V), v = .ref p ∧ SqT K H p [x0, x1, x2, .str s.name, u, .str (S s.txt), c6, c7, c] ∧ Tup K H u (iv s.pts) ∧ OptR K H c o
theorem Prim.im {K : PySem.W.Frag} {H H' : Hp} {v : V} {s : Sh} {o : Option R} (h : Prim K H v s o) (e : Im H H') : Prim K H' v s o :=
  let ⟨p, x0, x1, x2, u, c6, c7, c, h1, h2, h3, h4⟩ := h.at_
  ⟨h.ok, p, x0, x1, x2, u, c6, c7, c, h1, e.sqT h2, h3.im e, h4.im e⟩
def rea (r : R) (o : Option R) : Option R := com r (o.getD r)
def vis (r : R) (o : Option R) (w h : Int) : Option R := (rea r o).bind fun q => com q ⟨0, 0, w, h⟩
def sp_reach (K : PySem.W.Frag) : Sp := fun vs H Q _ => ∃ (v : V) (s : Sh) (o : Option R), vs = [v] ∧ Prim K H v s o ∧ ∀ x r H', Same H H' → IsBox s r → OptR K H' x (rea r o) → Q x H'
def sp_law_reach (K : PySem.W.Frag) : Sp := sp_reach K
def sp_visible_part (K : PySem.W.Frag) : Sp := fun vs H Q _ => ∃ (a : Addr) (v y : V) (w h : Int) (s : Sh) (o : Option R), vs = [.ref a, v] ∧ SqT K H a [.int w, .int h, y] ∧ Prim K H v s o ∧ ∀ x r H', Same H H' → IsBox s r → OptR K H' x (vis r o w h) → Q x H'
def sp_law_visible (K : PySem.W.Frag) : Sp := sp_visible_part K
def sp_law_color (K : PySem.W.Frag) : Sp := fun vs H Q _ => ∃ (t l : Addr), vs = [.ref t] ∧ TapeAt H t l ∧ ∀ x H', TapeAt H' t l → Gr t H H' → Q x H'
/-- a clip of a drawn size -/
def Small (o : Option R) : Prop := ∀ q, o = some q → ∀ z ∈ [q.l, q.t, q.w, q.h], -1000 ≤ z ∧ z ≤ 1000
def sp_law_clip (K : PySem.W.Frag) : Sp := fun vs H Q _ => ∃ (t l : Addr) (m : Int), vs = [.ref t, .int m] ∧ TapeAt H t l ∧ 1 ≤ m ∧ m ≤ 100 ∧ ∀ x o H', TapeAt H' t l → Gr t H H' → OptR K H' x o → Small o → Q x H'
def Big (r : R) : Prop := ∀ z ∈ [r.l, r.t, r.w, r.h], -10000000 ≤ z ∧ z ≤ 10000000
theorem com_big {a b : R} (ha : Big a) (hb : Big b) : RepOk (odata (com a b)) := by
  have a1 := ha a.l (by simp)
  have a2 := ha a.t (by simp)
  have a3 := ha a.w (by simp)
  have a4 := ha a.h (by simp)
  have b1 := hb b.l (by simp)
  have b2 := hb b.t (by simp)
  have b3 := hb b.w (by simp)
  have b4 := hb b.h (by simp)
  unfold com
  split
  · refine R.rep (r := ⟨_, _, _, _⟩) fun z hz => ?_
    simp at hz
    rcases hz with rfl | rfl | rfl | rfl <;> omega
  · exact none_rep
/-- an item of the law's: a primitive of a bounded size -/
def Good (K : PySem.W.Frag) (H : Hp) (x : V) : Prop := ∃ s o, Prim K H x s o ∧ (∀ r, IsBox s r → Big r) ∧ (∀ q, o = some q → Big q)
theorem Good.im {K : PySem.W.Frag} {H H' : Hp} {x : V} (h : Good K H x) (e : Im H H') : Good K H' x := let ⟨s, o, p, q⟩ := h; ⟨s, o, p.im e, q⟩
/-- what com tells lies in both -/
theorem com_in {a b c : R} (h : com a b = some c) : In c a = true ∧ In c b = true := by
  unfold com at h
  split at h
  · cases h
    simp only [In, Bool.and_eq_true, decide_eq_true_eq]
    omega
  · cases h
def Huge (r : R) : Prop := ∀ z ∈ [r.l, r.t, r.w, r.h], -1000000000 ≤ z ∧ z ≤ 1000000000
theorem Big.huge {r : R} (h : Big r) : Huge r := fun z hz => by have := h z hz; omega
theorem com_huge {a b c : R} (ha : Big a) (hb : Big b) (h : com a b = some c) : Huge c := by
  have a1 := ha a.l (by simp)
  have a2 := ha a.t (by simp)
  have a3 := ha a.w (by simp)
  have a4 := ha a.h (by simp)
  have b1 := hb b.l (by simp)
  have b2 := hb b.t (by simp)
  have b3 := hb b.w (by simp)
  have b4 := hb b.h (by simp)
  unfold com at h
  split at h
  · cases h
    intro z hz
    simp at hz
    rcases hz with rfl | rfl | rfl | rfl <;> omega
  · cases h
theorem com_rep2 {a b : R} (ha : Huge a) (hb : Huge b) : RepOk (odata (com a b)) := by
  have a1 := ha a.l (by simp)
  have a2 := ha a.t (by simp)
  have a3 := ha a.w (by simp)
  have a4 := ha a.h (by simp)
  have b1 := hb b.l (by simp)
  have b2 := hb b.t (by simp)
  have b3 := hb b.w (by simp)
  have b4 := hb b.h (by simp)
  unfold com
  split
  · refine R.rep (r := ⟨_, _, _, _⟩) fun z hz => ?_
    simp at hz
    rcases hz with rfl | rfl | rfl | rfl <;> omega
  · exact none_rep
theorem pair_rep {a b : Option R} (ha : RepOk (odata a)) (hb : RepOk (odata b)) : RepOk (.tuple [odata a, odata b]) := by
  have p : plainD (.tuple [odata a, odata b]) = true := by
    have pa := ha.1
    have pb := hb.1
    show (plainD (odata a) && (plainD (odata b) && true)) = true
    rw [pa, pb]
    rfl
  cases a <;> cases b <;> exact ⟨p, by simp [odata, R.d, PyData.depth, PyData.depthAll], by simp only [odata, R.d, cost, costAll]; decide⟩
theorem rea_rep {r : R} {o : Option R} (hr : Big r) (ho : ∀ q, o = some q → Big q) : RepOk (odata (rea r o)) := by
  unfold rea
  refine com_rep2 hr.huge ?_
  cases o with
  | none => exact hr.huge
  | some q => exact (ho q rfl).huge
theorem vis_rep {r : R} {o : Option R} {w h : Int} (hr : Big r) (ho : ∀ q, o = some q → Big q) (hw : 0 ≤ w ∧ w ≤ 100) (hh : 0 ≤ h ∧ h ≤ 100) : RepOk (odata (vis r o w h)) := by
  unfold vis
  cases e : rea r o with
  | none => exact none_rep
  | some q =>
    have hq : Huge q := by
      unfold rea at e
      refine com_huge hr ?_ e
      cases o with
      | none => exact hr
      | some q => exact ho q rfl
    refine com_rep2 hq (all4 (P := fun z => -1000000000 ≤ z ∧ z ≤ 1000000000) (show (-1000000000 : Int) ≤ 0 ∧ (0 : Int) ≤ 1000000000 by decide) (show (-1000000000 : Int) ≤ 0 ∧ (0 : Int) ≤ 1000000000 by decide) ?_ ?_)
    · show -1000000000 ≤ w ∧ w ≤ 1000000000
      omega
    · show -1000000000 ≤ h ∧ h ≤ 1000000000
      omega
theorem vis_in {r q v : R} {o : Option R} {w h : Int} (e : rea r o = some q) (f : vis r o w h = some v) : In v q = true ∧ In v ⟨0, 0, w, h⟩ = true := by
  unfold vis at f
  rw [e] at f
  exact com_in f
theorem vis_some {r v : R} {o : Option R} {w h : Int} (f : vis r o w h = some v) : ∃ q, rea r o = some q := by
  unfold vis at f
  cases e : rea r o with
  | none => rw [e] at f; cases f
  | some q => exact ⟨q, rfl⟩
end Cs

set_option maxRecDepth 100000
set_option maxHeartbeats 4000000
/-! sets whose members are tuples of None, ints and texts -/
namespace Cs
open PySem PySem.Spec PyProof.Rows L2
/-! ### keys -/
def lfK : NestedKey → Bool
  | .tup _ => false
  | _ => true
structure FK (h : Heap) (k : NestedKey) (b : Addr) : Prop where
  is : NestedIs h k (.ref b)
  flat : ∃ ks, k = .tup ks ∧ ∀ x ∈ ks, lfK x = true
theorem lf_depth {k : NestedKey} (h : lfK k = true) : k.depth = 0 := by
  cases k <;> first | rfl | cases h
theorem lf_depths : ∀ {ks : List NestedKey}, (∀ x ∈ ks, lfK x = true) → NestedKey.depthAll ks = 0
  | [], _ => rfl
  | k :: ks, h => by
    simp only [NestedKey.depthAll, lf_depth (h k List.mem_cons_self), lf_depths fun x hx => h x (List.mem_cons_of_mem _ hx), Nat.max_self]
section
variable {P : Program} {w : World} {A : Around} {E : Value → Shared → Prop} {s : Shared} {h h' : Heap} {k : NestedKey} {b : Addr}
theorem FK.nk (f : FK h k b) : (nestedKind P w).is h k b := by
  obtain ⟨x, ks, rfl, fl⟩ := f
  refine ⟨x, ?_⟩
  show NestedKey.depthAll ks + 1 ≤ 8
  rw [lf_depths fl]
  decide
theorem FK.keep (f : FK h k b) (e : ∀ c o vs n, h.get? c = some o → o.data = .seq vs n → h'.get? c = some o) : FK h' k b := ⟨NestedIs.at e _ _ f.is, f.flat⟩
/-- a leaf is told by itself -/
def Plain1 (v : Value) : Prop := v = .none ∨ (∃ c, v = .bool c) ∨ (∃ i t, v = .int i t) ∨ ∃ x t, v = .str x t
theorem leaf_plain {v : Value} (x : NestedIs h k v) (f : lfK k = true) : Plain1 v := by
  cases x with
  | none => exact .inl rfl
  | bool _ => exact .inr (.inl ⟨_, rfl⟩)
  | int i t => exact .inr (.inr (.inl ⟨i, t, rfl⟩))
  | text z t => exact .inr (.inr (.inr ⟨z, t, rfl⟩))
  | tup => cases f
theorem leaves_plain : ∀ {ks : List NestedKey} {vs : List Value}, NestedAll h ks vs → (∀ x ∈ ks, lfK x = true) → ∀ v ∈ vs, Plain1 v
  | [], _, x, _, v, m => by cases x; cases m
  | k :: ks, _, x, f, v, m => by
    cases x with
    | cons x1 x2 =>
      rcases List.mem_cons.mp m with rfl | m
      · exact leaf_plain x1 (f k List.mem_cons_self)
      · exact leaves_plain x2 (fun y hy => f y (List.mem_cons_of_mem _ hy)) v m
theorem FK.parts (f : FK h k b) : ∃ o vs n, h.get? b = some o ∧ o.cls = .type "tuple" ∧ o.data = .seq vs n ∧ ∀ v ∈ vs.toList, Plain1 v := by
  obtain ⟨x, ks, rfl, fl⟩ := f
  cases x with
  | tup h1 h2 h3 h4 => exact ⟨_, _, _, h1, h2, h3, leaves_plain h4 fl⟩
theorem plain_class {v : Value} (p : Plain1 v) (n : Nat) : ofAClassStatement n v = pure false := by
  rcases p with rfl | ⟨_, rfl⟩ | ⟨_, _, rfl⟩ | ⟨_, _, rfl⟩ <;> cases n <;> rfl
theorem plain_hash {v : Value} (p : Plain1 v) (n : Nat) : ∃ r, hashByValue n v = pure r := by
  rcases p with rfl | ⟨_, rfl⟩ | ⟨_, _, rfl⟩ | ⟨_, _, rfl⟩ <;> cases n <;> exact ⟨_, rfl⟩
theorem FK.class_ {Q : Bool → Shared → Prop} (f : FK s.heap k b) (q : Q false s) : wpAny (model P w) A (ofAClassStatement 8 (.ref b)) Q E s := by
  obtain ⟨o, vs, n, ho, hc, hd, pl⟩ := f.parts
  unfold ofAClassStatement
  refine wpAny_bind (wpAny_typeOf (T := "tuple") ⟨o, ho, hc⟩ ?_)
  dsimp only
  simp only [show (("tuple" : String) == "tuple") = true by decide, if_true, Bool.not_true, Bool.false_eq_true, if_false]
  try refine wpAny_bind (wpAny_pure ?_)
  try simp only [Bool.not_true, Bool.false_eq_true, if_false]
  show wpAny _ _ (seqItems? _ >>= _) _ _ s
  refine wpAny_bind (wpAny_seqItems ho hd ?_)
  dsimp only
  refine wpAny_bind ?_
  show wpAny _ _ (forIn vs _ _) _ _ s
  rw [← Array.forIn_toList]
  refine wpAny_forIn_list _ (fun l r t => r.1 = none ∧ t = s ∧ ∀ v ∈ l, Plain1 v) _ (fun v l r t z => ?_) (fun r t z => ?_) _ _ ⟨rfl, rfl, pl⟩
  · obtain ⟨_, rfl, all⟩ := z
    rw [plain_class (all v List.mem_cons_self)]
    refine wpAny_bind (wpAny_pure ?_)
    simp only [Bool.false_eq_true, if_false]
    exact wpAny_pure ⟨rfl, rfl, fun u m => all u (List.mem_cons_of_mem _ m)⟩
  · obtain ⟨r1, r2⟩ := r
    obtain ⟨z, rfl, _⟩ := z
    cases (show r1 = none from z)
    exact wpAny_pure q
theorem FK.hashes {Q : Bool → Shared → Prop} (f : FK s.heap k b) (q : ∀ r, Q r s) : wpAny (model P w) A (hashByValue 8 (.ref b)) Q E s := by
  obtain ⟨o, vs, n, ho, hc, hd, pl⟩ := f.parts
  unfold hashByValue
  refine wpAny_bind (wpAny_specialOf (T := "tuple") ⟨o, ho, hc⟩ F.slot_tuple_hash.lookup ?_)
  show wpAny _ _ (seqItems? _ >>= _) _ _ s
  refine wpAny_bind (wpAny_seqItems ho hd ?_)
  refine wpAny_bind ?_
  show wpAny _ _ (forIn vs _ _) _ _ s
  rw [← Array.forIn_toList]
  refine wpAny_forIn_list _ (fun l _ t => t = s ∧ ∀ v ∈ l, Plain1 v) _ (fun v l r t z => ?_) (fun r t z => ?_) _ _ ⟨rfl, pl⟩
  · obtain ⟨rfl, all⟩ := z
    obtain ⟨c, e⟩ := plain_hash (all v List.mem_cons_self) 7
    rw [e]
    refine wpAny_bind (wpAny_pure ?_)
    cases c
    · simp only [Bool.not_false, if_true]
      refine wpAny_pure ?_
      dsimp only
      exact wpAny_pure (q _)
    · simp only [Bool.not_true, Bool.false_eq_true, if_false]
      exact wpAny_pure ⟨rfl, fun u m => all u (List.mem_cons_of_mem _ m)⟩
  · obtain ⟨r1, r2⟩ := r
    obtain ⟨rfl, _⟩ := z
    dsimp only
    cases r1 with
    | none => exact wpAny_pure (q _)
    | some c => exact wpAny_pure (q _)
/-- a search among such keys can't be seen -/
theorem FK.unseen {Q : Bool → Shared → Prop} (f : FK s.heap k b) {ys : List Value} (hy : ∀ y ∈ ys, ∃ k' c, y = Value.ref c ∧ FK s.heap k' c) (q : Q false s) : wpAny (model P w) A (searchCouldBeSeen (.ref b) ys) Q E s := by
  unfold searchCouldBeSeen
  refine wpAny_bind ?_
  refine wpAny_forIn_list _ (fun l r t => r.1 = none ∧ t = s ∧ ∀ y ∈ l, ∃ k' c, y = Value.ref c ∧ FK s.heap k' c) _ (fun v l r t z => ?_) (fun r t z => ?_) _ _ ⟨rfl, rfl, hy⟩
  · obtain ⟨_, rfl, all⟩ := z
    obtain ⟨k', c, rfl, g⟩ := all v List.mem_cons_self
    have left : ∀ y ∈ l, ∃ k' c, y = Value.ref c ∧ FK t.heap k' c := fun u m => all u (List.mem_cons_of_mem _ m)
    dsimp only
    by_cases same : (b == c || (carriedByValue (.ref b) && carriedByValue (.ref c))) = true
    · exact wp_if_pos same (wpAny_pure ⟨rfl, rfl, left⟩)
    · refine wp_if_neg same ?_
      refine wpAny_bind ((nestedKind P w).quiet f.nk ?_)
      simp only [Bool.not_true, Bool.false_eq_true, if_false]
      refine wpAny_bind ((nestedKind P w).quiet g.nk ?_)
      simp only [Bool.not_true, Bool.false_eq_true, if_false]
      refine wpAny_bind (f.class_ ?_)
      simp only [Bool.false_eq_true, if_false]
      refine wpAny_bind (g.class_ ?_)
      simp only [Bool.false_eq_true, if_false]
      exact wpAny_pure ⟨rfl, rfl, left⟩
  · obtain ⟨r1, r2⟩ := r
    obtain ⟨z, rfl, _⟩ := z
    cases (show r1 = none from z)
    exact wpAny_pure q
end
end Cs

set_option maxRecDepth 100000
set_option maxHeartbeats 4000000
/-! sets whose members are tuples of None, ints and texts: search, addition -/
namespace Cs
open PySem PySem.Spec PyProof.Rows L2
abbrev NP := Addr × NestedKey
def NP.h (w : World) (p : NP) : Int := p.2.hash w
def NP.row (w : World) (p : NP) : Int × Value := (p.h w, .ref p.1)
structure NsR (w : World) (h : Heap) (a : Addr) (L : List NP) (es : Array (Int × Value)) (ep : Nat) (t : SetTable) : Prop where
  ob : ∃ o, h.get? a = some o ∧ o.ExactSet ∧ o.data = .set es ep t
  rows : es.toList = L.map (NP.row w)
  tab : TabOk t (L.map (NP.h w))
  nd : (L.map (·.2)).Nodup
  keys : ∀ p ∈ L, FK h p.2 p.1
  room : L.length * 5 < t.mask * 3
  few : L.length < 64
section
variable {P : Program} {w : World} {A : Around} {E : Value → Shared → Prop} {s : Shared} {a : Addr} {L : List NP} {es : Array (Int × Value)} {ep : Nat} {t : SetTable} {x : Addr} {k : NestedKey}
theorem rows_size (e : es.toList = L.map (NP.row w)) : es.size = L.length := by
  rw [← Array.length_toList, e, List.length_map]
theorem fits_by {n : Nat} (h1 : t.dummies = #[]) (h2 : t.place.size = n) (h3 : n ≤ t.mask) : t.fits n = true := by
  unfold SetTable.fits SetTable.fill
  rw [h1, Bool.and_eq_true, beq_iff_eq, decide_eq_true_eq]
  exact ⟨h2, by show t.place.size + 0 ≤ t.mask; omega⟩
theorem NsR.fits (R : NsR w s.heap a L es ep t) : t.fits es.size = true := by
  have h1 := R.tab.sz
  rw [List.length_map] at h1
  have h3 := R.room
  exact fits_by R.tab.dm (by rw [rows_size R.rows]; exact h1) (by rw [rows_size R.rows]; omega)
theorem row_at (e : es.toList = L.map (NP.row w)) {i : Nat} {p : NP} (h : L[i]? = some p) : es[i]? = some (p.row w) := by
  rw [← Array.getElem?_toList, e, List.getElem?_map, h]
  rfl
/-- what a search may answer: the key is there, or the slot that is free for it -/
def Ans (add : Bool) (w : World) (L : List NP) (t : SetTable) (k : NestedKey) (Q : SetFound → Shared → Prop) (s : Shared) : Prop :=
  (k ∈ L.map (·.2) → ∀ i, Q (.there (if add = true then none else some i)) s) ∧
  (∀ K, k ∉ L.map (·.2) → way t.mask (k.hash w) K ∉ t.place.toList → (∀ c, c < K → way t.mask (k.hash w) c ∈ t.place.toList) → Q (.free (way t.mask (k.hash w) K) false) s)
theorem dummy_none (m : Nat) : ∀ (n : Nat) (p : SetTable.Probe), p.dummy = none → (nth m p n).dummy = none
  | 0, _, h => h
  | n + 1, p, h => dummy_none m n (adv m p) (by unfold adv; split <;> exact h)
theorem ns_from (R : NsR w s.heap a L es ep t) (f : FK s.heap k x) (hu : A.units + 8 < cLine) (add : Bool) {K : Nat} (Kf : K < 10 * SetTable.turns t.mask)
    (Kn : way t.mask (k.hash w) K ∉ t.place.toList) (Kb : ∀ c, c < K → way t.mask (k.hash w) c ∈ t.place.toList) {Q : SetFound → Shared → Prop} (ans : Ans add w L t k Q s) :
    ∀ (fuel c : Nat) (stand : Option SetTable.Probe), stand.getD (t.probeStart (k.hash w)) = nth t.mask (runAt t.mask (SetTable.bits (k.hash w) % (t.mask + 1)) (SetTable.bits (k.hash w))) c → c ≤ K → K - c < fuel →
      (∀ (i : Nat) p, L[i]? = some p → p.2 = k → ∃ c', c ≤ c' ∧ c' < K ∧ t.place.toList[i]? = some (way t.mask (k.hash w) c')) →
      wpAny (model P w) A (setSearchFrom a (.ref x) (k.hash w) add fuel stand) Q E s
  | 0, _, _, _, _, z, _ => absurd z (Nat.not_lt_zero _)
  | fuel + 1, c, stand, at_, cK, cf, past => by
    obtain ⟨o, ho, _, hd⟩ := R.ob
    rw [setSearchFrom_succ]
    refine wpAny_bind (wpAny_setState_of ho hd R.fits ?_)
    dsimp only
    refine wp_if_neg (by unfold SetTable.gaveWay; rw [mask_odd R.tab.mok]; decide) ?_
    try refine wpAny_bind (wpAny_pure ?_)
    generalize hr : runAt t.mask (SetTable.bits (k.hash w) % (t.mask + 1)) (SetTable.bits (k.hash w)) = run at at_
    have wayE : ∀ n, way t.mask (k.hash w) n = (nth t.mask run n).j := fun n => by rw [← hr]
    have run0 : run.dummy = none := by rw [← hr]; rfl
    have sh : ∀ q, nth t.mask (nth t.mask run c) q = nth t.mask run (c + q) := fun q => (nth_add t.mask c _ q).symm
    have shj : ∀ q, (nth t.mask (nth t.mask run c) q).j = way t.mask (k.hash w) (c + q) := fun q => by rw [wayE, sh]
    have hAt : ∀ (i : Nat) p, L[i]? = some p → (es[i]?.map (·.1)).getD 0 = p.h w := fun i p hp => by rw [row_at R.rows hp]; rfl
    rcases go_spec t R.tab.ris R.tab.dm (fun i => (es[i]?.map (·.1)).getD 0) (k.hash w) (10 * SetTable.turns t.mask) (K - c) (nth t.mask run c) (dummy_none _ _ _ run0) (by omega)
      (fun q hq => by rw [shj]; exact Kb _ (by omega)) (by rw [shj, show c + (K - c) = K by omega]; exact Kn) with ⟨q, i, hq, hi, _, no, pr⟩ | ⟨no, pr⟩
    · have pr' : t.probe (fun i => (es[i]?.map (·.1)).getD 0) (k.hash w) (stand.getD (t.probeStart (k.hash w))) = some (.candidate (way t.mask (k.hash w) (c + q)) i (nth t.mask run (c + (q + 1)))) := by
        rw [at_, ← shj, ← sh]
        exact pr
      rw [pr']
      dsimp only
      rw [shj] at hi
      have il : i < L.length := by
        have h1 := (List.getElem?_eq_some_iff.mp hi).1
        rw [Array.length_toList, R.tab.sz, List.length_map] at h1
        exact h1
      obtain ⟨p, hp⟩ : ∃ p, L[i]? = some p := ⟨_, List.getElem?_eq_getElem il⟩
      have pm : p ∈ L := List.mem_of_getElem? hp
      have rest : wpAny (model P w) A (searchRest a (.ref x) (k.hash w) add fuel es t (way t.mask (k.hash w) (c + q)) i (nth t.mask run (c + (q + 1)))) Q E s := by
        unfold searchRest
        rw [row_at R.rows hp]
        unfold NP.row
        dsimp only
        refine wpAny_bind (wpAny_holding ((nestedKind P w).eqBool hu (R.keys p pm).nk f.nk ?_))
        refine wpAny_bind (wpAny_setState_of ho hd R.fits ?_)
        dsimp only
        have live : t.slot (way t.mask (k.hash w) (c + q)) = .live i := slot_live R.tab.ris hi
        have still : ∀ {B : Bool}, (B = true → wpAny (model P w) A (pure (SetFound.there (some i)) : Sem SetFound) Q E s) → (B = false → wpAny (model P w) A (setSearchFrom a (.ref x) (k.hash w) add fuel (some (nth t.mask run (c + (q + 1))))) Q E s) →
            wpAny (model P w) A (if B = true then (pure (SetFound.there (some i)) : Sem SetFound) else setSearchFrom a (.ref x) (k.hash w) add fuel (some (nth t.mask run (c + (q + 1))))) Q E s := fun {B} h1 h2 => by
          cases B
          · exact wp_if_neg (by decide) (h2 rfl)
          · exact wp_if_pos rfl (h1 rfl)
        by_cases kk : p.2 = k
        · have mem : k ∈ L.map (·.2) := List.mem_map.mpr ⟨p, pm, kk⟩
          cases add with
          | true => exact wp_if_pos (by simp [kk]) (wpAny_pure (ans.1 mem i))
          | false =>
            refine wp_if_neg (by simp) ?_
            try refine wpAny_bind (wpAny_pure ?_)
            rw [sameMem]
            dsimp only
            simp only [if_true, live, row_at R.rows hp]
            unfold NP.row
            dsimp only
            refine wpAny_bind (wpAny_isSame_ref_self (wpAny_bind (wpAny_pure ?_)))
            simp only [if_true]
            refine wp_if_pos (by simp [kk]) (wpAny_pure (ans.1 mem i))
        · refine wp_if_neg (by simp [kk]) ?_
          try refine wpAny_bind (wpAny_pure ?_)
          rw [sameMem]
          dsimp only
          simp only [if_true, live, row_at R.rows hp]
          unfold NP.row
          dsimp only
          refine wpAny_bind (wpAny_isSame_ref_self (wpAny_bind (wpAny_pure ?_)))
          simp only [if_true]
          refine wp_if_neg (by simp [kk]) ?_
          refine ns_from R f hu add Kf Kn Kb ans fuel (c + (q + 1)) _ (by rw [hr]; rfl) (by omega) (by omega) fun i0 p0 h0 k0 => ?_
          obtain ⟨c', a1, a2, a3⟩ := past i0 p0 h0 k0
          refine ⟨c', ?_, a2, a3⟩
          rcases Nat.lt_trichotomy c' (c + q) with z | z | z
          · exact absurd ((hAt i0 p0 h0).trans (congrArg (NestedKey.hash w) k0)) (no (c' - c) i0 (by omega) (by rw [shj, show c + (c' - c) = c' by omega]; exact a3))
          · rw [z] at a3
            have s0 := slot_live R.tab.ris a3
            rw [live] at s0
            cases s0
            rw [hp] at h0
            cases h0
            exact absurd k0 kk
          · omega
      by_cases led : t.led = true
      · refine wp_if_neg (by simp [led]) ?_
        try refine wpAny_bind (wpAny_pure ?_)
        exact rest
      · refine wp_if_pos (by simp [led]) ?_
        refine wpAny_bind (f.unseen (fun y hy => ?_) ?_)
        · obtain ⟨e, he, rfl⟩ := List.mem_map.mp hy
          have he1 : e ∈ es.toList := by
            have he0 : e ∈ es ∧ e.1 = k.hash w := by simpa using he
            simpa using he0.1
          rw [R.rows] at he1
          obtain ⟨p2, hp2, rfl⟩ := List.mem_map.mp he1
          exact ⟨p2.2, p2.1, rfl, R.keys p2 hp2⟩
        · refine wp_if_neg (by decide) ?_
          try refine wpAny_bind (wpAny_pure ?_)
          exact rest
    · have pr' : t.probe (fun i => (es[i]?.map (·.1)).getD 0) (k.hash w) (stand.getD (t.probeStart (k.hash w))) = some (.empty (way t.mask (k.hash w) K) none) := by
        rw [at_, show way t.mask (k.hash w) K = (nth t.mask (nth t.mask run c) (K - c)).j by rw [shj, show c + (K - c) = K by omega]]
        exact pr
      rw [pr']
      dsimp only
      refine wpAny_pure (ans.2 K (fun hm => ?_) Kn Kb)
      obtain ⟨p0, m0, k0⟩ := List.mem_map.mp hm
      obtain ⟨i0, hi0, e0⟩ := List.getElem_of_mem m0
      have h0 : L[i0]? = some p0 := by rw [List.getElem?_eq_getElem hi0, e0]
      obtain ⟨c', a1, a2, a3⟩ := past i0 p0 h0 k0
      exact no (c' - c) i0 (by omega) (by rw [shj, show c + (c' - c) = c' by omega]; exact a3) ((hAt i0 p0 h0).trans (congrArg (NestedKey.hash w) k0))
theorem ns_search (R : NsR w s.heap a L es ep t) (f : FK s.heap k x) (hu : A.units + 8 < cLine) (add : Bool) {Q : SetFound → Shared → Prop} (ans : Ans add w L t k Q s) : wpAny (model P w) A (setSearch a (.ref x) (k.hash w) add) Q E s := by
  have room := R.room
  obtain ⟨K, Kf, Kn, Kb⟩ := R.tab.first (by rw [List.length_map]; omega) (k.hash w)
  have big : K < 100000 := by
    have : 10 * SetTable.turns t.mask ≤ 1420 := by
      unfold SetTable.turns
      rcases R.tab.mok with e | e | e <;> omega
    omega
  unfold setSearch
  refine ns_from R f hu add Kf Kn Kb ans 100000 0 none rfl (Nat.zero_le _) (by omega) fun i p hp hk => ?_
  have il : i < t.place.toList.length := by
    rw [Array.length_toList, R.tab.sz, List.length_map]
    exact (List.getElem?_eq_some_iff.mp hp).1
  have hj := List.getElem?_eq_getElem il
  obtain ⟨c, hc, e⟩ := R.tab.before Kn (i := i) (by rw [List.getElem?_map, hp, ← hk]; rfl) hj
  exact ⟨c, Nat.zero_le _, hc, by rw [hj, e]⟩
/-- x in the set -/
theorem ns_find (R : NsR w s.heap a L es ep t) (f : FK s.heap k x) (hu : A.units + 8 < cLine) {Q : Option Nat → Shared → Prop} (q : ∀ r : Option Nat, r.isSome = decide (k ∈ L.map (·.2)) → Q r s) : wpAny (model P w) A (setFind a (.ref x) (k.hash w)) Q E s := by
  obtain ⟨o, ho, _, hd⟩ := R.ob
  unfold setFind
  rw [show (100000 : Nat) = 99999 + 1 from rfl]
  unfold setFindIn
  refine wpAny_bind (wpAny_setState_of ho hd R.fits ?_)
  dsimp only
  refine wp_if_neg (by simp [byScan, Value.scannable]) ?_
  try refine wpAny_bind (wpAny_pure ?_)
  refine wpAny_bind (ns_search R f hu false ⟨fun m i => ?_, fun K m _ _ => ?_⟩)
  · exact wpAny_pure (q (some i) (by rw [decide_eq_true m]; rfl))
  · exact wpAny_pure (q none (by rw [decide_eq_false m]; rfl))
end
end Cs

set_option maxRecDepth 100000
set_option maxHeartbeats 4000000
/-! sets whose members are tuples of None, ints and texts: addition -/
namespace Cs
open PySem PySem.Spec PyProof.Rows L2
section
variable {P : Program} {w : World} {A : Around} {E : Value → Shared → Prop} {s : Shared} {a : Addr} {L : List NP} {es : Array (Int × Value)} {ep : Nat} {t : SetTable} {x : Addr} {k : NestedKey}
theorem range_all {α : Type} : ∀ L : List α, (List.range L.length).filterMap (fun i => L[i]?) = L
  | [] => rfl
  | x :: L => by
    rw [List.length_cons, List.range_succ_eq_map, List.filterMap_cons_some (f := fun i => (x :: L)[i]?) (a := 0) (b := x) rfl, List.filterMap_map]
    exact congrArg (x :: ·) (range_all L)
theorem rows_order (e : es.toList = L.map (NP.row w)) : ∀ l : List Nat, (∀ i ∈ l, i < L.length) →
    l.filterMap (fun i => es[i]?) = (l.filterMap fun i => L[i]?).map (NP.row w) ∧ (l.filterMap fun i => L[i]?).map (NP.h w) = l.map fun i => (es.map (·.1)).getD i 0
  | [], _ => ⟨rfl, rfl⟩
  | i :: l, hl => by
    obtain ⟨r1, r2⟩ := rows_order e l fun j hj => hl j (List.mem_cons_of_mem _ hj)
    obtain ⟨p, hp⟩ : ∃ p, L[i]? = some p := ⟨_, List.getElem?_eq_getElem (hl i List.mem_cons_self)⟩
    have ep := row_at e hp
    have eh : (es.map (·.1)).getD i 0 = p.h w := by
      have q : (es.map (·.1))[i]? = some (p.h w) := by rw [Array.getElem?_map, ep]; rfl
      simp [Array.getD_eq_getD_getElem?, q]
    rw [List.filterMap_cons_some ep, List.filterMap_cons_some hp, List.map_cons, List.map_cons, List.map_cons, r1, r2, eh]
    exact ⟨rfl, rfl⟩
/-- a key isn't the set -/
theorem FK.beside {h h' : Heap} {b : Addr} {o : Obj} (f : FK h k b) (ho : h.get? a = some o) (hd : o.data = .set es ep t) (sb : Heap.SameBut a h h') : FK h' k b :=
  f.keep fun c u vs n e q => (sb.2 c fun z => by subst z; rw [ho] at e; cases e; rw [hd] at q; cases q).trans e
theorem ns_relay {o : Obj} (ho : s.heap.get? a = some o) (hex : o.ExactSet) (hd : o.data = .set es ep t) (rows : es.toList = L.map (NP.row w)) (sz : t.place.size = es.size) (dm : t.dummies = #[]) (fl : es.size ≤ t.mask)
    (nd : (L.map (·.2)).Nodup) (keys : ∀ p ∈ L, FK s.heap p.2 p.1) (few : L.length < 64) {wanted M : Nat} (hw : SetTable.sizeAbove wanted - 1 = M) (hM : MaskOk M) (hw2 : SetTable.sizeAbove wanted ≤ 128) (hn : L.length * 5 < M * 3)
    {Q : Unit → Shared → Prop} (q : ∀ h' L' es' ep' t', Heap.SameBut a s.heap h' → NsR w h' a L' es' ep' t' → L'.Perm L → Q () { s with heap := h' }) : wpAny (model P w) A (setRelay a wanted) Q E s := by
  have hl := rows_size rows
  obtain ⟨t', order, e, perm, T, em, _, _, _⟩ := relaid_ok t (hs := es.map (·.1)) hw hM (by rw [Array.size_map, hl]; omega)
  rw [Array.size_map, hl] at perm
  obtain ⟨r1, r2⟩ := rows_order rows order.toList fun i hi => List.mem_range.mp (perm.mem_iff.mp hi)
  have r3 : (order.toList.filterMap fun i => L[i]?).Perm L := by
    have := perm.filterMap fun i => L[i]?
    rwa [range_all] at this
  rw [← r2] at T
  generalize order.toList.filterMap (fun i => L[i]?) = L2 at r1 r2 r3 T
  have r4 : (order.filterMap (es[·]?)).toList = L2.map (NP.row w) := by
    first | (rw [Array.toList_filterMap]; exact r1) | simpa using r1
  have s2 : (order.filterMap (es[·]?)).size = es.size := by rw [rows_size r4, r3.length_eq, hl]
  rw [setRelay_eq]
  refine wpAny_bind (wpAny_setState_of ho hd (fits_by dm sz fl) ?_)
  dsimp only
  refine wp_if_neg (by rw [sizeLine_eq]; omega) ?_
  try refine wpAny_bind (wpAny_pure ?_)
  rw [e]
  dsimp only
  refine wpAny_bind ?_
  refine wp_if_neg (by rw [s2]; simp) ?_
  try refine wpAny_bind (wpAny_pure ?_)
  refine wpAny_pure ?_
  dsimp only
  refine wpAny_storeSet_of ho hd ?_ (by rw [s2, hl, sizeLine_eq]; omega)
  have sb : Heap.SameBut a s.heap (s.heap.update a (Obj.putSet (order.filterMap (es[·]?)) t')) := Heap.SameBut.update ..
  refine q _ L2 _ (ep + 1) t' sb ⟨⟨_, store_at ho hd, ⟨hex.1, hex.2.1, hex.2.2⟩, rfl⟩, r4, T, (r3.map (·.2)).nodup_iff.mpr nd, fun p m => (keys p (r3.mem_iff.mp m)).beside ho hd sb, ?_, by rw [r3.length_eq]; exact few⟩ r3
  rw [r3.length_eq, em]
  exact hn
/-- one more -/
theorem ns_add (R : NsR w s.heap a L es ep t) (f : FK s.heap k x) (hu : A.units + 8 < cLine) (few : L.length + 1 < 64) {Q : Bool → Shared → Prop}
    (q : ∀ b h' L' es' ep' t', Heap.SameBut a s.heap h' → NsR w h' a L' es' ep' t' → (k ∈ L.map (·.2) → L' = L) → (k ∉ L.map (·.2) → L'.Perm ((x, k) :: L)) → Q b { s with heap := h' }) :
    wpAny (model P w) A (setAddHashed a (.ref x) (k.hash w)) Q E s := by
  obtain ⟨o, ho, hex, hd⟩ := R.ob
  have hl := rows_size R.rows
  have room := R.room
  unfold setAddHashed
  refine wpAny_holding ?_
  rw [show (100000 : Nat) = 99999 + 1 from rfl, setAddHashedIn_succ]
  refine wpAny_bind (wpAny_setState_of ho hd R.fits ?_)
  dsimp only
  refine wp_if_neg (by simp [byScan, Value.scannable]) ?_
  try refine wpAny_bind (wpAny_pure ?_)
  refine wpAny_bind (ns_search R f hu true ⟨fun m i => ?_, fun K nm Kn Kb => ?_⟩)
  · exact wpAny_pure (q false s.heap L es ep t (Heap.SameBut.refl a s.heap) R (fun _ => rfl) fun z => absurd m z)
  dsimp only
  refine wpAny_bind (wpAny_setState_of ho hd R.fits ?_)
  dsimp only
  obtain ⟨p1, p2, T1, m1, _, _, _, _, f1⟩ := R.tab.put Kn Kb
  generalize t.put (way t.mask (k.hash w) K) = pt at p1 T1 m1 f1 ⊢
  obtain ⟨t1, pl⟩ := pt
  dsimp only at p1 T1 m1 f1 ⊢
  subst p1
  -- whatever is told of the hashes' kind
  have go : ∀ t2 : SetTable, t2.place = t1.place → t2.dummies = t1.dummies → t2.mask = t1.mask →
      wpAny (model P w) A (do
        storeSet a (SetTable.insertAt es (SetTable.below t.place (way t.mask (k.hash w) K)) (k.hash w, .ref x)) t2
        if (!false && t2.tooFull) = true then setRelay a (SetTable.grown (es.size + 1))
        return true) Q E s := fun t2 e1 e2 e3 => by
    have fill2 : t2.fill = L.length + 1 := by
      unfold SetTable.fill at f1 ⊢
      rw [e1, e2, f1, List.length_map]
    have T2 : TabOk t2 ((L.map (NP.h w)).take (SetTable.below t.place (way t.mask (k.hash w) K)) ++ k.hash w :: (L.map (NP.h w)).drop (SetTable.below t.place (way t.mask (k.hash w) K))) :=
      ⟨e1 ▸ T1.ris, e2 ▸ T1.dm, e1 ▸ T1.sz, e3 ▸ T1.mok, by rw [e1, e3]; exact T1.bd, by rw [e1, e3]; exact T1.reach⟩
    have m2 : t2.mask = t.mask := e3.trans m1
    have rows1 : (SetTable.insertAt es (SetTable.below t.place (way t.mask (k.hash w) K)) (k.hash w, Value.ref x)).toList = (L.take (SetTable.below t.place (way t.mask (k.hash w) K)) ++ (x, k) :: L.drop (SetTable.below t.place (way t.mask (k.hash w) K))).map (NP.row w) := by
      rw [SetTable.toList_insertAt, R.rows, List.map_append, List.map_cons, List.map_take, List.map_drop]
      rfl
    generalize SetTable.below t.place (way t.mask (k.hash w) K) = pl at T2 rows1 p2 ⊢
    have pm := put_perm L pl ((x, k) : NP)
    have hs : (L.map (NP.h w)).take pl ++ k.hash w :: (L.map (NP.h w)).drop pl = (L.take pl ++ (x, k) :: L.drop pl).map (NP.h w) := by
      rw [List.map_append, List.map_cons, List.map_take, List.map_drop]
      rfl
    rw [hs] at T2
    generalize L.take pl ++ (x, k) :: L.drop pl = L1 at pm T2 rows1
    generalize SetTable.insertAt es pl (k.hash w, Value.ref x) = es1 at rows1 ⊢
    have len1 : L1.length = L.length + 1 := pm.length_eq
    have esz := rows_size rows1
    have nd1 : (L1.map (·.2)).Nodup := (pm.map (·.2)).nodup_iff.mpr (List.nodup_cons.mpr ⟨nm, R.nd⟩)
    refine wpAny_bind (wpAny_storeSet_of ho hd ?_ (by rw [esz, sizeLine_eq]; omega))
    have sb : Heap.SameBut a s.heap (s.heap.update a (Obj.putSet es1 t2)) := Heap.SameBut.update ..
    have ho1 := store_at (es' := es1) (t' := t2) ho hd
    generalize s.heap.update a (Obj.putSet es1 t2) = h1 at sb ho1 ⊢
    have keys1 : ∀ p ∈ L1, FK h1 p.2 p.1 := fun p m => by
      rcases List.mem_cons.mp (pm.mem_iff.mp m) with e | m
      · rw [e]; exact f.beside ho hd sb
      · exact (R.keys p m).beside ho hd sb
    have full : t2.tooFull = decide ((L.length + 1) * 5 ≥ t2.mask * 3) := by
      unfold SetTable.tooFull
      rw [fill2]
    by_cases hf : t2.tooFull = true
    · have hf' : (L.length + 1) * 5 ≥ t2.mask * 3 := by rw [full] at hf; exact of_decide_eq_true hf
      have two : (t.mask = 7 ∧ L.length = 4) ∨ (t.mask = 31 ∧ L.length = 18) := by
        rw [m2] at hf'
        rcases R.tab.mok with e | e | e
        · rw [e] at hf' room; exact .inl ⟨e, by omega⟩
        · rw [e] at hf' room; exact .inr ⟨e, by omega⟩
        · rw [e] at hf'; omega
      have lay : ∀ M, SetTable.sizeAbove (SetTable.grown (L.length + 1)) - 1 = M → MaskOk M → SetTable.sizeAbove (SetTable.grown (L.length + 1)) ≤ 128 → (L.length + 1) * 5 < M * 3 →
          wpAny (model P w) A (setRelay a (SetTable.grown (L.length + 1))) (fun _ s' => wpAny (model P w) A (pure true) Q E s') E { s with heap := h1 } := fun M g1 g2 g3 g4 => by
        refine ns_relay (s := { s with heap := h1 }) ho1 ⟨hex.1, hex.2.1, hex.2.2⟩ rfl rows1 (by rw [T2.sz, List.length_map, esz]) T2.dm (by rw [esz, m2]; rcases two with ⟨e, e2⟩ | ⟨e, e2⟩ <;> omega) nd1 keys1 (by omega) g1 g2 g3 (by rw [len1]; exact g4) ?_
        intro h2 L2 es2 ep2 t3 sb2 R2 pm2
        exact wpAny_pure (q true h2 L2 es2 ep2 t3 (sb.trans sb2) R2 (fun z => absurd z nm) fun _ => pm2.trans pm)
      first
        | (refine wpAny_bind ?_; refine wp_if_pos (by simp [hf]) ?_)
        | (refine wp_if_pos (by simp [hf]) ?_; refine wpAny_bind ?_)
      rw [hl]
      rcases two with ⟨_, e2⟩ | ⟨_, e2⟩
      · exact lay 31 (by rw [e2, size_20]) (.inr (.inl rfl)) (by rw [e2, size_20]; decide) (by omega)
      · exact lay 127 (by rw [e2, size_76]) (.inr (.inr rfl)) (by rw [e2, size_76]; decide) (by omega)
    · first
        | refine wp_if_neg (by simp [hf]) ?_
        | (refine wpAny_bind ?_; refine wp_if_neg (by simp [hf]) ?_; refine wpAny_pure ?_)
      refine wpAny_pure (q true h1 L1 es1 (ep + 1) t2 sb ⟨⟨_, ho1, ⟨hex.1, hex.2.1, hex.2.2⟩, rfl⟩, rows1, T2, nd1, keys1, ?_, by omega⟩ (fun z => absurd z nm) fun _ => pm)
      rw [full, decide_eq_true_eq] at hf
      rw [len1]
      omega
  first
    | (refine wpAny_bind ?_; by_cases pl1 : t1.plain = true)
    | by_cases pl1 : t1.plain = true
  · first
      | (refine wp_if_pos pl1 (f.hashes fun r => ?_))
      | (refine wp_if_pos pl1 (wpAny_bind (f.hashes fun r => ?_)))
    cases r
    · exact go { t1 with plain := false } rfl rfl rfl
    · exact go t1 rfl rfl rfl
  · first
      | (refine wp_if_neg pl1 (wpAny_pure ?_); exact go t1 rfl rfl rfl)
      | (refine wp_if_neg pl1 (wpAny_bind (wpAny_pure ?_)); exact go t1 rfl rfl rfl)
      | (refine wp_if_neg pl1 ?_; exact go t1 rfl rfl rfl)
end
end Cs

set_option maxRecDepth 100000
set_option maxHeartbeats 4000000
/-! set(a tuple of such keys), set(), in, len, add: by the heap -/
namespace Cs
open PySem PySem.Spec PyProof.Rows L2
def addN (acc : List NestedKey) (k : NestedKey) : List NestedKey := if k ∈ acc then acc else acc ++ [k]
def setN (ks : List NestedKey) : List NestedKey := ks.foldl addN []
theorem addN_le (acc : List NestedKey) (k : NestedKey) : acc.length ≤ (addN acc k).length := by
  unfold addN
  split
  · exact Nat.le_refl _
  · rw [List.length_append]; omega
theorem foldN_le : ∀ (ks acc : List NestedKey), acc.length ≤ (ks.foldl addN acc).length
  | [], _ => Nat.le_refl _
  | k :: ks, acc => Nat.le_trans (addN_le acc k) (foldN_le ks (addN acc k))
theorem setN_take (ks : List NestedKey) (i : Nat) : (setN (ks.take i)).length ≤ (setN ks).length := by
  have h : setN ks = (ks.drop i).foldl addN (setN (ks.take i)) := by
    unfold setN
    rw [← List.foldl_append, List.take_append_drop]
  rw [h]
  exact foldN_le _ _
theorem setN_next {ks : List NestedKey} {i : Nat} {k : NestedKey} (h : ks[i]? = some k) : setN (ks.take (i + 1)) = addN (setN (ks.take i)) k := by
  unfold setN
  rw [List.take_succ, h, List.foldl_append]
  rfl
section
variable {P : Program} {w : World} {A : Around} {E : Value → Shared → Prop} {s : Shared} {a : Addr} {L : List NP} {es : Array (Int × Value)} {ep : Nat} {t : SetTable} {x : Addr} {k : NestedKey}
theorem NsR.keep {h h' : Heap} (R : NsR w h a L es ep t) (ha : ∀ o, h.get? a = some o → h'.get? a = some o) (hk : ∀ p ∈ L, FK h' p.2 p.1) : NsR w h' a L es ep t := by
  obtain ⟨o, ho, r⟩ := R.ob
  exact ⟨⟨o, ha o ho, r⟩, R.rows, R.tab, R.nd, hk, R.room, R.few⟩
theorem ns_empty {h : Heap} {led : Bool} (ho : h.get? a = some { cls := .type "set", dict := none, data := .set #[] 0 (.fresh 0 0 led) }) : NsR w h a [] #[] 0 (.fresh 0 0 led) where
  ob := ⟨_, ho, ⟨rfl, rfl, rfl⟩, rfl⟩
  rows := rfl
  tab := ⟨List.Pairwise.nil, rfl, rfl, .inl rfl, (fun _ m => nomatch m), (fun i _ _ hi => by simp at hi)⟩
  nd := List.nodup_nil
  keys := fun _ m => nomatch m
  room := by show 0 * 5 < 7 * 3; decide
  few := by show 0 < 64; decide
/-- the hashes, then the addition -/
theorem ns_put (R : NsR w s.heap a L es ep t) (f : FK s.heap k x) (hu : A.units + 8 < cLine) (few : L.length + 1 < 64) {Q : Bool → Shared → Prop}
    (q : ∀ b h' L' es' ep' t', Heap.SameBut a s.heap h' → NsR w h' a L' es' ep' t' → (∀ p ∈ L', p = (x, k) ∨ p ∈ L) → (L'.map (·.2)).Perm (addN (L.map (·.2)) k) → Q b { s with heap := h', toks := s.toks + k.draws }) :
    wpAny (model P w) A (setAdd a (.ref x)) Q E s := by
  unfold setAdd
  refine wpAny_holding ?_
  refine wpAny_bind ((nestedKind P w).pyHash hu f.nk ?_)
  refine ns_add (s := { s with toks := s.toks + k.draws }) R f hu few fun b h' L' es' ep' t' sb R' c1 c2 => q b h' L' es' ep' t' sb R' ?_ ?_
  · intro p m
    by_cases c : k ∈ L.map (·.2)
    · rw [c1 c] at m; exact .inr m
    · exact List.mem_cons.mp ((c2 c).mem_iff.mp m)
  · unfold addN
    by_cases c : k ∈ L.map (·.2)
    · rw [c1 c, if_pos c]
    · rw [if_neg c]
      have e : (((x, k) :: L).map (·.2)) = k :: L.map (·.2) := rfl
      exact ((c2 c).map (·.2)).trans (e ▸ (List.perm_append_singleton k _).symm)
theorem perm_addN {xs ys : List NestedKey} (p : xs.Perm ys) (k : NestedKey) : (addN xs k).Perm (addN ys k) := by
  unfold addN
  by_cases c : k ∈ xs
  · rw [if_pos c, if_pos (p.mem_iff.mp c)]; exact p
  · rw [if_neg c, if_neg fun z => c (p.mem_iff.mpr z)]; exact p.append_right _
/-- how far set.update has come -/
def Upto (w : World) (ks : List NP) (S : Addr) (i : Nat) (h : Heap) : Prop := ∃ L es ep t, NsR w h S L es ep t ∧ (∀ p ∈ L, p ∈ ks) ∧ (L.map (·.2)).Perm (setN ((ks.map (·.2)).take i))
theorem ns_loop {I : Addr} {fp wr : List Addr} {G : Array GenState → Array GenState → Prop} {n : Nat} {Pv : Nat → Value → Prop} {St : Nat → Shared → Prop} {R : Result → Shared → Prop}
    (W : WalksS P w A.in1 I fp wr G n Pv St) {S : Addr} (Sf : S ∉ fp) {ks : List NP} (hn : n = ks.length) (few : (setN (ks.map (·.2))).length < 63) (val : ∀ i v, Pv i v → ∃ p, ks[i]? = some p ∧ v = .ref p.1)
    {h0 : Heap} (hk : ∀ p ∈ ks, FK h0 p.2 p.1) (S0 : h0.get? S = none) (w0 : ∀ b ∈ wr, h0.get? b = none) (hu : A.in1.units + 8 < cLine) :
    ∀ (j i : Nat) (s : Shared), n - i = j → i ≤ n → St i s → (∀ b o, h0.get? b = some o → s.heap.get? b = some o) → Upto w ks S i s.heap →
      (∀ s', Moved (S :: wr) G s s' → Upto w ks S n s'.heap → (∀ b o, h0.get? b = some o → s'.heap.get? b = some o) → R (.ok (.ret .none)) s') →
      codeAny (model P w) A (.builtin "set.update.loop" ⟨[.ref S, .ref I], []⟩) R s := by
  have Sw : S ∉ wr := fun z => Sf (W.sub _ z)
  have more : ∀ b ∈ wr, b ∈ S :: wr := fun b m => List.mem_cons_of_mem _ m
  have stay : ∀ {s s' : Shared}, Moved wr G s s' → (∀ b o, h0.get? b = some o → s.heap.get? b = some o) → ∀ b o, h0.get? b = some o → s'.heap.get? b = some o := fun m old b o e =>
    m.heap b o (fun z => by rw [w0 b z] at e; cases e) (old b o e)
  have moved : ∀ {s s' : Shared} {i : Nat}, Moved wr G s s' → (∀ b o, h0.get? b = some o → s'.heap.get? b = some o) → Upto w ks S i s.heap → Upto w ks S i s'.heap := fun m old u => by
    obtain ⟨L, es, ep, t, R', sub, pm⟩ := u
    exact ⟨L, es, ep, t, R'.keep (fun o e => m.heap S o Sw e) fun p hp => (hk p (sub p hp)).keep fun c o _ _ e _ => old c o e, sub, pm⟩
  intro j
  induction j with
  | zero =>
    intro i s hj hi st old u fin
    obtain rfl : i = n := by omega
    refine codeAny_builtin F.entry_set_update_loop ?_
    rw [Around.under_plainId F.plain_set_update_loop _]
    show wpAny _ A.in1 (pyNext (.ref I) >>= _) _ _ s
    refine wpAny_bind (W.done s _ _ st fun s' m => ?_)
    show wpAny _ A.in1 (ret Value.none) _ _ s'
    exact wpAny_pure (fin s' (m.mono more) (moved m (stay m old) u) (stay m old))
  | succ j ih =>
    intro i s hj hi st old u fin
    refine codeAny_builtin F.entry_set_update_loop ?_
    rw [Around.under_plainId F.plain_set_update_loop _]
    show wpAny _ A.in1 (pyNext (.ref I) >>= _) _ _ s
    refine wpAny_bind (W.item i s _ _ (by omega) st fun v s' hP st' m => ?_)
    obtain ⟨p, hp, rfl⟩ := val i v hP
    have old' := stay m old
    obtain ⟨L, es, ep, t, R', sub, pm⟩ := moved m old' u
    have pk : (ks.map (·.2))[i]? = some p.2 := by rw [List.getElem?_map, hp]; rfl
    have le : L.length < 63 := by
      have h1 := pm.length_eq
      rw [List.length_map] at h1
      have h2 := setN_take (ks.map (·.2)) i
      omega
    show wpAny _ A.in1 (holding [Value.ref p.1] (setAdd S (.ref p.1)) >>= _) _ _ s'
    refine wpAny_bind (wpAny_holding ?_)
    refine ns_put R' ((hk p (List.mem_of_getElem? hp)).keep fun c o _ _ e _ => old' c o e) hu (by omega) fun b h' L' es' ep' t' sb R2 sub2 pm2 => ?_
    have old2 : ∀ b o, h0.get? b = some o → h'.get? b = some o := fun b o e => (sb.2 b (fun z => by rw [z, S0] at e; cases e)).trans (old' b o e)
    have u2 : Upto w ks S (i + 1) h' := ⟨L', es', ep', t', R2, fun q hq => (sub2 q hq).elim (fun e => e ▸ List.mem_of_getElem? hp) (sub q), by rw [setN_next pk]; exact pm2.trans (perm_addN pm _)⟩
    refine wpAny_pure ⟨plainId_quiet F.plain_set_update_loop _, ih (i + 1) _ (by omega) (by omega) (W.frame _ s' _ _ st' (Nat.le_add_right _ _) fun b hb o e => ?_) old2 u2 fun s'' m2 u3 old3 => ?_⟩
    · rw [sb.2 b (fun z : b = S => Sf (by rw [← z]; exact hb))]; exact e
    · refine fin s'' (Moved.trans W.gtrans ((m.mono more).then_heap (Nat.le_add_right _ _) fun b o hb e => ?_) m2) u3 old3
      rw [sb.2 b (fun z : b = S => hb (by rw [z]; exact List.mem_cons_self))]; exact e
end
section
variable {P : Program} {w : World} {A : Around} {E : Value → Shared → Prop} {s : Shared}
set_option maxHeartbeats 6400000 in
/-- set(a tuple) -/
theorem ns_of_tuple {l : Addr} {items : Array Value} (ks : List NP) {Q : Value → Shared → Prop} (hh : A.handled = none) (hl : s.heap.IsTuple l items) (hit : items.toList = ks.map fun p => Value.ref p.1)
    (hk : ∀ p ∈ ks, FK s.heap p.2 p.1) (few : (setN (ks.map (·.2))).length < 63) (hu : A.units + 16 < cLine)
    (q : ∀ (h' : Heap) (tk : Nat), Upto w ks s.heap.objs.size ks.length h' → (∀ b o, s.heap.get? b = some o → h'.get? b = some o) → Q (.ref s.heap.objs.size) { s with heap := h', toks := tk }) :
    wpAny (model P w) A (call (.type "set") [.ref l]) Q E s := by
  have isz : items.size = ks.length := by rw [← Array.length_toList, hit, List.length_map]
  have none_of : ∀ b, s.heap.objs.size ≤ b → s.heap.get? b = none := fun b hb => by
    cases z : s.heap.get? b with
    | none => rfl
    | some o => exact absurd (Nat.lt_of_lt_of_le (Heap.lt_size z) hb) (Nat.lt_irrefl _)
  obtain ⟨c, tl, hmro⟩ := PySem.F.called_set.mro
  have hmade := PySem.F.called_set.made
  have hsub := PySem.F.called_set.sub
  refine wpAny_call (codeAny_of_tree ?_)
  show wpAny _ _ (callAny (.type "set") _) _ _ _
  refine wpAny_pure ⟨Code.quiet_builtin _ (by decide +kernel), codeAny_builtin PySem.F.entry_type_call ?_⟩
  rw [Around.under_plain (weight_type_call_type "set" [.ref l] []) rfl]
  have g1 := PySem.F.called_set.notType
  have g2 := PySem.F.called_set.canCreate
  have g3 := PySem.F.typeCall_set_1 (.ref l)
  repeat (any_goals (first | assumption | wp_step))
  refine codeAny_mono (code_set_new_1 (.ref l) (E := E) (Q₁ := fun obj s₁ => ∃ led : Bool, obj = .ref s.heap.objs.size ∧ s₁ = { s with heap := s.heap.push { cls := .type "set", dict := none, data := .set #[] 0 (.fresh 0 0 led) } }) fun led => ⟨led, rfl, rfl⟩) fun r s₁ hr => ?_
  match r, hr with
  | .error e, hr => exact hr
  | .ok (.ret obj), hr =>
    obtain ⟨led, rfl, rfl⟩ := hr
    generalize hob : ({ cls := .type "set", dict := none, data := .set #[] 0 (.fresh 0 0 led) } : Obj) = ob
    have obc : ob.cls = .type "set" := by rw [← hob]
    have hS : (s.heap.push ob).get? s.heap.objs.size = some ob := Heap.get?_push_size _ (by rw [← hob]; rfl)
    have hT : Shared.TypeIs { s with heap := s.heap.push ob } (.ref s.heap.objs.size) "set" := ⟨_, hS, obc⟩
    have g4 := PySem.F.called_set.init.lookup
    have g5 := PySem.F.called_set.init.bind (.ref s.heap.objs.size)
    repeat (any_goals (first | assumption | wp_step))
    refine codeAny_mono (codeAny_call_builtin (R := wants (fun r s₂ => r = .none ∧ ∃ h' tk, s₂ = { s with heap := h', toks := tk } ∧ Upto w ks s.heap.objs.size ks.length h' ∧
        (∀ b o, s.heap.get? b = some o → h'.get? b = some o)) E) PySem.F.called_set.init.plain PySem.F.entry_set_init (check_set_init_1 hT ?_)) fun r₂ s₂ hr₂ => ?_
    · subst hob
      obtain ⟨ol, hol, hcl, nl, hdl⟩ := hl
      obtain ⟨ocls, odict, odata, oslots⟩ := ol
      simp only at hcl hdl
      subst hcl; subst hdl
      have hol' : (s.heap.push { cls := .type "set", dict := none, data := .set #[] 0 (.fresh 0 0 led) }).get? l = some { cls := .type "tuple", dict := odict, data := .seq items nl, slots := oslots } := Heap.get?_push_of_some _ hol
      have f1 := PySem.F.sub_tuple_set
      have f2 := PySem.F.sub_tuple_frozenset
      have f3 : (Value.type "tuple" == Value.type "dict") = false := by decide
      have hl1 : (s.heap.push { cls := .type "set", dict := none, data := .set #[] 0 (.fresh 0 0 led) }).IsTuple l items := ⟨_, hol', rfl, nl, rfl⟩
      unfold Builtin.«set.__init__» noKeywords Builtin.Frozenset.updateFrom
      generalize hPI : pyIter = PI
      wp_walk
      subst hPI
      refine wpAny_pyIter_tuple hl1 ?_
      refine wpAny_bind (wpAny_runValue ?_)
      have lS : l < s.heap.objs.size := Heap.lt_size hol
      have hh3 : A.in1.in1.in1.handled = none := by simp [hh]
      have szp : (s.heap.push { cls := .type "set", dict := none, data := .set #[] 0 (.fresh 0 0 led) }).objs.size = s.heap.objs.size + 1 := Heap.size_push ..
      have ne : l ≠ (s.heap.push { cls := .type "set", dict := none, data := .set #[] 0 (.fresh 0 0 led) }).objs.size := by rw [szp]; exact Nat.ne_of_lt (Nat.lt_succ_of_lt lS)
      have Sf : s.heap.objs.size ∉ [(s.heap.push { cls := .type "set", dict := none, data := .set #[] 0 (.fresh 0 0 led) }).objs.size, l] := by
        rw [szp]
        simp only [List.mem_cons, List.not_mem_nil, or_false, not_or]
        exact ⟨Nat.ne_of_lt (Nat.lt_succ_self _), Nat.ne_of_gt lS⟩
      have val : ∀ (i : Nat) (v : Value), items[i]? = some v → ∃ p, ks[i]? = some p ∧ v = .ref p.1 := fun i v hv => by
        rw [← Array.getElem?_toList, hit, List.getElem?_map] at hv
        cases hq : ks[i]? with
        | none => rw [hq] at hv; cases hv
        | some p => rw [hq] at hv; exact ⟨p, rfl, (Option.some.inj hv).symm⟩
      refine ns_loop ((Walks.tuple hh3 _ l ne items).toS) Sf isz few val hk (none_of _ (Nat.le_refl _)) (fun b hb => none_of b (by
          rw [List.mem_singleton.mp hb, szp]; omega)) (by simp only [Around.in1_units]; omega) (items.size - 0) 0 _ (by omega) (Nat.zero_le _)
        ⟨⟨_, Heap.get?_push_size _ rfl, rfl, rfl⟩, (hl1.push _)⟩ (fun b o e => Heap.get?_push_of_some _ (Heap.get?_push_of_some _ e)) ?hS0 ?hR
      case hS0 =>
        refine ⟨[], #[], 0, .fresh 0 0 led, ns_empty (Heap.get?_push_of_some _ hS), (fun _ m => nomatch m), ?_⟩
        exact List.Perm.refl _
      case hR =>
        intro s' hm u' old'
        obtain ⟨h', g', d', tk', os'⟩ := s'
        have eg : g' = s.gens := hm.gens
        have ed : d' = s.drawn := hm.drawn
        have eo : os' = s.os := hm.os
        subst eg; subst ed; subst eo
        show wpAny _ _ _ _ _ _
        refine wpAny_pure ?_
        show wpAny _ _ (ret Value.none) _ _ _
        rw [isz] at u'
        exact wpAny_pure ⟨rfl, h', tk', rfl, u', old'⟩
    · match r₂, hr₂ with
      | .error e, hr₂ => exact hr₂
      | .ok (.ret r), hr₂ =>
        obtain ⟨rfl, h', tk, rfl, u', old'⟩ := hr₂
        repeat (any_goals (first | assumption | wp_step))
        exact q _ _ u' old'
end
end Cs

set_option maxRecDepth 100000
set_option maxHeartbeats 4000000
/-! dicts and sets whose keys are tuples of None, ints and texts: over the hand layer -/
namespace Cs
open PySem PySem.Spec PyProof.Rows L2
def lfV : NestedKey → Option V
  | .none => some .non
  | .num i => some (.int i)
  | .text x => some (.str x)
  | .tup _ => none
/-- at b stands a tuple with the key k -/
def KeyH (H : Hp) (k : NestedKey) (b : Addr) : Prop := ∃ ks us, k = .tup ks ∧ H b = some (.tup us) ∧ us.map some = ks.map lfV
theorem leaf_is {h : Heap} {k : NestedKey} {v : V} {u : Value} (e : lfV k = some v) (r : RelV v u) : NestedIs h k u ∧ lfK k = true := by
  cases k with
  | none => cases e; cases r; exact ⟨.none, rfl⟩
  | num i => cases e; obtain ⟨t, rfl⟩ := r; exact ⟨.int _ _, rfl⟩
  | text x => cases e; obtain ⟨t, rfl⟩ := r; exact ⟨.text _ _, rfl⟩
  | tup ks => cases e
theorem leaves_is {h : Heap} : ∀ {us : List V} {its : List Value} {ks : List NestedKey}, Vals us its → us.map some = ks.map lfV → NestedAll h ks its ∧ ∀ k ∈ ks, lfK k = true
  | [], _, [], r, _ => by cases r; exact ⟨.nil, fun _ m => nomatch m⟩
  | u :: us, _, k :: ks, r, e => by
    cases r with
    | cons r1 r2 =>
      rw [List.map_cons, List.map_cons] at e
      injection e with e1 e2
      obtain ⟨a1, a2⟩ := leaf_is (h := h) e1.symm r1
      obtain ⟨b1, b2⟩ := leaves_is (h := h) r2 e2
      refine ⟨.cons a1 b1, fun x m => ?_⟩
      rcases List.mem_cons.mp m with rfl | m
      · exact a2
      · exact b2 x m
  | [], _, _ :: _, _, e => by cases e
  | _ :: _, _, [], _, e => by cases e
theorem KeyH.fk {P : Program} {w : World} {H : Hp} {h : Heap} {k : NestedKey} {b : Addr} (q : KeyH H k b) (ok : HOk P w H h) : FK h k b := by
  obtain ⟨ks, us, rfl, hb, e⟩ := q
  obtain ⟨_, its, r, o, h1, h2, n, h3⟩ := (show ObjOk P w H h b (.tup us) from ok b _ hb)
  obtain ⟨a1, a2⟩ := leaves_is (h := h) r e
  exact ⟨.tup h1 h2 h3 (by simpa using a1), ks, rfl, a2⟩
theorem KeyH.up {H H' : Hp} {k : NestedKey} {b : Addr} (q : KeyH H k b) (e : ∀ b xs, H b = some (.tup xs) → H' b = some (.tup xs)) : KeyH H' k b :=
  let ⟨ks, us, h1, h2, h3⟩ := q
  ⟨ks, us, h1, e _ _ h2, h3⟩
theorem lfV_inj {a b : NestedKey} {v : V} (h1 : lfV a = some v) (h2 : lfV b = some v) : a = b := by
  cases a <;> cases b <;> cases h1 <;> cases h2 <;> rfl
theorem lfVs_inj : ∀ {as bs : List NestedKey} {us : List V}, us.map some = as.map lfV → us.map some = bs.map lfV → as = bs
  | [], [], _, _, _ => rfl
  | [], _ :: _, [], _, h => by cases h
  | _ :: _, [], [], h, _ => by cases h
  | [], _ :: _, _ :: _, h, _ => by cases h
  | _ :: _, [], _ :: _, _, h => by cases h
  | _ :: _, _ :: _, [], h, _ => by cases h
  | a :: as, b :: bs, u :: us, h1, h2 => by
    rw [List.map_cons, List.map_cons] at h1 h2
    injection h1 with e1 f1
    injection h2 with e2 f2
    rw [lfV_inj e1.symm e2.symm, lfVs_inj f1 f2]
theorem KeyH.inj {H : Hp} {k k' : NestedKey} {b : Addr} (h1 : KeyH H k b) (h2 : KeyH H k' b) : k = k' := by
  obtain ⟨ks, us, rfl, a1, a2⟩ := h1
  obtain ⟨ks', us', rfl, b1, b2⟩ := h2
  rw [a1] at b1
  cases b1
  rw [lfVs_inj a2 b2]
/-! ### sets -/
def Sn0 (w : World) (h : Heap) (a : Addr) (L : List NP) : Prop := ∃ (es : Array (Int × Value)) (ep : Nat) (t : SetTable), (∃ o, h.get? a = some o ∧ o.ExactSet ∧ o.data = .set es ep t) ∧ es.toList = L.map (NP.row w) ∧ TabOk t (L.map (NP.h w)) ∧ (L.map (·.2)).Nodup ∧ L.length * 5 < t.mask * 3 ∧ L.length < 64
def SnO (w : World) (a : Addr) (L : List NP) : HO := .ext fun h => Sn0 w h a L
theorem NsR.s0 {w : World} {h : Heap} {a : Addr} {L : List NP} {es : Array (Int × Value)} {ep : Nat} {t : SetTable} (R : NsR w h a L es ep t) : Sn0 w h a L := ⟨es, ep, t, R.ob, R.rows, R.tab, R.nd, R.room, R.few⟩
theorem Sn0.full {w : World} {h : Heap} {a : Addr} {L : List NP} (R : Sn0 w h a L) (k : ∀ p ∈ L, FK h p.2 p.1) : ∃ es ep t, NsR w h a L es ep t := by
  obtain ⟨es, ep, t, h1, h2, h3, h4, h5, h6⟩ := R
  exact ⟨es, ep, t, h1, h2, h3, h4, k, h5, h6⟩
theorem sn_ok {P : Program} {w : World} {H : Hp} {h : Heap} {a : Addr} {L : List NP} (R : Sn0 w h a L) : ObjOk P w H h a (SnO w a L) := by
  have R' := R
  obtain ⟨es, ep, t, ⟨o, ho, r⟩, q⟩ := R'
  refine ⟨R, ⟨o, ho⟩, fun h1 h2 p k => ?_⟩
  obtain ⟨es', ep', t', ⟨o', ho', r'⟩, q'⟩ := p
  exact ⟨es', ep', t', ⟨o', k o' ho', r'⟩, q'⟩
theorem sn_rd {P : Program} {w : World} {H : Hp} {h : Heap} {a : Addr} {L : List NP} (ok : HOk P w H h) (e : Rd H a (SnO w a L)) (k : ∀ p ∈ L, KeyH H p.2 p.1) : ∃ es ep t, NsR w h a L es ep t :=
  Sn0.full (rd_of ok e).1 fun p m => (k p m).fk ok
/-! ### dicts -/
abbrev NX := NestedKey × Addr × Value
def Dn0 (P : Program) (w : World) (h : Heap) (a : Addr) (xs : List NX) : Prop := (a == sysModules) = false ∧ xs.length ≤ sizeLine ∧ ∃ o es ep, h.get? a = some o ∧ o.ExactDict ∧ o.data = .dict es ep ∧ es.toList = xs.map (entryOfKey (nestedKind P w)) ∧ (xs.map (·.1)).Nodup
def DnO (P : Program) (w : World) (a : Addr) (xs : List NX) : HO := .ext fun h => Dn0 P w h a xs
/-- what the entries are -/
def KN (H : Hp) (kvs : List (NestedKey × V)) (xs : List NX) : Prop := Paired (fun p q => p.1 = q.1 ∧ KeyH H p.1 q.2.1 ∧ RelV p.2 q.2.2) kvs xs
theorem dn_ok {P : Program} {w : World} {H : Hp} {h : Heap} {a : Addr} {xs : List NX} (R : Dn0 P w h a xs) : ObjOk P w H h a (DnO P w a xs) := by
  have R' := R
  obtain ⟨z1, z2, o, es, ep, ho, r⟩ := R'
  refine ⟨R, ⟨o, ho⟩, fun h1 h2 p k => ?_⟩
  obtain ⟨z1, z2, o, es, ep, ho, r⟩ := p
  exact ⟨z1, z2, o, es, ep, k o ho, r⟩
theorem KN.up {H H' : Hp} {kvs : List (NestedKey × V)} {xs : List NX} (q : KN H kvs xs) (e : ∀ b us, H b = some (.tup us) → H' b = some (.tup us)) : KN H' kvs xs := by
  induction q with
  | nil => exact .nil
  | cons h _ ih => exact .cons ⟨h.1, h.2.1.up e, h.2.2⟩ ih
theorem KN.keys {H : Hp} {kvs : List (NestedKey × V)} {xs : List NX} (q : KN H kvs xs) : ∀ x ∈ xs, KeyH H x.1 x.2.1 := by
  induction q with
  | nil => exact fun _ m => nomatch m
  | cons h _ ih =>
    intro x m
    rcases List.mem_cons.mp m with rfl | m
    · rw [← h.1]; exact h.2.1
    · exact ih x m
theorem KN.fst {H : Hp} {kvs : List (NestedKey × V)} {xs : List NX} (q : KN H kvs xs) : kvs.map (·.1) = xs.map (·.1) := by
  induction q with
  | nil => rfl
  | cons h _ ih => rw [List.map_cons, List.map_cons, h.1, ih]
theorem KN.len {H : Hp} {kvs : List (NestedKey × V)} {xs : List NX} (q : KN H kvs xs) : kvs.length = xs.length := Paired.length q
theorem KN.at_ {H : Hp} {kvs : List (NestedKey × V)} {xs : List NX} (q : KN H kvs xs) (k : NestedKey) : RelO (valV kvs k) ((atKey xs k).map (·.2)) := by
  induction q with
  | nil => trivial
  | @cons p x ps xs h _ ih =>
    by_cases e : p.1 = k
    · have e' : x.1 = k := h.1.symm.trans e
      rw [valV_pos e]
      simp only [atKey, List.find?_cons, e', decide_true]
      exact h.2.2
    · have e' : ¬ x.1 = k := fun z => e (h.1.trans z)
      rw [valV_neg e]
      simpa [atKey, List.find?_cons, e'] using ih
theorem dn_rd {P : Program} {w : World} {H : Hp} {h : Heap} {a : Addr} {xs : List NX} {kvs : List (NestedKey × V)} (ok : HOk P w H h) (e : Rd H a (DnO P w a xs)) (k : KN H kvs xs) :
    (a == sysModules) = false ∧ xs.length ≤ sizeLine ∧ h.DictOfH (nestedKind P w) a xs := by
  obtain ⟨z1, z2, o, es, ep, h1, h2, h3, h4, h5⟩ := (rd_of ok e).1
  exact ⟨z1, z2, o, es, ep, h1, h2, h3, h4, fun x m => ((k.keys x m).fk ok).nk, h5⟩
theorem put_no (k : NestedKey) (b : Addr) (r : Value) : ∀ {xs : List NX}, (∀ x ∈ xs, x.1 ≠ k) → atKey xs k = none := fun {xs} h => by
  unfold atKey
  rw [List.find?_eq_none.mpr fun x m => by simpa using h x m]
  rfl
theorem KN.any {H : Hp} {kvs : List (NestedKey × V)} {xs : List NX} (q : KN H kvs xs) (k : NestedKey) : (kvs.any fun kv => decide (kv.1 = k)) = (atKey xs k).isSome := by
  induction q with
  | nil => rfl
  | @cons p x ps xs h _ ih =>
    by_cases e : p.1 = k
    · have e' : x.1 = k := h.1.symm.trans e
      simp [atKey, List.any_cons, List.find?_cons, e, e']
    · have e' : ¬ x.1 = k := fun z => e (h.1.trans z)
      rw [List.any_cons, decide_eq_false e, Bool.false_or, ih]
      simp [atKey, List.find?_cons, e']
theorem KN.mapped {H : Hp} {k : NestedKey} {v : V} {r : Value} (rv : RelV v r) {kvs : List (NestedKey × V)} {xs : List NX} (q : KN H kvs xs) : KN H (kvs.map fun kv => if kv.1 = k then (kv.1, v) else kv) (xs.map (putAt k r)) := by
  induction q with
  | nil => exact .nil
  | @cons p x ps xs h _ ih =>
    rw [List.map_cons, List.map_cons]
    refine .cons ?_ ih
    unfold putAt
    by_cases e : p.1 = k
    · have e' : x.1 = k := h.1.symm.trans e
      rw [if_pos e, if_pos e']
      exact ⟨h.1, h.2.1, rv⟩
    · rw [if_neg e, if_neg fun z => e (h.1.trans z)]
      exact h
theorem KN.put {H : Hp} {kvs : List (NestedKey × V)} {xs : List NX} {k : NestedKey} {b : Addr} {v : V} {r : Value} (q : KN H kvs xs) (hk : KeyH H k b) (rv : RelV v r) : KN H (putK kvs k v) (storedH xs k b r) := by
  unfold putK storedH
  rw [q.any k]
  by_cases e : (atKey xs k).isSome = true
  · rw [if_pos e, if_pos e]; exact q.mapped rv
  · rw [if_neg e, if_neg e]
    have app : ∀ {ks : List (NestedKey × V)} {ys : List NX}, KN H ks ys → KN H (ks ++ [(k, v)]) (ys ++ [(k, b, r)]) := fun {ks ys} z => by
      induction z with
      | nil => exact .cons ⟨rfl, hk, rv⟩ .nil
      | cons h _ ih => exact .cons h ih
    exact app q
/-! what the dict at a holds at y -/
def DGetN (P : Program) (w : World) (H : Hp) (a : Addr) (y : V) (r : Option V) : Prop := ∃ xs kvs k b, Rd H a (DnO P w a xs) ∧ KN H kvs xs ∧ y = .ref b ∧ KeyH H k b ∧ r = valV kvs k
/-- the heaps behind a[y] = v -/
def DPutN (P : Program) (w : World) (H : Hp) (a : Addr) (y v : V) (Q : Hp → Prop) : Prop := ∃ xs kvs k b, H a = some (DnO P w a xs) ∧ KN H kvs xs ∧ y = .ref b ∧ KeyH H k b ∧ kvs.length < sizeLine ∧
  ∀ xs', KN H (putK kvs k v) xs' → Q (upd H a (DnO P w a xs'))
section
variable {X : Cx} {pins : List (Addr × Obj)} {σ : L2.St} {H : Hp} {s : Shared} {a : Addr} {y v : V} {u r : Value} {o : Option V} {A : Around} {E : Value → Shared → Prop}
theorem ext_up {H : Hp} {a : Addr} {φ : Heap → Prop} {n : HO} (e : H a = some (.ext φ)) : ∀ b us, H b = some (.tup us) → upd H a n b = some (.tup us) := fun b us z => by
  rw [upd_ne fun c => by subst c; rw [e] at z; cases z]
  exact z
theorem n_getItem {Q : Value → Shared → Prop} (hu : A.units + 9 < cLine) (I : Inv X pins σ H s) (g : DGetN X.prog X.w H a y (some v)) (ry : RelV y u) (h : ∀ w' s', Inv X pins σ H s' → RelV v w' → Q w' s') : wpAny (model X.prog X.w) A (getItem (.ref a) u) Q E s := by
  obtain ⟨xs, kvs, k, b, e, q, rfl, hk, l⟩ := g
  cases (show u = Value.ref b from ry)
  obtain ⟨z, hz, dd⟩ := dn_rd I.hok e q
  obtain ⟨w', hw, rw'⟩ := RelO.some_of (v := v) (o := (atKey xs k).map (·.2)) (by rw [l]; exact q.at_ k)
  obtain ⟨p, hp, hp2⟩ := Option.map_eq_some_iff.mp hw
  refine wpAny_getItem_heap (knd := nestedKind X.prog X.w) (by show A.units + 1 + 8 < cLine; omega) (hk.fk I.hok).nk dd hp ?_
  rw [hp2]
  exact h w' _ (I.tok _) rw'
theorem n_in {Q : Value → Shared → Prop} (hu : A.units + 9 < cLine) (I : Inv X pins σ H s) (g : DGetN X.prog X.w H a y o) (ry : RelV y u) (h : ∀ s', Inv X pins σ H s' → Q (.bool o.isSome) s') : wpAny (model X.prog X.w) A (compareOp .In u (.ref a)) Q E s := by
  obtain ⟨xs, kvs, k, b, e, q, rfl, hk, l⟩ := g
  cases (show u = Value.ref b from ry)
  obtain ⟨z, hz, dd⟩ := dn_rd I.hok e q
  refine wpAny_in_heap (knd := nestedKind X.prog X.w) (by show A.units + 1 + 8 < cLine; omega) (hk.fk I.hok).nk z dd ?_
  have e2 := (q.at_ k).isSome_eq
  rw [Option.isSome_map] at e2
  rw [← e2, ← l]
  exact h _ (I.tok _)
theorem n_notIn {Q : Value → Shared → Prop} (hu : A.units + 9 < cLine) (I : Inv X pins σ H s) (g : DGetN X.prog X.w H a y o) (ry : RelV y u) (h : ∀ s', Inv X pins σ H s' → Q (.bool (!o.isSome)) s') : wpAny (model X.prog X.w) A (compareOp .NotIn u (.ref a)) Q E s := by
  obtain ⟨xs, kvs, k, b, e, q, rfl, hk, l⟩ := g
  cases (show u = Value.ref b from ry)
  obtain ⟨z, hz, dd⟩ := dn_rd I.hok e q
  refine wpAny_notIn_heap (knd := nestedKind X.prog X.w) (by show A.units + 1 + 8 < cLine; omega) (hk.fk I.hok).nk z dd ?_
  have e2 := (q.at_ k).isSome_eq
  rw [Option.isSome_map] at e2
  rw [← e2, ← l]
  exact h _ (I.tok _)
theorem n_get1 {Q : Value → Shared → Prop} (hu : A.units + 9 < cLine) (I : Inv X pins σ H s) (g : DGetN X.prog X.w H a y o) (ry : RelV y u) (h : ∀ w' s', Inv X pins σ H s' → RelV (o.getD .non) w' → Q w' s') :
    wpAny (model X.prog X.w) A (call (.builtin "dict.get") [.ref a, u]) Q E s := by
  obtain ⟨xs, kvs, k, b, e, q, rfl, hk, l⟩ := g
  cases (show u = Value.ref b from ry)
  obtain ⟨z, hz, dd⟩ := dn_rd I.hok e q
  refine call_meetsIn PySem.F.slot_dict_get dd.typeIs PySem.F.entry_dict_get (PySem.F.args_dict_get_2 _ _) (meetsH_dict_get (nestedKind X.prog X.w) a b z) ⟨by show A.units + 1 + 8 < cLine; omega, k, xs, (hk.fk I.hok).nk, dd, h _ _ (I.tok _) ?_⟩
  rw [l]
  exact (q.at_ k).getD rfl
/-- the dict's object is written -/
theorem n_stored {xs : List NX} {kvs : List (NestedKey × V)} {k : NestedKey} {b : Addr} {h' : Heap} {t' : Nat} (I : Inv X pins σ H s) (e : H a = some (DnO X.prog X.w a xs)) (q : KN H kvs xs) (hk : KeyH H k b) (rv : RelV v r) (hl : kvs.length < sizeLine)
    (dd : h'.DictOfH (nestedKind X.prog X.w) a (storedH xs k b r)) (sb : Heap.SameBut a s.heap h') : Inv X pins σ (upd H a (DnO X.prog X.w a (storedH xs k b r))) { s with heap := h', toks := t' } := by
  obtain ⟨z, _, _⟩ := dn_rd I.hok (.inl e) q
  obtain ⟨o, es, ep, h1, h2, h3, h4, _, h5⟩ := dd
  have ll : (storedH xs k b r).length ≤ sizeLine := by
    rw [← (q.put hk rv).len]
    have := length_putK kvs k v
    omega
  exact d_write I (by rw [e]; exact True.intro) sb ⟨o, h1⟩ (dn_ok ⟨z, ll, o, es, ep, h1, h2, h3, h4, h5⟩)
theorem n_setItem {Q : Unit → Shared → Prop} {R : Hp → Prop} (hu : A.units + 9 < cLine) (I : Inv X pins σ H s) (g : DPutN X.prog X.w H a y v R) (ry : RelV y u) (rv : RelV v r) (h : ∀ H' s', R H' → Inv X pins σ H' s' → Q () s') :
    wpAny (model X.prog X.w) A (setItem (.ref a) u r) Q E s := by
  obtain ⟨xs, kvs, k, b, e, q, rfl, hk, hl, nx⟩ := g
  cases (show u = Value.ref b from ry)
  obtain ⟨z, hz, dd⟩ := dn_rd I.hok (.inl e) q
  refine wpAny_setItem_heap (knd := nestedKind X.prog X.w) (hsz := hz) (by show A.units + 1 + 8 < cLine; omega) (hk.fk I.hok).nk dd fun h' dd' sb => h _ _ (nx _ (q.put hk rv)) (n_stored I e q hk rv hl dd' sb)
theorem dgn_type (I : Inv X pins σ H s) (g : DGetN X.prog X.w H a y o) : s.TypeIs (.ref a) "dict" ∧ (∀ b, Value.ref a = .ref b → ∃ ob, s.heap.get? b = some ob ∧ ob.dict = none) := by
  obtain ⟨xs, kvs, k, b, e, q, rfl, hk, l⟩ := g
  obtain ⟨z, hz, dd⟩ := dn_rd I.hok e q
  refine ⟨dd.typeIs, fun c w => ?_⟩
  cases w
  obtain ⟨ob, _, _, h1, h2, _⟩ := dd
  exact ⟨ob, h1, h2.2.1⟩
end
/-! ### readings -/
def IsDN (P : Program) (w : World) (H : Hp) (a : Addr) : Prop := ∃ xs kvs, Rd H a (DnO P w a xs) ∧ KN H kvs xs
def tDGetN (P : Program) (w : World) (td ty : TE) : TE := fun σ H Q => td σ H fun x H1 => ty σ H1 fun y H2 => ∃ a v, x = .ref a ∧ DGetN P w H2 a y (some v) ∧ Q v H2
def tDInN' (P : Program) (w : World) (n : Bool) (ty td : TE) : TE := fun σ H Q => ty σ H fun y H1 => td σ H1 fun x H2 => ∃ a o, x = .ref a ∧ DGetN P w H2 a y o ∧ Q (.bl (n ^^ o.isSome)) H2
def tDGet1N (P : Program) (w : World) (td ty : TE) : TE := fun σ H Q => td σ H fun x H1 => ∃ a, x = .ref a ∧ IsDN P w H1 a ∧ ty σ H1 fun y H2 => ∃ o, DGetN P w H2 a y o ∧ Q (o.getD .non) H2
def sDPutN (P : Program) (w : World) (td ty tv : TE) : TS := fun D σ H => tv σ H fun v H1 => td σ H1 fun x H2 => ty σ H2 fun y H3 => ∃ a, x = .ref a ∧ DPutN P w H3 a y v fun H4 => D.nx σ H4
def tDNewN (P : Program) (w : World) : TE := fun _ H Q => ∀ p, H p = none → Q (.ref p) (upd H p (DnO P w p []))
section
variable {X : Cx} {o i e value : Expr} {pos pos' apos cpos : Pos} {td ty tv : TE}
theorem pe_dgetN (hu : X.A.units + 9 < cLine) (ho : PE X o td) (hi : PE X i ty) (hs : NoSl i) : PE X (.Subscript o i pos) (tDGetN X.prog X.w td ty) := by
  refine ⟨fun pins s σ H Q I h => ?_⟩
  refine subD_of PySem.F.slot_dict_getitem.lookup hs (thn (ho.run pins s σ H _ I h) fun c s1 ⟨x, H1, I1, rx, q1⟩ => thn (hi.run pins s1 σ H1 _ I1 q1) fun d s2 ⟨y, H2, I2, ry, a, v, ex, g, q2⟩ => ?_)
  subst ex
  cases (show c = Value.ref a from rx)
  exact ⟨(dgn_type I2 g).1, n_getItem hu I2 g ry fun w' s3 I3 rw' => ⟨v, H2, I3, rw', q2⟩⟩
theorem pc_dinN1 (hu : X.A.units + 9 < cLine) (hi : PE X i ty) (ho : PE X o td) : PC X .In i o (tDInN' X.prog X.w false ty td) := by
  refine ⟨fun pins s σ H Q I h => ?_⟩
  refine thn (hi.run pins s σ H _ I h) fun d s1 ⟨y, H1, I1, ry, q1⟩ => thn (ho.run pins s1 σ H1 _ I1 q1) fun c s2 ⟨x, H2, I2, rx, a, ov, ex, g, q2⟩ => ?_
  subst ex
  cases (show c = Value.ref a from rx)
  rw [Bool.false_xor] at q2
  exact n_in hu I2 g ry fun s3 I3 => ⟨.bl ov.isSome, H2, I3, rfl, q2⟩
theorem pc_dnotinN1 (hu : X.A.units + 9 < cLine) (hi : PE X i ty) (ho : PE X o td) : PC X .NotIn i o (tDInN' X.prog X.w true ty td) := by
  refine ⟨fun pins s σ H Q I h => ?_⟩
  refine thn (hi.run pins s σ H _ I h) fun d s1 ⟨y, H1, I1, ry, q1⟩ => thn (ho.run pins s1 σ H1 _ I1 q1) fun c s2 ⟨x, H2, I2, rx, a, ov, ex, g, q2⟩ => ?_
  subst ex
  cases (show c = Value.ref a from rx)
  rw [Bool.true_xor] at q2
  exact n_notIn hu I2 g ry fun s3 I3 => ⟨.bl (!ov.isSome), H2, I3, rfl, q2⟩
theorem ps_dputN (hu : X.A.units + 9 < cLine) (ho : PE X o td) (hi : PE X i ty) (hv : PE X value tv) (hs : swapsWith value (some (.Subscript o i pos')) pos.line X.env = pure false) :
    PS X (.Assign [.Subscript o i pos'] value pos) (sDPutN X.prog X.w td ty tv) := by
  refine ⟨fun pins s σ H D I h => ?_⟩
  refine wpAny_Assign_Subscript (thn (hv.run pins s σ H _ I h) fun f s1 ⟨v, H1, I1, rv, q1⟩ => thn (ho.run pins s1 σ H1 _ I1 q1) fun c s2 ⟨x, H2, I2, rx, q2⟩ => thn (hi.run pins s2 σ H2 _ I2 q2) fun d s3 ⟨y, H3, I3, ry, a, ex, g⟩ => ?_) hs
  subst ex
  cases (show c = Value.ref a from rx)
  exact n_setItem hu I3 g ry rv fun H4 s4 q4 I4 => ⟨σ, H4, I4, q4⟩
theorem pe_dget1N (hu : X.A.units + 9 < cLine) (ho : PE X o td) (he : PE X e ty) (m : M1 X o "get" apos e cpos) : PE X (.Call (.Attribute o "get" apos) [e] [] cpos) (tDGet1N X.prog X.w td ty) := by
  refine ⟨fun pins s σ H Q I h => ?_⟩
  refine wpAny_Call_method m.base m.few m.line PySem.F.plainAttrs_dict PySem.F.slot_dict_get PySem.F.type_dict_get (thn (ho.run pins s σ H _ I h) fun c s1 ⟨x, H1, I1, rx, a, ex, d, q1⟩ => ?_)
  subst ex
  cases (show c = Value.ref a from rx)
  obtain ⟨xs, kvs, rd, kn⟩ := d
  obtain ⟨z, hz, dd⟩ := dn_rd I1.hok rd kn
  refine ⟨dd.typeIs, fun c w => ?_, ?_⟩
  · cases w
    obtain ⟨ob, _, _, h1, h2, _⟩ := dd
    exact ⟨ob, h1, h2.2.1⟩
  rw [m.trees]
  refine Calls.callWith_builtin rfl (Calls.evalArgs_plain (Calls.spliced_cons (thn (he.run pins s1 σ H1 _ I1 q1) fun f s2 ⟨y, H2, I2, ry, ov, g, q2⟩ => Calls.spliced_nil ?_)))
  exact n_get1 hu I2 g ry fun w' s3 I3 rw' => ⟨_, H2, I3, rw', q2⟩
theorem dn_new {P : Program} {w : World} (h : Heap) (big : sysModules < h.objs.size) : Dn0 P w (h.push { cls := .type "dict", data := .dict #[] }) h.objs.size [] :=
  ⟨beq_eq_false_iff_ne.mpr (Ne.symm (Nat.ne_of_lt big)), Nat.zero_le _, _, #[], 0, Heap.get?_push_size _ rfl, ⟨rfl, rfl, rfl⟩, rfl, rfl, List.nodup_nil⟩
theorem pe_dnewN : PE X (.Dict [] [] pos) (tDNewN X.prog X.w) := ⟨fun pins s σ H Q I h =>
  wpAny_Dict_empty ⟨.ref s.heap.objs.size, _, I.laid (a := s.heap.objs.size) (o := DnO X.prog X.w s.heap.objs.size []) (t' := s.toks) (fun _ _ q => Heap.get?_push_of_some _ q) (Nat.le_refl _) (dn_ok (dn_new s.heap I.big)), rfl, h _ (I.hok.fresh (Nat.le_refl _))⟩⟩
end
end Cs

set_option maxRecDepth 100000
set_option maxHeartbeats 4000000
/-! over the hand layer: {k: v for ..}, the keys walked, sets -/
namespace Cs
open PySem PySem.Spec PyProof.Rows L2
/-- P holds of the block that a comprehension opens -/
def InBlkN (X : Cx) (sc : Scope) (P : Cx → Prop) : Prop := ∀ (s : Shared) (H : Hp) (C : Addr) (cl : List (Str × Addr)) (fp : List Addr), P (X.blk s H sc (compEnvC sc cl C X.env) fp)
def tDcN (P : Program) (w : World) (wi : TI) (g : TG) (tt : TT) (tk tv : TE) (vs : List Nat) : TE := fun σ H Q => wi σ H fun J H1 => ∀ D, H1 D = none →
  ∃ W : Nat → Nat → Hp → Prop, (∃ m, W 0 m (upd H1 D (DnO P w D []))) ∧ ∀ i m G, W i m G → (J.stop i G ∧ Q (.ref D) G) ∨
    (J.go i G ∧ ∃ Nx : Hp → Prop, (∀ G', Nx G' → ∃ m', m' < m ∧ W (i + 1) m' G') ∧
      ∀ x G', J.yld i G x G' → g x (wipe σ vs) G' fun σ2 H2 => wipe σ2 vs = wipe σ vs ∧ tt σ2 H2 fun b H3 => if b = true then tk σ2 H3 fun y H4 => tv σ2 H4 fun z H5 => DPutN P w H5 D y z Nx else Nx H3)
section
variable {X : Cx}
theorem putN_ok {pins : List (Addr × Obj)} {σ : L2.St} {H : Hp} {s : Shared} {E : Value → Shared → Prop} {D : Addr} {Nx : Hp → Prop} {y z : V} {u r : Value} {Q : Unit → Shared → Prop} (hu : X.A.units + 9 < cLine) (I : Inv X pins σ H s) (p : DPutN X.prog X.w H D y z Nx)
    (ry : RelV y u) (rz : RelV z r) (h : ∀ G t, Nx G → Inv X pins σ G t → Q () t) : wpAny (model X.prog X.w) X.A (dictSet D u r) Q E s := by
  obtain ⟨xs, kvs, k, b, e, q, rfl, hk, hl, nx⟩ := p
  cases (show u = Value.ref b from ry)
  obtain ⟨hd, hz, dd⟩ := dn_rd I.hok (.inl e) q
  exact wpAny_dictSet_heap (knd := nestedKind X.prog X.w) (hsz := hz) (by show X.A.units + 8 < cLine; omega) (hk.fk I.hok).nk dd fun h' dd' sb => h _ _ (nx _ (q.put hk rz)) (n_stored I e q hk rz hl dd' sb)
theorem newN_ok {pins : List (Addr × Obj)} {σ : L2.St} {H : Hp} {s : Shared} (I : Inv X pins σ H s) : Inv X pins σ (upd H s.heap.objs.size (DnO X.prog X.w s.heap.objs.size [])) { s with heap := s.heap.push { cls := .type "dict", data := .dict #[] } } :=
  I.laid (t' := s.toks) (fun _ _ e => Heap.get?_push_of_some _ e) (Nat.le_refl _) (dn_ok (dn_new s.heap I.big))
variable {kx vx tg iter : Expr} {ifs : List Expr} {sc : Scope} {own : List (Str × Nat)} {pos : Pos} {wi : TI} {g : TG} {tt : TT} {tk tv : TE}
theorem dcN_core {pins : List (Addr × Obj)} {s : Shared} {σ : L2.St} {H : Hp} {Q : VK} {pos' : Pos} {use : Option (Value → Sem Unit)} {Qf : Value → Shared → Prop}
    (hu : X.A.units + 9 < cLine) (calm : X.calm = true) (nd : X.N.Nodup) (I : Inv X pins σ H s) (src : PI X tg iter wi) (ok : BlkOk X.N X.env.scope sc own)
    (ptg : InBlkN X sc fun Y => PG Y tg g) (pif : InBlkN X sc fun Y => PTs Y ifs tt) (pk : InBlkN X sc fun Y => PE Y kx tk) (pv : InBlkN X sc fun Y => PE Y vx tv) (fold : ∀ x, foldedSetIterable iter X.env x = pure x)
    (h : tDcN X.prog X.w wi g tt tk tv (own.map (·.2)) σ H Q)
    (fin : ∀ D C t m G, Inv X pins σ G t → Q (.ref D) G → t.heap.Ns C m → FpOk X pins G C → compPost (model X.prog X.w) X.A X.xe use Qf (.ref D) C (.ok .next) t) :
    wpAny (model X.prog X.w) X.A (comprehension (.DictComp kx vx [⟨tg, iter, ifs, 0⟩] sc pos) sc X.env pos' newDict false (eval iter X.env) use) Qf X.xe s := by
  have clo : closureFor sc X.env = pure (cloFrom X.env.cells sc.names []) := closure_ok fun y hy e => (ok.free y hy e).elim (fun k => I.ok.has _ (.inl k)) fun k => I.ok.has _ (.inr k)
  refine wpAny_comprehension_free rfl fold clo ok.kind (fun y hy e => (ok.uniq y hy).trans (congrArg some e)) ?_
  refine thn (src.run pins s σ H _ I h) fun _ s1 w1 => thn w1 fun _ s2 w2 => ?_
  obtain ⟨it, fp, tn, J, G0, rfl, I2, T, at2, fp2, walk⟩ := w2
  refine wpAny_newObj_type (newEnv_comp ?_)
  have I3 := newN_ok I2
  obtain ⟨W, ⟨m0, w0⟩, turn⟩ := walk s2.heap.objs.size (I2.hok.fresh (Nat.le_refl _))
  generalize hD : s2.heap.objs.size = D at I3 w0 turn
  generalize h3 : ({ s2 with heap := s2.heap.push { cls := .type "dict", data := .dict #[] } } : Shared) = s3 at I3
  have e3 : s3.heap = s2.heap.push { cls := .type "dict", data := .dict #[] } := by rw [← h3]
  have small : ∀ b ∈ fp, b < D := fun b hb => by
    obtain ⟨o, e, _⟩ := T.obj _ _ at2 b hb
    rw [← hD]; exact Heap.lt_size e
  have fp3 : ∀ b ∈ fp, FpOk X pins (upd G0 D (DnO X.prog X.w D [])) b ∧ b < s3.heap.objs.size := fun b hb =>
    ⟨⟨by rw [upd_ne (Nat.ne_of_lt (small b hb))]; exact (fp2 b hb).1, (fp2 b hb).2⟩, by rw [e3, Heap.size_push, hD]; exact Nat.lt_succ_of_lt (small b hb)⟩
  have at3 : tn 0 s3.heap := T.keep _ _ _ at2 fun b _ o e => by rw [e3]; exact Heap.get?_push_of_some _ e
  have I4 := block_start I3 ok nd fp3
  generalize hG : upd G0 D (DnO X.prog X.w D []) = G3 at I3 I4 w0 fp3
  have p1 := ptg s3 G3 s3.heap.objs.size (cellsFrom (s3.heap.objs.size + 1) sc.names (cloFrom X.env.cells sc.names [])) fp
  have p2 := pif s3 G3 s3.heap.objs.size (cellsFrom (s3.heap.objs.size + 1) sc.names (cloFrom X.env.cells sc.names [])) fp
  have p3 := pk s3 G3 s3.heap.objs.size (cellsFrom (s3.heap.objs.size + 1) sc.names (cloFrom X.env.cells sc.names [])) fp
  have p4 := pv s3 G3 s3.heap.objs.size (cellsFrom (s3.heap.objs.size + 1) sc.names (cloFrom X.env.cells sc.names [])) fp
  have zero : ∀ b ∈ fp, G3 b = none := fun b hb => (fp3 b hb).1.1
  show codeAny _ _ (.compStart (.DictComp kx vx [⟨tg, iter, ifs, 0⟩] sc pos) 0 (.ref it) (.ref D) (compEnvC sc (cellsFrom (s3.heap.objs.size + 1) sc.names (cloFrom X.env.cells sc.names [])) s3.heap.objs.size X.env)) (compPost (model X.prog X.w) X.A X.xe use Qf (.ref D) s3.heap.objs.size) { s3 with heap := pushCells (s3.heap.push { cls := .type "dict", data := .dict #[] }) sc.names }
  generalize hY : compEnvC sc (cellsFrom (s3.heap.objs.size + 1) sc.names (cloFrom X.env.cells sc.names [])) s3.heap.objs.size X.env = ce at I4 p1 p2 p3 p4 ⊢
  have loc : ce.locals = s3.heap.objs.size := by rw [← hY]; rfl
  generalize h4 : ({ s3 with heap := pushCells (s3.heap.push { cls := .type "dict", data := .dict #[] }) sc.names } : Shared) = s4 at I4 ⊢
  have at4 : tn 0 s4.heap := T.keep _ _ _ at3 fun b _ o e => by rw [← h4]; exact pushCells_keeps _ _ _ _ (Heap.get?_push_of_some _ e)
  have fpY : ∀ {τ : L2.St} {G : Hp} {t : Shared}, Inv (X.blk s3 G3 sc ce fp) [] τ G t → (∀ b ∈ fp, G b = none) → ∀ b ∈ fp, FpOk (X.blk s3 G3 sc ce fp) [] G b := fun {τ G t} J0 z b hb =>
    ⟨z b hb, (J0.ok.exf b hb).1, J0.ok.exfs b hb, .inl hb, (J0.ok.exf b hb).2, fun p hp => by cases hp⟩
  have loop : codeAny (model X.prog X.w) X.A (.compLoop (.DictComp kx vx [⟨tg, iter, ifs, 0⟩] sc pos) 0 (.ref it) (.ref D) ce) (compPost (model X.prog X.w) X.A X.xe use Qf (.ref D) s3.heap.objs.size) s4 := by
    refine compLoop_anyD (fun n t => ∃ i G, Inv (X.blk s3 G3 sc ce fp) [] (wipe σ (own.map (·.2))) G t ∧ tn i t.heap ∧ (∀ b ∈ fp, G b = none) ∧ W i n G) ?_ m0 ⟨0, G3, I4, at4, zero, w0⟩
    rintro n s5 ⟨i, G5, I5, at5, z5, w5⟩
    rcases turn i n G5 w5 with ⟨stop, over⟩ | ⟨go, Nx, less, step⟩
    · refine thnF (T.done (X.blk s3 G3 sc ce fp) rfl rfl rfl calm i [] s5 _ G5 (fun _ _ => False) I5 (fpY I5 z5) at5 stop) fun _ s6 ⟨ended, I6⟩ => ?_
      subst ended
      have I7 : Inv X pins σ G5 s6 := I3.call' (ch := fp) I6.os I6.base I6.hok I6.bare fun b hb =>
        have w := (fp3 b hb).1.2
        ⟨w.2.2.1, w.1, w.2.2.2.1, w.2.2.2.2⟩
      have free := I6.free
      obtain ⟨m, names, _⟩ := I6.loc
      rw [show (X.blk s3 G3 sc ce fp).env.locals = s3.heap.objs.size from loc] at free names
      exact fin D _ s6 m G5 I7 over names (I3.fpOk (Nat.le_refl _) free)
    · refine thnF (T.item (X.blk s3 G3 sc ce fp) rfl rfl rfl calm i [] s5 _ G5 (fun _ _ => False) I5 (fpY I5 z5) at5 go) fun _ s6 ⟨u, came, w6⟩ => ?_
      subst came
      refine thnF w6 fun _ s7 ⟨x, G7, I7, rx, yl, at7, z7⟩ => ?_
      have I8 := I7.pinned (fpY I7 z7) (T.obj _ _ at7)
      refine thnF (p1.run _ s7 _ G7 x u _ I8 rx (step x G7 yl)) fun _ s8 ⟨σ8, G8, I9, same, q8⟩ => ?_
      refine thnF (p2.run _ s8 σ8 G8 _ I9 q8) fun b s9 ⟨G9, I10, q9⟩ => ?_
      have next : ∀ {t : Shared} {G : Hp}, Inv (X.blk s3 G3 sc ce fp) ([] ++ pinsAt fp s7.heap) σ8 G t → Nx G → ∃ m, m < n ∧ ∃ i G, Inv (X.blk s3 G3 sc ce fp) [] (wipe σ (own.map (·.2))) G t ∧ tn i t.heap ∧ (∀ b ∈ fp, G b = none) ∧ W i m G := fun {t G} Jt nx => by
        obtain ⟨m', lt, w'⟩ := less G nx
        have pin := fun (c : Addr) (hc : c ∈ fp) (o : Obj) (e : s7.heap.get? c = some o) => Jt.pin (c, o) (List.mem_append_right _ (List.mem_append_right _ (mem_pinsAt hc e)))
        have old : Inv (X.blk s3 G3 sc ce fp) [] (wipe σ (own.map (·.2))) G t := (Jt.unpinned (pins := [])).weak (by rw [← same, wipe_length]) fun j v e => by
          rw [← same] at e
          exact (wipe_some e).1
        refine ⟨m', lt, i + 1, G, old, T.keep _ _ _ at7 fun c hc o e => (pin c hc o e).1, fun c hc => ?_, w'⟩
        obtain ⟨o, e, _⟩ := T.obj _ _ at7 c hc
        exact (pin c hc o e).2.1
      dsimp only at q9
      by_cases hb : b = true
      · rw [if_pos hb] at q9 ⊢
        refine thnF (p3.run _ s9 σ8 G9 _ I10 q9) fun kv s10 ⟨y, G10, I11, ry, q10⟩ => ?_
        refine thnF (p4.run _ s10 σ8 G10 _ I11 q10) fun vv s11 ⟨z, G11, I12, rz, p⟩ => ?_
        exact putN_ok (X := X.blk s3 G3 sc ce fp) hu I12 p ry rz fun G t nx It => next It nx
      · rw [if_neg hb] at q9 ⊢
        exact next I10 q9
  exact codeAny_compStart_dict loop (T.self X.A 0 _ _ _ at4 loop)
/-- as a value -/
theorem pe_dcN (hu : X.A.units + 9 < cLine) (calm : X.calm = true) (nd : X.N.Nodup) (src : PI X tg iter wi) (ok : BlkOk X.N X.env.scope sc own) (ptg : InBlkN X sc fun Y => PG Y tg g) (pif : InBlkN X sc fun Y => PTs Y ifs tt)
    (pk : InBlkN X sc fun Y => PE Y kx tk) (pv : InBlkN X sc fun Y => PE Y vx tv) (fold : ∀ x, foldedSetIterable iter X.env x = pure x := by intro _; rfl) : PE X (.DictComp kx vx [⟨tg, iter, ifs, 0⟩] sc pos) (tDcN X.prog X.w wi g tt tk tv (own.map (·.2))) := by
  refine ⟨fun pins s σ H Q I h => ?_⟩
  rw [arm_eval_DictComp]
  refine dcN_core hu calm nd I src ok ptg pif pk pv fold h fun D C t m G It q names fr => ⟨m, names, fun h' same => ?_⟩
  obtain ⟨f0, f1, _, f3, f4, f5⟩ := fr
  exact ⟨.ref D, G, It.turned (t' := t.toks) (fun b o hb e => (same.2 b hb).trans e) f0 f1 f3 f4 f5, rfl, q⟩
/-- given to a name of the def's own -/
theorem ps_setDcN {i : Nat} {y : Str} {py spos : Pos} (hu : X.A.units + 9 < cLine) (calm : X.calm = true) (nd : X.N.Nodup) (hy : X.N[i]? = some y) (hyl : X.env.scope.names.lookup y = some .local)
    (hsw : swapsWith (.DictComp kx vx [⟨tg, iter, ifs, 0⟩] sc pos) (some (.Name y py)) spos.line X.env = pure true) (src : PI X tg iter wi) (ok : BlkOk X.N X.env.scope sc own) (ptg : InBlkN X sc fun Y => PG Y tg g) (pif : InBlkN X sc fun Y => PTs Y ifs tt)
    (pk : InBlkN X sc fun Y => PE Y kx tk) (pv : InBlkN X sc fun Y => PE Y vx tv) (fold : ∀ x, foldedSetIterable iter X.env x = pure x := by intro _; rfl) :
    PS X (.Assign [.Name y py] (.DictComp kx vx [⟨tg, iter, ifs, 0⟩] sc pos) spos) (tAsg (tDcN X.prog X.w wi g tt tk tv (own.map (·.2))) (gName i)) := by
  refine ⟨fun pins s σ H D I h => ?_⟩
  rw [exec_Assign_Name_used _ _ _ _ hsw]
  refine wpAny_bind (wpAny_standAt (wpAny_bind ?_))
  show wpAny _ X.A (do let _ ← comprehension (.DictComp kx vx [⟨tg, iter, ifs, 0⟩] sc pos) sc X.env (firstIterPos [⟨tg, iter, ifs, 0⟩] pos) newDict false (eval iter X.env) (some (assign (.Name y py) X.env))) _ _ s
  have h' : tDcN X.prog X.w wi g tt tk tv (own.map (·.2)) σ H (fun x G => gName i x σ G D.nx) := h
  refine wpAny_bind (thn (dcN_core (Qf := fun _ t => SP X pins D .next t) hu calm nd I src ok ptg pif pk pv fold h' fun L C t m G It q names fr => ?_) fun _ t hq => wpAny_pure (wpAny_pure hq))
  show wpAny _ _ (assign (.Name y py) X.env (.ref L)) _ _ _
  refine wpAny_assign_Name (store_ok2 (v := V.ref L) It nd hy (.inl hyl) rfl (fun s2 I2 ⟨a, sb, ha⟩ => ?_) (.inr hyl))
  obtain ⟨f0, f1, _, f3, f4, f5⟩ := fr
  have apart : C ≠ a := ha.elim (fun z => z ▸ f1) fun z e => f4 y a z e.symm
  exact ⟨m, names.sameBut sb apart, fun h3 same => ⟨_, G, I2.turned (t' := s2.toks) (fun b o hb e => (same.2 b hb).trans e) f0 f1 f3 f4 f5, q⟩⟩
end
/-! ### the keys of a locked dict -/
def Itkn (P : Program) (w : World) (d : Addr) (o : Obj) (xs : List NX) : It :=
  ⟨fun i H => H d = some (.frz o (DnO P w d xs)) ∧ i < xs.length, fun i H x H' => H' = H ∧ ∃ (k : NestedKey) (b : Addr) (v : Value), xs[i]? = some (k, b, v) ∧ x = .ref b, fun i H => H d = some (.frz o (DnO P w d xs)) ∧ xs.length ≤ i⟩
def iKeysN (P : Program) (w : World) (td : TE) : TI := fun σ H R => td σ H fun x H1 => ∃ d o xs, x = .ref d ∧ H1 d = some (.frz o (DnO P w d xs)) ∧ R (Itkn P w d o xs) H1
section
variable {P : Program} {w : World} {K : PySem.W.Frag} {tg : Expr} {d : Addr} {o : Obj} {es : Array DictEntry} {ep : Nat}
theorem frzN {H : Hp} {h : Heap} {xs : List NX} (ok : HOk P w H h) (e : H d = some (.frz o (DnO P w d xs))) : (d == sysModules) = false ∧ h.get? d = some o ∧ o.ExactDict ∧ ∃ (es : Array DictEntry) (ep : Nat), o.data = .dict es ep ∧ es.size = xs.length ∧
    ∀ (i : Nat) (x : NX), xs[i]? = some x → ∃ en, es[i]? = some en ∧ en.key = .ref x.2.1 := by
  obtain ⟨hg, ⟨z1, z2, o', es, ep, h1, h2, h3, h4, h5⟩, _⟩ := ok d _ e
  rw [hg] at h1
  cases h1
  refine ⟨z1, hg, h2, es, ep, h3, size_of_entries h4, fun i x hx => ?_⟩
  have q := entry_at h4 i
  rw [hx] at q
  exact ⟨_, q, rfl⟩
theorem turn_keysN {xs : List NX} (it : Addr) (hod : o.data = .dict es ep) : Turn P w K tg (Itkn P w d o xs) [it] it (fun i h => h.IsKeyIter it d i xs.length ep) where
  mem := List.mem_singleton.mpr rfl
  obj := fun i h st b hb => by
    cases List.mem_singleton.mp hb
    obtain ⟨oi, e, c, dd⟩ := st
    exact ⟨oi, e, fun v z => by rw [dd] at z; cases z⟩
  keep := fun i h h' st k => st.at fun oi e => k it (List.mem_singleton.mpr rfl) oi e
  item := by
    rintro X rfl rfl rfl hc i pins s σ H E I hf st ⟨hd, hi⟩
    obtain ⟨f0, f1, f2, f3, f4, f5⟩ := hf it (List.mem_singleton.mpr rfl)
    obtain ⟨hs, hgd, hx, es', ep', hdt, hsz, ent⟩ := frzN I.hok hd
    obtain ⟨rfl, rfl⟩ := dict_ep hod hdt
    obtain ⟨⟨k, b, v⟩, hkv⟩ : ∃ p, xs[i]? = some p := ⟨xs[i], List.getElem?_eq_getElem hi⟩
    obtain ⟨en, hen, hkey⟩ := ent i _ hkv
    refine next_key_item st hgd hdt hsz hen fun h' st' sb => ?_
    have I1 : Inv X pins σ H { s with heap := h' } := I.turned (t' := s.toks) (fun c ob hc e => (sb.2 c hc).trans e) f0 f1 f3 f4 f5
    obtain ⟨oi, e, c, dd⟩ := id st'
    exact ⟨en.key, rfl, go_of (s := { s with heap := h' }) e c dd (by decide) ⟨.ref b, H, I1, hkey, ⟨rfl, k, b, v, hkv, rfl⟩, st', fun c hc => (hf c hc).1⟩⟩
  done := by
    rintro X rfl rfl rfl hc i pins s σ H E I hf st ⟨hd, hi⟩
    obtain ⟨f0, f1, f2, f3, f4, f5⟩ := hf it (List.mem_singleton.mpr rfl)
    obtain ⟨hs, hgd, hx, es', ep', hdt, hsz, ent⟩ := frzN I.hok hd
    obtain ⟨rfl, rfl⟩ := dict_ep hod hdt
    exact next_key_end (I.ok.hd hc) st hgd hdt hsz hi fun h' eb => ⟨rfl, I.turned (t' := s.toks) (fun c ob hc e => eb c ob hc e) f0 f1 f3 f4 f5⟩
  self := fun A i s Q E st h => by
    refine wpAny_pyIter_slot st.typeIs F.slot_dict_keyiterator_iter (wpAny_call_entry F.slot_dict_keyiterator_iter st.typeIs F.entry_dict_keyiterator_iter ?_ (F.args_dict_keyiterator_iter_1 _))
    show wpAny _ _ (ret (.ref it)) _ _ s
    exact wpAny_pure ⟨_, rfl, "dict_keyiterator", _, st.typeIs, F.slot_dict_keyiterator_next.lookup, h⟩
theorem pi_keysN {X : Cx} {e : Expr} {td : TE} (he : PE X e td) : PI X tg e (iKeysN X.prog X.w td) := by
  refine ⟨fun pins s σ H R I h => ?_⟩
  refine thn (he.run pins s σ H _ I h) fun u s1 ⟨x, H1, I1, rx, d, o, xs, ex, hd, q⟩ => ?_
  subst ex
  cases (show u = Value.ref d from rx)
  obtain ⟨hs, hgd, hx, es, ep, hdt, hsz, ent⟩ := frzN I1.hok hd
  refine iter_keys hs hgd hx hdt (pi_one (tk := s1.toks) I1 _ (turn_keysN _ hdt) ⟨_, Heap.get?_push_size _ rfl, rfl, ?_⟩ q)
  rw [hsz]
  rfl
end
/-! ### sets -/
section
variable {P : Program} {w : World} {A : Around} {E : Value → Shared → Prop} {s : Shared} {a : Addr} {L : List NP} {es : Array (Int × Value)} {ep : Nat} {t : SetTable} {x : Addr} {k : NestedKey}
theorem NsR.type_ (R : NsR w s.heap a L es ep t) : s.TypeIs (.ref a) "set" ∧ ∀ b, Value.ref a = .ref b → ∃ ob, s.heap.get? b = some ob ∧ ob.dict = none := by
  obtain ⟨o, ho, hex, _⟩ := R.ob
  exact ⟨⟨o, ho, hex.1⟩, fun b z => by cases z; exact ⟨o, ho, hex.2.1⟩⟩
/-- x in the set -/
theorem ns_has (R : NsR w s.heap a L es ep t) (f : FK s.heap k x) (hu : A.units + 16 < cLine) {Q : Bool → Shared → Prop} (q : ∀ tk, Q (decide (k ∈ L.map (·.2))) { s with toks := tk }) : wpAny (model P w) A (contains (.ref a) (.ref x)) Q E s := by
  unfold contains
  try with_reducible refine wpAny_holding ?_
  refine wpAny_bind (wpAny_specialOf R.type_.1 F.slot_set_contains.lookup ?_)
  refine wp_if_neg (by rw [beq_builtin_none]; exact Bool.false_ne_true) ?_
  refine wpAny_bind (wpAny_callSpecialUnlessNone?_slot (name := Str.ofString "__contains__") R.type_.1 F.slot_set_contains
    (wpAny_call_entry F.slot_set_contains R.type_.1 entry_set_contains ?_ (F.args_set_contains_2 _ _)))
  unfold Builtin.«frozenset.__contains__» Builtin.Frozenset.oneOther
  simp only [List.isEmpty_nil, bind_assoc]
  unfold Builtin.Frozenset.addrOf Builtin.Frozenset.withSetAsKey setContains
  refine wpAny_bind (wpAny_pure ?_)
  try dsimp only
  refine wpAny_bind (wpAny_pure ?_)
  try dsimp only
  refine wpAny_bind (wpAny_tryCatch ?_)
  refine wpAny_holding ?_
  refine wpAny_bind ((nestedKind P w).pyHash (by show _ + 8 < cLine; simp only [Around.in1_units]; omega) f.nk ?_)
  refine wpAny_bind (ns_find (s := { s with toks := s.toks + k.draws }) R f (by simp only [Around.in1_units]; omega) fun r hr => ?_)
  refine wpAny_pure ?_
  show wpAny _ _ (ret (Value.bool r.isSome)) _ _ _
  rw [hr]
  exact wpAny_pure ⟨_, rfl, wpAny_truthy_bool (q _)⟩
/-- found.add(x) -/
theorem ns_callAdd (R : NsR w s.heap a L es ep t) (f : FK s.heap k x) (hu : A.units + 16 < cLine) (few : L.length + 1 < 64) {Q : Value → Shared → Prop}
    (q : ∀ h' tk L', Heap.SameBut a s.heap h' → Sn0 w h' a L' → (∀ p ∈ L', p = (x, k) ∨ p ∈ L) → (L'.map (·.2)).Perm (addN (L.map (·.2)) k) → Q .none { s with heap := h', toks := tk }) :
    wpAny (model P w) A (call (.builtin "set.add") [.ref a, .ref x]) Q E s := by
  refine wpAny_call_entry F.slot_set_add R.type_.1 F.entry_set_add ?_ (F.args_set_add_2 _ _)
  unfold Builtin.«set.add» Builtin.Frozenset.oneOther
  simp only [List.isEmpty_nil, bind_assoc]
  unfold Builtin.Frozenset.addrOf
  refine wpAny_bind (wpAny_pure ?_)
  try dsimp only
  refine wpAny_bind (wpAny_pure ?_)
  try dsimp only
  refine wpAny_bind ?_
  refine ns_put R f (by simp only [Around.in1_units]; omega) few fun b h' L' es' ep' t' sb R' c1 c2 => ?_
  show wpAny _ _ (ret Value.none) _ _ _
  exact wpAny_pure ⟨_, rfl, q h' _ L' sb R'.s0 c1 c2⟩
end
def rSetN (K : PySem.W.Frag) (w : World) : List V → Hp → VK → Prop := fun vs H Q => ∃ (l : Addr) (ks : List NP), vs = [V.ref l] ∧ SqT K H l (ks.map fun p => V.ref p.1) ∧ (∀ p ∈ ks, KeyH H p.2 p.1) ∧ (setN (ks.map (·.2))).length < 63 ∧
  ∀ a L, H a = none → (∀ p ∈ L, p ∈ ks) → (L.map (·.2)).Perm (setN (ks.map (·.2))) → Q (.ref a) (upd H a (SnO w a L))
def rSetN0 (w : World) : List V → Hp → VK → Prop := fun vs H Q => vs = [] ∧ ∀ a, H a = none → Q (.ref a) (upd H a (SnO w a []))
def rInN (w : World) (n : Bool) : V → V → Hp → VK → Prop := fun x y H Q => ∃ (k : NestedKey) (b a : Addr) (L : List NP), x = .ref b ∧ y = .ref a ∧ KeyH H k b ∧ Rd H a (SnO w a L) ∧ (∀ p ∈ L, KeyH H p.2 p.1) ∧ Q (.bl (n ^^ decide (k ∈ L.map (·.2)))) H
def rAddN (w : World) : V → List V → Hp → VK → Prop := fun x vs H Q => ∃ (k : NestedKey) (b a : Addr) (L : List NP), x = .ref a ∧ vs = [.ref b] ∧ KeyH H k b ∧ H a = some (SnO w a L) ∧ (∀ p ∈ L, KeyH H p.2 p.1) ∧ L.length + 1 < 64 ∧
  ∀ L', (∀ p ∈ L', p = (b, k) ∨ p ∈ L) → (L'.map (·.2)).Perm (addN (L.map (·.2)) k) → Q .non (upd H a (SnO w a L'))
def rLenN (w : World) : List V → Hp → VK → Prop := fun vs H Q => ∃ (a : Addr) (L : List NP), vs = [.ref a] ∧ Rd H a (SnO w a L) ∧ (∀ p ∈ L, KeyH H p.2 p.1) ∧ Q (.int L.length) H
section
variable {X : Cx}
theorem refs_vals : ∀ {ks : List NP} {us : List Value}, Vals (ks.map fun p => V.ref p.1) us → us = ks.map fun p => Value.ref p.1
  | [], _, r => by cases r; rfl
  | p :: ks, _, r => by
    cases r with
    | cons r1 r2 =>
      cases r1
      rw [refs_vals r2]
      rfl
theorem cr_setN (hc : X.calm = true) (hu : X.A.units + 16 < cLine) : CallR X (.type "set") (rSetN X.K X.w) := by
  intro pins s σ H vs us Q I r h
  obtain ⟨l, ks, rfl, hl, hk, few, q⟩ := h
  rw [Vals.ref1 r]
  obtain ⟨its, rv, ⟨o, ho, hcl, n, hd⟩, _⟩ := I.tuple hl
  refine ns_of_tuple (P := X.prog) (w := X.w) (items := its.toArray) ks (I.ok.hd hc) ⟨o, ho, hcl, n, hd⟩ (by simpa using refs_vals rv) (fun p m => (hk p m).fk I.hok) few hu fun h' tk u old => ?_
  obtain ⟨L, es, ep, t, R, sub, pm⟩ := u
  exact ⟨.ref s.heap.objs.size, _, I.laid (t' := tk) old (Nat.le_refl _) (sn_ok R.s0), rfl, q _ L (I.hok.fresh (Nat.le_refl _)) sub (by rwa [← List.length_map (f := (·.2)), List.take_length] at pm)⟩
theorem cr_setN0 : CallR X (.type "set") (rSetN0 X.w) := by
  intro pins s σ H vs us Q I r h
  obtain ⟨rfl, q⟩ := h
  cases r
  refine setR_new fun _ => ?_
  have R : NsR X.w (s.heap.push { cls := .type "set", dict := none, data := .set #[] 0 (.fresh 0 0 (!X.w.params.followText "set-order")) }) s.heap.objs.size [] #[] 0 (.fresh 0 0 (!X.w.params.followText "set-order")) := ns_empty (Heap.get?_push_size _ rfl)
  exact ⟨.ref _, _, I.laid (t' := s.toks) (fun b u e => Heap.get?_push_of_some _ e) (Nat.le_refl _) (sn_ok R.s0), rfl, q _ (I.hok.fresh (Nat.le_refl _))⟩
theorem or_inN (hu : X.A.units + 16 < cLine) : OpR X (compareOp .In) (rInN X.w false) := by
  intro pins s σ H x y v u Q I rx ry h
  obtain ⟨k, b, a, L, rfl, rfl, hk, rd, ks, q⟩ := h
  cases rx
  cases ry
  obtain ⟨es, ep, t, R⟩ := sn_rd I.hok rd ks
  show wpAny (model X.prog X.w) X.A (do return Value.bool (← contains (.ref a) (.ref b))) _ _ s
  refine wpAny_bind (ns_has R (hk.fk I.hok) hu fun tk => wpAny_pure ?_)
  rw [Bool.false_xor] at q
  exact ⟨.bl (decide (k ∈ L.map fun p : NP => p.2)), H, I.tok _, rfl, q⟩
theorem or_notinN (hu : X.A.units + 16 < cLine) : OpR X (compareOp .NotIn) (rInN X.w true) := by
  intro pins s σ H x y v u Q I rx ry h
  obtain ⟨k, b, a, L, rfl, rfl, hk, rd, ks, q⟩ := h
  cases rx
  cases ry
  obtain ⟨es, ep, t, R⟩ := sn_rd I.hok rd ks
  show wpAny (model X.prog X.w) X.A (do return Value.bool (!(← contains (.ref a) (.ref b)))) _ _ s
  refine wpAny_bind (ns_has R (hk.fk I.hok) hu fun tk => wpAny_pure ?_)
  rw [Bool.true_xor] at q
  exact ⟨.bl (!decide (k ∈ L.map fun p : NP => p.2)), H, I.tok _, rfl, q⟩
theorem mt_addN (hu : X.A.units + 16 < cLine) : MtR X "set.add" (rAddN X.w) := by
  intro pins s σ H x xs v us Q I rx rxs h
  obtain ⟨k, b, a, L, rfl, rfl, hk, ha, ks, few, q⟩ := h
  cases rx
  rw [Vals.ref1 rxs]
  obtain ⟨es, ep, t, R⟩ := sn_rd I.hok (.inl ha) ks
  refine ns_callAdd R (hk.fk I.hok) hu few fun h' tk L' sb R' c1 c2 => ?_
  have R2 := R'
  obtain ⟨es', ep', t', ⟨o', ho', _⟩, _⟩ := R2
  exact ⟨.non, _, I.write (e := a) (t' := tk) (by rw [ha]; trivial) (.inl rfl) (fun c u hc hu' => (sb.2 c hc).trans hu') ⟨o', ho'⟩ (sn_ok R'), rfl, q L' c1 c2⟩
theorem cr_lenN : CallR X (.builtin "len") (rLenN X.w) := by
  intro pins s σ H vs us Q I r h
  obtain ⟨a, L, rfl, rd, ks, q⟩ := h
  rw [Vals.ref1 r]
  obtain ⟨es, ep, t, R⟩ := sn_rd I.hok rd ks
  obtain ⟨o, ho, hex, hd⟩ := R.ob
  have hl := rows_size R.rows
  have few := R.few
  exact call_len_set ho hex hd R.fits (by rw [hl]; omega) ⟨.int L.length, H, I.tok _, ⟨_, by rw [hl]⟩, q⟩
end
end Cs

set_option maxRecDepth 100000
set_option maxHeartbeats 4000000
/-! The plain layer: a def's text read as a plain program over data. -/
namespace Cs
open PySem PySem.Spec PyProof.Rows L2
/-! ### data that stays: lists in it are frozen -/
mutual
def lst0 : PyData → Bool
  | .none => true
  | .bool _ => true
  | .int _ => true
  | .str _ => true
  | .list _ => false
  | .tuple xs => lst0All xs
  | .dict _ => false
def lst0All : List PyData → Bool
  | [] => true
  | x :: xs => lst0 x && lst0All xs
end
def lf (_ : PyData) : Bool := true
def lfAll (_ : List PyData) : Bool := true
theorem lfAll_get : ∀ {ds : List PyData} {i : Nat} {d : PyData}, lfAll ds = true → ds[i]? = some d → lf d = true := fun _ _ => rfl
theorem lfAll_app {xs ys : List PyData} (_ : lfAll xs = true) (_ : lfAll ys = true) : lfAll (xs ++ ys) = true := rfl
theorem lfAll_iff {ds : List PyData} : lfAll ds = true ↔ ∀ d ∈ ds, lf d = true := ⟨fun _ _ _ => rfl, fun _ => rfl⟩
end Cs
namespace L2
open PySem PySem.Spec PyProof.Rows Cs
section
variable {K : PySem.W.Frag} {H H' : Hp}
/-- a list that nothing changes any more -/
def SqF (_ : PySem.W.Frag) (H : Hp) (a : Addr) (xs : List V) : Prop := ∃ o, H a = some (.frz o (.lst xs))
theorem SqF.sq {a : Addr} {xs : List V} (h : SqF K H a xs) : SqL K H a xs := .inl (.inr h)
theorem SqF.im {a : Addr} {xs : List V} (h : SqF K H a xs) (e : Im H H') : SqF K H' a xs := let ⟨o, h⟩ := h; ⟨o, e.frz _ _ _ h⟩
mutual
inductive Vl (K : PySem.W.Frag) (H : Hp) : V → PyData → Prop
  | non : Vl K H .non .none
  | bl (b : Bool) : Vl K H (.bl b) (.bool b)
  | int (i : Int) : Vl K H (.int i) (.int i)
  | str (x : Str) : Vl K H (.str x) (.str x)
  | lst {a : Addr} {xs : List V} {ds : List PyData} : SqF K H a xs → VlAll K H xs ds → Vl K H (.ref a) (.list ds)
  | tup {a : Addr} {xs : List V} {ds : List PyData} : H a = some (.tup xs) → VlAll K H xs ds → Vl K H (.ref a) (.tuple ds)
inductive VlAll (K : PySem.W.Frag) (H : Hp) : List V → List PyData → Prop
  | nil : VlAll K H [] []
  | cons {v : V} {vs : List V} {d : PyData} {ds : List PyData} : Vl K H v d → VlAll K H vs ds → VlAll K H (v :: vs) (d :: ds)
end
mutual
theorem Vl.dp : ∀ (d : PyData) (v : V), Vl K H v d → Dp K H v d
  | .none, _, h => by cases h; exact .non
  | .bool _, _, h => by cases h; exact .bl _
  | .int _, _, h => by cases h; exact .int _
  | .str _, _, h => by cases h; exact .str _
  | .list ds, _, h => by
    cases h with
    | lst hs ha => exact .lst hs.sq (VlAll.dp ds _ ha)
  | .dict _, _, h => by cases h
  | .tuple ds, _, h => by
    cases h with
    | tup hs ha => exact .tup (SqT.of hs) (VlAll.dp ds _ ha)
theorem VlAll.dp : ∀ (ds : List PyData) (vs : List V), VlAll K H vs ds → DpAll K H vs ds
  | [], _, h => by cases h; exact .nil
  | d :: ds, _, h => by
    cases h with
    | cons h1 h2 => exact .cons (Vl.dp d _ h1) (VlAll.dp ds _ h2)
end
mutual
theorem Vl.imlf (e : Im H H') : ∀ (d : PyData) (v : V), Vl K H v d → lf d = true → Vl K H' v d
  | .none, _, h, _ => by cases h; exact .non
  | .bool _, _, h, _ => by cases h; exact .bl _
  | .int _, _, h, _ => by cases h; exact .int _
  | .str _, _, h, _ => by cases h; exact .str _
  | .list ds, _, h, _ => by
    cases h with
    | lst hs ha => exact .lst (hs.im e) (VlAll.imlf e ds _ ha rfl)
  | .dict _, _, h, _ => by cases h
  | .tuple ds, _, h, f => by
    cases h with
    | tup hs ha => exact .tup (e.tup _ _ hs) (VlAll.imlf e ds _ ha rfl)
theorem VlAll.imlf (e : Im H H') : ∀ (ds : List PyData) (vs : List V), VlAll K H vs ds → lfAll ds = true → VlAll K H' vs ds
  | [], _, h, _ => by cases h; exact .nil
  | d :: ds, _, h, f => by
    cases h with
    | cons h1 h2 => exact .cons (Vl.imlf e d _ h1 rfl) (VlAll.imlf e ds _ h2 rfl)
end
theorem DpAll.len : ∀ {ds : List PyData} {vs : List V}, DpAll K H vs ds → vs.length = ds.length
  | [], _, h => by cases h; rfl
  | d :: ds, _, h => by
    cases h with
    | cons h1 h2 => simp only [List.length_cons, DpAll.len h2]
theorem VlAll.len : ∀ {ds : List PyData} {vs : List V}, VlAll K H vs ds → vs.length = ds.length
  | [], _, h => by cases h; rfl
  | d :: ds, _, h => by
    cases h with
    | cons h1 h2 => simp only [List.length_cons, VlAll.len h2]
theorem VlAll.get : ∀ {ds : List PyData} {vs : List V} {i : Nat} {d : PyData}, VlAll K H vs ds → ds[i]? = some d → ∃ v, vs[i]? = some v ∧ Vl K H v d
  | [], _, _, _, _, e => by simp at e
  | d :: ds, _, 0, _, h, e => by
    cases h with
    | cons h1 h2 => simp at e; subst e; exact ⟨_, rfl, h1⟩
  | d :: ds, _, i + 1, _, h, e => by
    cases h with
    | cons h1 h2 =>
      obtain ⟨v, h3, h4⟩ := VlAll.get (i := i) h2 (by simpa using e)
      exact ⟨v, by simpa using h3, h4⟩
theorem VlAll.getV : ∀ {ds : List PyData} {vs : List V} {i : Nat} {v : V}, VlAll K H vs ds → vs[i]? = some v → ∃ d, ds[i]? = some d ∧ Vl K H v d
  | [], _, _, _, h, e => by cases h; simp at e
  | d :: ds, _, 0, _, h, e => by
    cases h with
    | cons h1 h2 => simp at e; subst e; exact ⟨_, rfl, h1⟩
  | d :: ds, _, i + 1, _, h, e => by
    cases h with
    | cons h1 h2 =>
      obtain ⟨v, h3, h4⟩ := VlAll.getV (i := i) h2 (by simpa using e)
      exact ⟨v, by simpa using h3, h4⟩
theorem VlAll.app : ∀ {ds es : List PyData} {vs us : List V}, VlAll K H vs ds → VlAll K H us es → VlAll K H (vs ++ us) (ds ++ es)
  | [], _, _, _, h, q => by cases h; exact q
  | d :: ds, _, _, _, h, q => by
    cases h with
    | cons h1 h2 => exact .cons h1 (VlAll.app h2 q)
theorem VlAll.take : ∀ {ds : List PyData} {vs : List V} (n : Nat), VlAll K H vs ds → VlAll K H (vs.take n) (ds.take n)
  | _, _, 0, _ => .nil
  | [], _, n + 1, h => by cases h; exact .nil
  | d :: ds, _, n + 1, h => by
    cases h with
    | cons h1 h2 => exact .cons h1 (VlAll.take n h2)
theorem VlAll.drop : ∀ {ds : List PyData} {vs : List V} (n : Nat), VlAll K H vs ds → VlAll K H (vs.drop n) (ds.drop n)
  | _, _, 0, h => h
  | [], _, n + 1, h => by cases h; exact .nil
  | d :: ds, _, n + 1, h => by
    cases h with
    | cons h1 h2 => exact VlAll.drop n h2
theorem VlAll.set : ∀ {ds : List PyData} {vs : List V} (n : Nat) {v : V} {d : PyData}, VlAll K H vs ds → Vl K H v d → VlAll K H (vs.set n v) (ds.set n d)
  | [], _, _, _, _, h, _ => by cases h; exact .nil
  | d :: ds, _, 0, _, _, h, q => by
    cases h with
    | cons h1 h2 => exact .cons q h2
  | d :: ds, _, n + 1, _, _, h, q => by
    cases h with
    | cons h1 h2 => exact .cons h1 (VlAll.set n h2 q)
theorem lfAll_take {ds : List PyData} (n : Nat) (h : lfAll ds = true) : lfAll (ds.take n) = true := lfAll_iff.mpr fun d m => lfAll_iff.mp h d (List.mem_of_mem_take m)
theorem lfAll_drop {ds : List PyData} (n : Nat) (h : lfAll ds = true) : lfAll (ds.drop n) = true := lfAll_iff.mpr fun d m => lfAll_iff.mp h d (List.mem_of_mem_drop m)
theorem lfAll_set {ds : List PyData} (n : Nat) {d : PyData} (h : lfAll ds = true) (f : lf d = true) : lfAll (ds.set n d) = true := lfAll_iff.mpr fun e m => by
  rcases List.mem_or_eq_of_mem_set m with m | m
  · exact lfAll_iff.mp h e m
  · rw [m]; exact f
theorem VlAll.ofInts : ∀ (ns : List Int), VlAll K H (ns.map V.int) (ns.map PyData.int)
  | [] => .nil
  | n :: ns => .cons (.int n) (VlAll.ofInts ns)
/-- what a dict holds, key by key -/
def KvR {κ : Type} (K : PySem.W.Frag) (H : Hp) (vs : List (κ × V)) (ds : List (κ × PyData)) : Prop := vs.map Prod.fst = ds.map Prod.fst ∧ VlAll K H (vs.map Prod.snd) (ds.map Prod.snd)
theorem KvR.imlf {κ : Type} (e : Im H H') (ds : List (κ × PyData)) (vs : List (κ × V)) (h : KvR K H vs ds) (_ : True) : KvR K H' vs ds := ⟨h.1, h.2.imlf e _ _ rfl⟩
end
end L2
namespace Cs
open PySem PySem.Spec PyProof.Rows L2
/-! ### plain programs -/
inductive M (α : Type) where
  | ret (a : α)
  | fail
  | draw (m : Int) (k : Int → M α)
  | any (p : PyData → Prop) (k : PyData → M α)
def M.bind {α β : Type} : M α → (α → M β) → M β
  | .ret a, f => f a
  | .fail, _ => .fail
  | .draw m k, f => .draw m fun v => (k v).bind f
  | .any p k, f => .any p fun v => (k v).bind f
def wp0 {α : Type} : M α → (α → Prop) → Prop
  | .ret a, Q => Q a
  | .fail, _ => False
  | .draw m k, Q => ∀ v, 0 ≤ v → v < max m 1 → wp0 (k v) Q
  | .any p k, Q => ∀ d, p d → wp0 (k d) Q
@[simp] theorem M.ret_bind {α β : Type} (a : α) (f : α → M β) : (M.ret a).bind f = f a := rfl
@[simp] theorem M.fail_bind {α β : Type} (f : α → M β) : (M.fail : M α).bind f = .fail := rfl
@[simp] theorem M.draw_bind {α β : Type} (m : Int) (k : Int → M α) (f : α → M β) : (M.draw m k).bind f = .draw m fun v => (k v).bind f := rfl
@[simp] theorem M.any_bind {α β : Type} (p : PyData → Prop) (k : PyData → M α) (f : α → M β) : (M.any p k).bind f = .any p fun v => (k v).bind f := rfl
@[simp] theorem wp0_ret {α : Type} (a : α) (Q : α → Prop) : wp0 (.ret a) Q = Q a := rfl
theorem wp0_mono {α : Type} {Q Q' : α → Prop} (h : ∀ a, Q a → Q' a) : ∀ {m : M α}, wp0 m Q → wp0 m Q'
  | .ret a, q => h a q
  | .fail, q => q
  | .draw m k, q => fun v h0 h1 => wp0_mono h (q v h0 h1)
  | .any p k, q => fun d h0 => wp0_mono h (q d h0)
theorem wp0_bind {α β : Type} {f : α → M β} {Q : β → Prop} : ∀ {m : M α}, wp0 (m.bind f) Q ↔ wp0 m fun a => wp0 (f a) Q
  | .ret a => Iff.rfl
  | .fail => Iff.rfl
  | .draw m k => ⟨fun q v h0 h1 => wp0_bind.mp (q v h0 h1), fun q v h0 h1 => wp0_bind.mpr (q v h0 h1)⟩
  | .any p k => ⟨fun q d h0 => wp0_bind.mp (q d h0), fun q d h0 => wp0_bind.mpr (q d h0)⟩
theorem M.bind_assoc {α β γ : Type} (f : α → M β) (g : β → M γ) : ∀ m : M α, (m.bind f).bind g = m.bind fun a => (f a).bind g
  | .ret a => rfl
  | .fail => rfl
  | .draw m k => by simp only [draw_bind, M.bind_assoc f g]
  | .any p k => by simp only [any_bind, M.bind_assoc f g]
/-- what the plain layer's readers know of the machine -/
class WP (K : PySem.W.Frag) where
  P : Program
  w : World
/-- dicts and sets whose keys are tuples of None, ints and texts -/
inductive XO where
  | dN (kvs : List (NestedKey × PyData))
  | lN (kvs : List (NestedKey × PyData))
  | sN (ks : List NestedKey)
/-- an object that may change -/
inductive PO where
  | lst (ds : List PyData)
  | dT (kvs : List (List Key × PyData))
  | dK (kvs : List (Key × PyData))
  | lT (kvs : List (List Key × PyData))
  | xo (x : XO)
/-- what a slot holds: data, an object of this def's own, one that is lent, the tape -/
inductive C where
  | val (d : PyData)
  | own (o : PO)
  | bor (o : PO)
  | tape
abbrev Ro := List (Option C)
section
variable (tp : Option (Addr × Addr)) (K : PySem.W.Frag) [WP K]
def GrT (H H' : Hp) : Prop := ∀ b o, H b = some o → tp.map (·.1) ≠ some b → H' b = some o
/-- not the tape's -/
def TNe (a : Addr) : Prop := ∀ t l, tp = some (t, l) → a ≠ t ∧ a ≠ l
def TOk (H : Hp) : Prop := ∀ t l, tp = some (t, l) → TapeAt H t l
def BorL (H : Hp) (b : Addr) (u : HO) : Prop := Rd H b u ∧ tp.map (·.1) ≠ some b
def BorF (H : Hp) (b : Addr) (u : HO) : Prop := (∃ o, H b = some (.frz o u)) ∧ tp.map (·.1) ≠ some b
def XD (H : Hp) (rd : HO → Prop) (a : Addr) (ds : List (NestedKey × PyData)) : Prop := ∃ xs vs, rd (DnO (WP.P K) (WP.w K) a xs) ∧ KN H vs xs ∧ KvR K H vs ds
def XS (H : Hp) (rd : HO → Prop) (a : Addr) (ks : List NestedKey) : Prop := ∃ L : List NP, rd (SnO (WP.w K) a L) ∧ (∀ p ∈ L, KeyH H p.2 p.1) ∧ (L.map fun p => p.2).Perm ks
def OwnX (H : Hp) (a : Addr) : XO → Prop
  | .dN ds => XD K H (fun u => H a = some u) a ds
  | .sN ks => XS K H (fun u => H a = some u) a ks
  | .lN _ => False
def BorX (H : Hp) (a : Addr) : XO → Prop
  | .dN ds => XD K H (BorL tp H a) a ds
  | .sN ks => XS K H (BorL tp H a) a ks
  | .lN ds => XD K H (BorF tp H a) a ds
def OwnO (H : Hp) (a : Addr) : PO → Prop
  | .lst ds => ∃ vs, H a = some (.lst vs) ∧ VlAll K H vs ds ∧ lfAll ds = true
  | .dT ds => ∃ vs, H a = some (.dT vs) ∧ KvR K H vs ds ∧ True
  | .dK ds => ∃ vs, H a = some (.dK vs) ∧ KvR K H vs ds ∧ True
  | .lT _ => False
  | .xo x => OwnX K H a x
def BorO (H : Hp) (a : Addr) : PO → Prop
  | .lst ds => ∃ vs, BorL tp H a (.lst vs) ∧ VlAll K H vs ds ∧ lfAll ds = true
  | .dT ds => ∃ vs, BorL tp H a (.dT vs) ∧ KvR K H vs ds ∧ True
  | .dK ds => ∃ vs, BorL tp H a (.dK vs) ∧ KvR K H vs ds ∧ True
  | .lT ds => ∃ vs, BorF tp H a (.dT vs) ∧ KvR K H vs ds ∧ True
  | .xo x => BorX tp K H a x
def RC (H0 H : Hp) (v : V) : C → Prop
  | .val d => Vl K H v d ∧ lf d = true
  | .own o => ∃ a, v = .ref a ∧ H0 a = none ∧ TNe tp a ∧ OwnO K H a o
  | .bor o => ∃ a, v = .ref a ∧ BorO tp K H a o
  | .tape => ∃ t l, tp = some (t, l) ∧ v = .ref t
/-- what a slot bears: Hq is what the def leaves as it is -/
def SR (Hq H : Hp) (v : V) : C → Prop
  | .val d => Vl K H v d ∧ lf d = true
  | .own o => ∃ a, v = .ref a ∧ Hq a = none ∧ TNe tp a ∧ OwnO K H a o
  | .bor o => ∃ a, v = .ref a ∧ BorO tp K Hq a o
  | .tape => ∃ t l, tp = some (t, l) ∧ v = .ref t
structure Rel (He Hq H : Hp) (σ : L2.St) (ρ : Ro) : Prop where
  len : σ.length = ρ.length
  at_ : ∀ (i : Nat) (c : C), ρ[i]? = some (some c) → ∃ v, σ[i]? = some (some v) ∧ SR tp K Hq H v c
  dist : ∀ (i j : Nat) (a : Addr) (o o' : PO), ρ[i]? = some (some (.own o)) → ρ[j]? = some (some (.own o')) → σ[i]? = some (some (.ref a)) → σ[j]? = some (some (.ref a)) → i = j
  sub : GrT tp He Hq
  gr : GrT tp Hq H
  tok : TOk tp H
  he : ∀ (t l : Addr), tp = some (t, l) → Hq t = none ∨ ∃ xs, Hq t = some (.lst xs)
end
section
variable {tp : Option (Addr × Addr)} {K : PySem.W.Frag} [WP K] {H H' H'' H0 H1 He : Hp} {Hq : Hp} {σ : L2.St} {ρ : Ro}
theorem GrT.refl : GrT tp H H := fun _ _ e _ => e
theorem GrT.trans (a : GrT tp H H') (b : GrT tp H' H'') : GrT tp H H'' := fun c o e n => b c o (a c o e n) n
theorem GrT.of (a : Same H H') : GrT tp H H' := fun b o e _ => a b o e
theorem GrT.im (g : GrT tp H H') (t : TOk tp H) : Im H H' := by
  cases tp with
  | none => exact Im.same fun b o e => g b o e (by simp)
  | some q =>
    obtain ⟨a, l⟩ := q
    exact (t a l rfl).im fun b o e n => g b o e (by simpa using fun z => n z.symm)
theorem GrT.free (g : GrT tp H H') (t : TOk tp H') {b : Addr} (h : H' b = none) : H b = none := by
  cases e : H b with
  | none => rfl
  | some o =>
    by_cases q : tp.map (·.1) = some b
    · cases tp with
      | none => simp at q
      | some r =>
        obtain ⟨a, l⟩ := r
        obtain ⟨xs, e2⟩ := (t a l rfl).list
        have : a = b := by simpa using q
        subst this
        rw [h] at e2
        cases e2
    · rw [g b o e q] at h
      cases h
theorem TOk.same (t : TOk tp H) (e : Same H H') : TOk tp H' := fun a l h => (t a l h).same e
theorem TNe.ne {a : Addr} (h : TNe tp a) : tp.map (·.1) ≠ some a := by
  cases tp with
  | none => simp
  | some r =>
    obtain ⟨t, l⟩ := r
    simpa using fun z => (h t l rfl).1 z.symm
theorem TOk.tne (t : TOk tp H) {p : Addr} (h : H p = none) : TNe tp p := fun a l e => ⟨(t a l e).ne_t h, (t a l e).ne_l h⟩
theorem TOk.ne (t : TOk tp H) {p : Addr} (h : H p = none) : tp.map (·.1) ≠ some p := by
  cases tp with
  | none => simp
  | some r =>
    obtain ⟨a, l⟩ := r
    have := (t a l rfl).ne_t h
    simpa using fun z => this z.symm
theorem BorL.gr {b : Addr} {u : HO} (h : BorL tp H b u) (g : GrT tp H H') : BorL tp H' b u := by
  rcases h with ⟨h | ⟨o, h⟩, n⟩
  · exact ⟨.inl (g _ _ h n), n⟩
  · exact ⟨.inr ⟨o, g _ _ h n⟩, n⟩
theorem BorF.gr {b : Addr} {u : HO} (h : BorF tp H b u) (g : GrT tp H H') : BorF tp H' b u := let ⟨⟨o, h⟩, n⟩ := h; ⟨⟨o, g _ _ h n⟩, n⟩
theorem BorL.sq {b : Addr} {vs : List V} (h : BorL tp H b (.lst vs)) : SqL K H b vs := by
  exact .inl h.1
theorem XD.to {rd rd' : HO → Prop} {a : Addr} {ds : List (NestedKey × PyData)} (h : XD K H rd a ds) (e : Im H H') (f : ∀ φ, rd (.ext φ) → rd' (.ext φ)) : XD K H' rd' a ds :=
  let ⟨xs, vs, h1, h2, h3⟩ := h
  ⟨xs, vs, f _ h1, h2.up e.tup, h3.imlf e _ _ trivial⟩
theorem XS.to {rd rd' : HO → Prop} {a : Addr} {ks : List NestedKey} (h : XS K H rd a ks) (e : Im H H') (f : ∀ φ, rd (.ext φ) → rd' (.ext φ)) : XS K H' rd' a ks :=
  let ⟨L, h1, h2, h3⟩ := h
  ⟨L, f _ h1, fun p m => (h2 p m).up e.tup, h3⟩
/-- one's own, in another heap -/
theorem OwnX.to {a : Addr} {x : XO} (h : OwnX K H a x) (e : Im H H') (f : ∀ φ, H a = some (.ext φ) → H' a = some (.ext φ)) : OwnX K H' a x := by
  cases x with
  | dN ds => exact (show XD K H (fun u => H a = some u) a ds from h).to (rd' := fun u => H' a = some u) e f
  | sN ks => exact (show XS K H (fun u => H a = some u) a ks from h).to (rd' := fun u => H' a = some u) e f
  | lN _ => exact h.elim
theorem BorX.to {a : Addr} {x : XO} (h : BorX tp K H a x) (e : Im H H') (f : ∀ φ, BorL tp H a (.ext φ) → BorL tp H' a (.ext φ)) (f2 : ∀ φ, BorF tp H a (.ext φ) → BorF tp H' a (.ext φ)) : BorX tp K H' a x := by
  cases x with
  | dN ds => exact (show XD K H (BorL tp H a) a ds from h).to (rd' := BorL tp H' a) e f
  | sN ks => exact (show XS K H (BorL tp H a) a ks from h).to (rd' := BorL tp H' a) e f
  | lN ds => exact (show XD K H (BorF tp H a) a ds from h).to (rd' := BorF tp H' a) e f2
theorem OwnX.lent {a : Addr} {x : XO} (h : OwnX K H a x) (n : TNe tp a) : BorX tp K H a x := by
  have i : Im H H := Im.same fun _ _ e => e
  cases x with
  | dN ds => exact (show XD K H (fun u => H a = some u) a ds from h).to (rd' := BorL tp H a) i fun φ e => ⟨.inl e, n.ne⟩
  | sN ks => exact (show XS K H (fun u => H a = some u) a ks from h).to (rd' := BorL tp H a) i fun φ e => ⟨.inl e, n.ne⟩
  | lN _ => exact h.elim
theorem OwnX.ext {a : Addr} {x : XO} (h : OwnX K H a x) : ∃ φ, H a = some (.ext φ) := by
  cases x with
  | dN ds => obtain ⟨xs, vs, h, _⟩ := h; exact ⟨_, h⟩
  | sN ks => obtain ⟨L, h, _⟩ := h; exact ⟨_, h⟩
  | lN _ => exact h.elim
theorem OwnO.gr {a : Addr} {o : PO} (h : OwnO K H a o) (g : GrT tp H H') (t : TOk tp H) (n : TNe tp a) : OwnO K H' a o := by
  cases o with
  | lst ds =>
    obtain ⟨vs, h1, h2, h3⟩ := h
    exact ⟨vs, g _ _ h1 n.ne, h2.imlf (g.im t) ds _ h3, h3⟩
  | dT ds =>
    obtain ⟨vs, h1, h2, h3⟩ := h
    exact ⟨vs, g _ _ h1 n.ne, h2.imlf (g.im t) ds _ h3, h3⟩
  | dK ds =>
    obtain ⟨vs, h1, h2, h3⟩ := h
    exact ⟨vs, g _ _ h1 n.ne, h2.imlf (g.im t) ds _ h3, h3⟩
  | lT ds =>
    exact h.elim
  | xo x => exact OwnX.to h (g.im t) fun φ e => g _ _ e n.ne
theorem BorO.gr {a : Addr} {o : PO} (h : BorO tp K H a o) (g : GrT tp H H') (t : TOk tp H) : BorO tp K H' a o := by
  cases o with
  | lst ds =>
    obtain ⟨vs, h1, h2, h3⟩ := h
    exact ⟨vs, h1.gr g, h2.imlf (g.im t) ds _ h3, h3⟩
  | dT ds =>
    obtain ⟨vs, h1, h2, h3⟩ := h
    exact ⟨vs, h1.gr g, h2.imlf (g.im t) ds _ h3, h3⟩
  | dK ds =>
    obtain ⟨vs, h1, h2, h3⟩ := h
    exact ⟨vs, h1.gr g, h2.imlf (g.im t) ds _ h3, h3⟩
  | lT ds =>
    obtain ⟨vs, h1, h2, h3⟩ := h
    exact ⟨vs, h1.gr g, h2.imlf (g.im t) ds _ h3, h3⟩
  | xo x => exact BorX.to h (g.im t) (fun φ e => e.gr g) fun φ e => e.gr g
theorem OwnO.bor {a : Addr} {o : PO} (h : OwnO K H a o) (n : TNe tp a) : BorO tp K H a o := by
  cases o with
  | lst ds =>
    obtain ⟨vs, h1, h2, h3⟩ := h
    exact ⟨vs, ⟨.inl h1, n.ne⟩, h2, h3⟩
  | dT ds =>
    obtain ⟨vs, h1, h2, h3⟩ := h
    exact ⟨vs, ⟨.inl h1, n.ne⟩, h2, h3⟩
  | dK ds =>
    obtain ⟨vs, h1, h2, h3⟩ := h
    exact ⟨vs, ⟨.inl h1, n.ne⟩, h2, h3⟩
  | lT ds =>
    exact h.elim
  | xo x => exact OwnX.lent h n
theorem RC.gr {v : V} {c : C} (h : RC tp K H0 H v c) (g : GrT tp H H') (t : TOk tp H) : RC tp K H0 H' v c := by
  cases c with
  | val d => exact ⟨h.1.imlf (g.im t) d _ h.2, h.2⟩
  | own o =>
    obtain ⟨a, e, f, n, h⟩ := h
    exact ⟨a, e, f, n, h.gr g t n⟩
  | bor o =>
    obtain ⟨a, e, h⟩ := h
    exact ⟨a, e, h.gr g t⟩
  | tape => exact h
theorem RC.base {v : V} {c : C} (h : RC tp K H1 H v c) (g : GrT tp H0 H1) (t : TOk tp H1) : RC tp K H0 H v c := by
  cases c with
  | val d => exact h
  | own o =>
    obtain ⟨a, e, f, n, h⟩ := h
    exact ⟨a, e, g.free t f, n, h⟩
  | bor o => exact h
  | tape => exact h
theorem SR.gr {v : V} {c : C} (h : SR tp K Hq H v c) (g : GrT tp H H') (t : TOk tp H) : SR tp K Hq H' v c := by
  cases c with
  | val d => exact ⟨h.1.imlf (g.im t) d _ h.2, h.2⟩
  | own o =>
    obtain ⟨a, e, f, n, h⟩ := h
    exact ⟨a, e, f, n, h.gr g t n⟩
  | bor o => exact h
  | tape => exact h
theorem Rel.go (r : Rel tp K He Hq H σ ρ) (g : GrT tp H H') (t : TOk tp H') : Rel tp K He Hq H' σ ρ :=
  ⟨r.len, fun i c e => let ⟨v, h1, h2⟩ := r.at_ i c e; ⟨v, h1, h2.gr g r.tok⟩, r.dist, r.sub, r.gr.trans g, t, r.he⟩
/-- data that a thing reads as -/
def PO.dat : PO → Option PyData
  | .lst ds => some (.list ds)
  | _ => none
def C.dat : C → Option PyData
  | .val d => some d
  | .own o => o.dat
  | .bor o => o.dat
  | .tape => none
theorem RC.dp {v : V} {c : C} {d : PyData} (h : RC tp K H0 H v c) (e : c.dat = some d) : Dp K H v d := by
  cases c with
  | val d' => cases e; exact h.1.dp _ _
  | own o =>
    obtain ⟨a, rfl, _, _, h⟩ := h
    cases o with
    | lst ds =>
      cases e
      obtain ⟨vs, h1, h2, _⟩ := h
      exact .lst (SqL.of h1) (h2.dp _ _)
    | dT _ => cases e
    | dK _ => cases e
    | lT _ => cases e
    | xo _ => cases e
  | bor o =>
    obtain ⟨a, rfl, h⟩ := h
    cases o with
    | lst ds =>
      cases e
      obtain ⟨vs, h1, h2, _⟩ := h
      exact .lst h1.sq (h2.dp _ _)
    | dT _ => cases e
    | dK _ => cases e
    | lT _ => cases e
    | xo _ => cases e
  | tape => cases e
/-- what follows an expression -/
def Post (tp : Option (Addr × Addr)) (K : PySem.W.Frag) [WP K] (H : Hp) (Q : VK) (c : C) : Prop := ∀ v H', GrT tp H H' → TOk tp H' → RC tp K H H' v c → Q v H'
/-- the reading t is served by the plain program g -/
def RE (K : PySem.W.Frag) [WP K] (t : TE) (g : Ro → M C) : Prop := ∀ tp He Hq ρ σ H Q, Rel tp K He Hq H σ ρ → wp0 (g ρ) (Post tp K H Q) → t σ H Q
def PostB (tp : Option (Addr × Addr)) (H : Hp) (Q : Bool → Hp → Prop) (b : Bool) : Prop := ∀ H', GrT tp H H' → TOk tp H' → Q b H'
def RT (K : PySem.W.Frag) [WP K] (t : TT) (g : Ro → M Bool) : Prop := ∀ tp He Hq ρ σ H Q, Rel tp K He Hq H σ ρ → wp0 (g ρ) (PostB tp H Q) → t σ H Q
def RCs (tp : Option (Addr × Addr)) (K : PySem.W.Frag) [WP K] (H0 H : Hp) : List V → List C → Prop
  | [], [] => True
  | v :: vs, c :: cs => RC tp K H0 H v c ∧ RCs tp K H0 H vs cs
  | _, _ => False
def PostA (tp : Option (Addr × Addr)) (K : PySem.W.Frag) [WP K] (H : Hp) (Q : List V → Hp → Prop) (cs : List C) : Prop := ∀ vs H', GrT tp H H' → TOk tp H' → RCs tp K H H' vs cs → Q vs H'
def RA (K : PySem.W.Frag) [WP K] (t : TA) (g : Ro → M (List C)) : Prop := ∀ tp He Hq ρ σ H Q, Rel tp K He Hq H σ ρ → wp0 (g ρ) (PostA tp K H Q) → t σ H Q
/-- behind one expression, another -/
theorem Post.step {m : M C} {P Q : C → Prop} (h : wp0 m P) (k : ∀ c, P c → Q c) : wp0 m Q := wp0_mono k h
/-! ### names and constants -/
def gVar (i : Nat) (ρ : Ro) : M C := match ρ[i]? with
  | some (some (.own o)) => .ret (.bor o)
  | some (some c) => .ret c
  | _ => .fail
theorem Rel.im (r : Rel tp K He Hq H σ ρ) : Im Hq H := by
  have n : ∀ b o, Hq b = some o → (∀ xs, o ≠ .lst xs) → tp.map (·.1) ≠ some b := fun b o e h z => by
    cases tp with
    | none => simp at z
    | some w =>
      obtain ⟨t, l⟩ := w
      have : t = b := by simpa using z
      subst this
      rcases r.he t l rfl with q | ⟨xs, q⟩
      · rw [q] at e; cases e
      · rw [q] at e; cases e; exact h xs rfl
  exact ⟨fun b xs e => r.gr b _ e (n b _ e fun _ z => by cases z), fun b o u e => r.gr b _ e (n b _ e fun _ z => by cases z)⟩
theorem Rel.bor (r : Rel tp K He Hq H σ ρ) {a : Addr} {o : PO} (h : BorO tp K Hq a o) : BorO tp K H a o := by
  cases o with
  | lst ds =>
    obtain ⟨vs, h1, h2, h3⟩ := h
    exact ⟨vs, h1.gr r.gr, h2.imlf r.im ds _ h3, h3⟩
  | dT ds =>
    obtain ⟨vs, h1, h2, h3⟩ := h
    exact ⟨vs, h1.gr r.gr, h2.imlf r.im ds _ h3, h3⟩
  | dK ds =>
    obtain ⟨vs, h1, h2, h3⟩ := h
    exact ⟨vs, h1.gr r.gr, h2.imlf r.im ds _ h3, h3⟩
  | lT ds =>
    obtain ⟨vs, h1, h2, h3⟩ := h
    exact ⟨vs, h1.gr r.gr, h2.imlf r.im ds _ h3, h3⟩
  | xo x => exact BorX.to h r.im (fun φ e => e.gr r.gr) fun φ e => e.gr r.gr
def C.lend : C → C
  | .own o => .bor o
  | c => c
theorem RC.lend {v : V} {c : C} (h : RC tp K H0 H v c) : RC tp K H1 H v c.lend := by
  cases c with
  | val d => exact h
  | own o =>
    obtain ⟨a, e, f, n, h⟩ := h
    exact ⟨a, e, h.bor n⟩
  | bor o => exact h
  | tape => exact h
theorem Rel.var (r : Rel tp K He Hq H σ ρ) {i : Nat} {c : C} (e : ρ[i]? = some (some c)) : ∃ v, σ[i]? = some (some v) ∧ RC tp K H H v c.lend := by
  obtain ⟨v, h1, h2⟩ := r.at_ i c e
  refine ⟨v, h1, ?_⟩
  cases c with
  | val d => exact h2
  | own o =>
    obtain ⟨a, e, f, n, h⟩ := h2
    exact ⟨a, e, h.bor n⟩
  | bor o =>
    obtain ⟨a, e, h⟩ := h2
    exact ⟨a, e, r.bor h⟩
  | tape => exact h2
theorem re_var {i : Nat} : RE K (tVar i) (gVar i) := by
  intro tp He Hq ρ σ H Q r h
  unfold gVar at h
  split at h
  · rename_i o e
    obtain ⟨v, h1, h2⟩ := r.var e
    exact ⟨v, h1, h v H .refl r.tok h2⟩
  · rename_i e
    obtain ⟨v, h1, h2⟩ := r.var e
    refine ⟨v, h1, h v H .refl r.tok ?_⟩
    rename_i c' n
    cases c' with
    | own o => exact absurd rfl (n o)
    | val d => exact h2
    | bor d => exact h2
    | tape => exact h2
  · exact h.elim
def gC (d : PyData) (_ : Ro) : M C := .ret (.val d)
theorem re_con {v : V} {d : PyData} (h : ∀ H, Vl K H v d) (f : lf d = true) : RE K (tC v) (gC d) := fun tp He Hq ρ σ H Q r q => q v H .refl r.tok ⟨h H, f⟩
theorem re_int {i : Int} : RE K (tC (.int i)) (gC (.int i)) := re_con (fun _ => .int i) rfl
theorem re_str {x : Str} : RE K (tC (.str x)) (gC (.str x)) := re_con (fun _ => .str x) rfl
theorem re_bl {b : Bool} : RE K (tC (.bl b)) (gC (.bool b)) := re_con (fun _ => .bl b) rfl
theorem re_non : RE K (tC .non) (gC .none) := re_con (fun _ => .non) rfl
/-! ### arguments, displays -/
def gaNil (_ : Ro) : M (List C) := .ret []
def gaCons (g : Ro → M C) (gs : Ro → M (List C)) (ρ : Ro) : M (List C) := (g ρ).bind fun c => (gs ρ).bind fun cs => .ret (c :: cs)
theorem RCs.gr : ∀ {vs : List V} {cs : List C}, RCs tp K H0 H vs cs → GrT tp H H' → TOk tp H → RCs tp K H0 H' vs cs
  | [], [], _, _, _ => trivial
  | v :: vs, c :: cs, h, g, t => ⟨h.1.gr g t, RCs.gr h.2 g t⟩
  | [], _ :: _, h, _, _ => h.elim
  | _ :: _, [], h, _, _ => h.elim
theorem RCs.base : ∀ {vs : List V} {cs : List C}, RCs tp K H1 H vs cs → GrT tp H0 H1 → TOk tp H1 → RCs tp K H0 H vs cs
  | [], [], _, _, _ => trivial
  | v :: vs, c :: cs, h, g, t => ⟨h.1.base g t, RCs.base h.2 g t⟩
  | [], _ :: _, h, _, _ => h.elim
  | _ :: _, [], h, _, _ => h.elim
theorem ra_nil : RA K tNil gaNil := fun tp He Hq ρ σ H Q r q => q [] H .refl r.tok trivial
theorem ra_cons {t : TE} {u : TA} {g : Ro → M C} {gs : Ro → M (List C)} (h1 : RE K t g) (h2 : RA K u gs) : RA K (tCons t u) (gaCons g gs) := by
  intro tp He Hq ρ σ H Q r h
  refine h1 tp He Hq ρ σ H _ r (wp0_mono (fun c hc => ?_) (wp0_bind.mp h))
  intro x H1 g1 t1 rc
  refine h2 tp He Hq ρ σ H1 _ (r.go g1 t1) (wp0_mono (fun cs hcs => ?_) (wp0_bind.mp hc))
  intro xs H2 g2 t2 rcs
  exact hcs (x :: xs) H2 (g1.trans g2) t2 ⟨rc.gr g2 t1, rcs.base g1 t1⟩
def datas : List C → Option (List PyData)
  | [] => some []
  | .val d :: cs => (datas cs).map (d :: ·)
  | _ :: _ => none
theorem datas_dp : ∀ {vs : List V} {cs : List C} {ds : List PyData}, RCs tp K H0 H vs cs → datas cs = some ds → VlAll K H vs ds ∧ lfAll ds = true
  | [], [], ds, _, e => by cases e; exact ⟨.nil, rfl⟩
  | v :: vs, .val d :: cs, ds, h, e => by
    unfold datas at e
    cases q : datas cs with
    | none => rw [q] at e; cases e
    | some es =>
      rw [q] at e
      cases e
      obtain ⟨a1, a2⟩ := datas_dp h.2 q
      exact ⟨.cons h.1.1 a1, rfl⟩
  | _ :: _, .own _ :: _, _, _, e => by cases e
  | _ :: _, .bor _ :: _, _, _, e => by cases e
  | _ :: _, .tape :: _, _, _, e => by cases e
  | [], _ :: _, _, h, _ => h.elim
  | _ :: _, [], _, h, _ => h.elim
/-- lengths that the model holds -/
def lenOk (n : Nat) : Bool := decide (n ≤ 16777216)
theorem lenOk_le {n : Nat} (h : lenOk n = true) : n ≤ sizeLine := by rw [show sizeLine = 16777216 by decide]; exact of_decide_eq_true h
def oTup (cs : List C) : M C := match datas cs with
  | some ds => if lenOk ds.length = true then .ret (.val (.tuple ds)) else .fail
  | none => .fail
def oLst (cs : List C) : M C := match datas cs with
  | some ds => if lenOk ds.length = true then .ret (.own (.lst ds)) else .fail
  | none => .fail
def gTupE (gs : Ro → M (List C)) (ρ : Ro) : M C := (gs ρ).bind oTup
def gLst (gs : Ro → M (List C)) (ρ : Ro) : M C := (gs ρ).bind oLst
theorem re_tup {u : TA} {gs : Ro → M (List C)} (h1 : RA K u gs) : RE K (tTup u) (gTupE gs) := by
  intro tp He Hq ρ σ H Q r h
  refine h1 tp He Hq ρ σ H _ r (wp0_mono (fun cs hcs => ?_) (wp0_bind.mp h))
  intro xs H1 g1 t1 rc
  unfold oTup at hcs
  split at hcs
  · rename_i ds e
    obtain ⟨a1, a2⟩ := datas_dp rc e
    split at hcs
    · rename_i l
      refine ⟨by rw [a1.len]; exact lenOk_le l, fun p hp => hcs _ _ (g1.trans (.of (Same.new hp))) (t1.same (Same.new hp)) ⟨.tup upd_same (a1.imlf (Im.new hp) ds _ a2), rfl⟩⟩
    · exact hcs.elim
  · exact hcs.elim
theorem re_lst {u : TA} {gs : Ro → M (List C)} (h1 : RA K u gs) : RE K (tLst u) (gLst gs) := by
  intro tp He Hq ρ σ H Q r h
  refine h1 tp He Hq ρ σ H _ r (wp0_mono (fun cs hcs => ?_) (wp0_bind.mp h))
  intro xs H1 g1 t1 rc
  unfold oLst at hcs
  split at hcs
  · rename_i ds e
    obtain ⟨a1, a2⟩ := datas_dp rc e
    split at hcs
    · rename_i l
      refine ⟨by rw [a1.len]; exact lenOk_le l, fun p hp => hcs _ _ (g1.trans (.of (Same.new hp))) (t1.same (Same.new hp)) ⟨p, rfl, g1.free t1 hp, t1.tne hp, xs, upd_same, a1.imlf (Im.new hp) ds _ a2, a2⟩⟩
    · exact hcs.elim
  · exact hcs.elim
end
end Cs

set_option maxRecDepth 100000
set_option maxHeartbeats 4000000
/-! operators by values -/
namespace Cs
open PySem PySem.Spec PyProof.Rows L2
section
variable {tp : Option (Addr × Addr)} {K : PySem.W.Frag} [WP K] {H H' H'' H0 H1 He : Hp} {Hq : Hp} {σ : L2.St} {ρ : Ro}
def OpS (K : PySem.W.Frag) [WP K] (r : R2) (op : C → C → M C) : Prop := ∀ tp H0 H x y cx cy Q, GrT tp H0 H → TOk tp H → RC tp K H0 H x cx → RC tp K H0 H y cy → wp0 (op cx cy) (Post tp K H0 Q) → r x y H Q
def gOp (op : C → C → M C) (ga gb : Ro → M C) (ρ : Ro) : M C := (ga ρ).bind fun a => (gb ρ).bind fun b => op a b
theorem re_op {r : R2} {op : C → C → M C} {ta tb : TE} {ga gb : Ro → M C} (ho : OpS K r op) (ha : RE K ta ga) (hb : RE K tb gb) : RE K (tOp r ta tb) (gOp op ga gb) := by
  intro tp He Hq ρ σ H Q rl h
  refine ha tp He Hq ρ σ H _ rl (wp0_mono (fun a h1 => ?_) (wp0_bind.mp h))
  intro x H1 g1 t1 rx
  refine hb tp He Hq ρ σ H1 _ (rl.go g1 t1) (wp0_mono (fun b h2 => ?_) (wp0_bind.mp h1))
  intro y H2 g2 t2 ry
  exact ho tp H H2 x y a b Q (g1.trans g2) t2 (rx.gr g2 t1) (ry.base g1 t1) h2
def UnS (K : PySem.W.Frag) [WP K] (r : V → Hp → VK → Prop) (op : C → M C) : Prop := ∀ tp H0 H x cx Q, GrT tp H0 H → TOk tp H → RC tp K H0 H x cx → wp0 (op cx) (Post tp K H0 Q) → r x H Q
def gUn (op : C → M C) (ga : Ro → M C) (ρ : Ro) : M C := (ga ρ).bind op
theorem re_un {r : V → Hp → VK → Prop} {op : C → M C} {ta : TE} {ga : Ro → M C} (ho : UnS K r op) (ha : RE K ta ga) : RE K (tUn r ta) (gUn op ga) := by
  intro tp He Hq ρ σ H Q rl h
  refine ha tp He Hq ρ σ H _ rl (wp0_mono (fun a h1 => ?_) (wp0_bind.mp h))
  intro x H1 g1 t1 rx
  exact ho tp H H1 x a Q g1 t1 rx h1
/-- a flat answer, the heap as it is -/
theorem Post.at_ {Q : VK} {c : C} {v : V} (p : Post tp K H0 Q c) (g : GrT tp H0 H) (t : TOk tp H) (r : RC tp K H0 H v c) : Q v H := p v H g t r
theorem Post.int {Q : VK} {i : Int} (p : Post tp K H0 Q (.val (.int i))) (g : GrT tp H0 H) (t : TOk tp H) : Q (.int i) H := p _ H g t ⟨.int i, rfl⟩
theorem Post.bl {Q : VK} {b : Bool} (p : Post tp K H0 Q (.val (.bool b))) (g : GrT tp H0 H) (t : TOk tp H) : Q (.bl b) H := p _ H g t ⟨.bl b, rfl⟩
theorem Post.str {Q : VK} {b : Str} (p : Post tp K H0 Q (.val (.str b))) (g : GrT tp H0 H) (t : TOk tp H) : Q (.str b) H := p _ H g t ⟨.str b, rfl⟩
theorem Post.non {Q : VK} (p : Post tp K H0 Q (.val .none)) (g : GrT tp H0 H) (t : TOk tp H) : Q .non H := p _ H g t ⟨.non, rfl⟩
theorem Post.tup {Q : VK} {ds : List PyData} {vs : List V} {a : Addr} (p : Post tp K H0 Q (.val (.tuple ds))) (g : GrT tp H0 H) (t : TOk tp H) (n : H a = none) (h : VlAll K H vs ds) (f : lfAll ds = true) : Q (.ref a) (upd H a (.tup vs)) :=
  p _ _ (g.trans (.of (Same.new n))) (t.same (Same.new n)) ⟨.tup upd_same (h.imlf (Im.new n) ds _ f), rfl⟩
theorem Post.lst {Q : VK} {ds : List PyData} {vs : List V} {a : Addr} (p : Post tp K H0 Q (.own (.lst ds))) (g : GrT tp H0 H) (t : TOk tp H) (n : H a = none) (h : VlAll K H vs ds) (f : lfAll ds = true) : Q (.ref a) (upd H a (.lst vs)) :=
  p _ _ (g.trans (.of (Same.new n))) (t.same (Same.new n)) ⟨a, rfl, g.free t n, t.tne n, vs, upd_same, h.imlf (Im.new n) ds _ f, f⟩
theorem RC.int {v : V} {i : Int} (h : RC tp K H0 H v (.val (.int i))) : v = .int i := by obtain ⟨h, _⟩ := h; cases h; rfl
theorem RC.bl {v : V} {i : Bool} (h : RC tp K H0 H v (.val (.bool i))) : v = .bl i := by obtain ⟨h, _⟩ := h; cases h; rfl
theorem RC.str {v : V} {i : Str} (h : RC tp K H0 H v (.val (.str i))) : v = .str i := by obtain ⟨h, _⟩ := h; cases h; rfl
theorem RC.non {v : V} (h : RC tp K H0 H v (.val .none)) : v = .non := by obtain ⟨h, _⟩ := h; cases h; rfl
theorem RC.tup {v : V} {ds : List PyData} (h : RC tp K H0 H v (.val (.tuple ds))) : ∃ a vs, v = .ref a ∧ SqT K H a vs ∧ VlAll K H vs ds ∧ lfAll ds = true := by
  obtain ⟨h, f⟩ := h
  cases h with
  | tup h1 h2 => exact ⟨_, _, rfl, SqT.of h1, h2, rfl⟩
/-- a list, read -/
def C.items : C → Option (List PyData)
  | .own (.lst ds) => some ds
  | .bor (.lst ds) => some ds
  | .val (.list ds) => some ds
  | _ => none
theorem RC.rd {v : V} {c : C} {ds : List PyData} (h : RC tp K H0 H v c) (e : c.items = some ds) : ∃ a vs, v = .ref a ∧ Rd H a (.lst vs) ∧ VlAll K H vs ds ∧ lfAll ds = true := by
  cases c with
  | val d =>
    cases d <;> cases e
    obtain ⟨h, _⟩ := h
    cases h with
    | lst h1 h2 => exact ⟨_, _, rfl, .inr h1, h2, rfl⟩
  | tape => cases e
  | own o =>
    cases o with
    | lst es =>
      cases e
      obtain ⟨a, rfl, _, _, vs, h1, h2, h3⟩ := h
      exact ⟨a, vs, rfl, .inl h1, h2, h3⟩
    | dT _ => cases e
    | dK _ => cases e
    | lT _ => cases e
    | xo _ => cases e
  | bor o =>
    cases o with
    | lst es =>
      cases e
      obtain ⟨a, rfl, vs, h1, h2, h3⟩ := h
      exact ⟨a, vs, rfl, h1.1, h2, h3⟩
    | dT _ => cases e
    | dK _ => cases e
    | lT _ => cases e
    | xo _ => cases e
/-! ### + -/
def rCatR : R2 := fun x y H Q => ∃ l b xs zs, x = .ref l ∧ y = .ref b ∧ Rd H l (.lst xs) ∧ Rd H b (.lst zs) ∧ xs.length + zs.length ≤ sizeLine ∧ ∀ p, H p = none → Q (.ref p) (upd H p (.lst (xs ++ zs)))
theorem op_catR {X : Cx} : OpR X (binaryOp .Add) rCatR := by
  intro pins s σ H x y v u Q I rx ry h
  obtain ⟨l, b, xs, zs, rfl, rfl, hH, hB, hz, q⟩ := h
  cases rx
  cases ry
  obtain ⟨z, its, n, r, e⟩ := hH.ok I.hok
  obtain ⟨z2, its2, n2, r2, e2⟩ := hB.ok I.hok
  have hl := r.length
  have hl2 := r2.length
  refine PySem.P.add_list e e2 ?_ (by rw [List.size_toArray, List.size_toArray]; omega)
  have ea : its.toArray ++ its2.toArray = (its ++ its2).toArray := by simp
  rw [ea]
  exact ⟨.ref _, _, I.lnew (t' := s.toks) (r.append r2) (by rw [List.length_append]; omega), rfl, q _ I.fresh⟩
def rAddS : R2 := fun x y H Q => ∃ i j, x = .str i ∧ y = .str j ∧ i.length + j.length ≤ sizeLine ∧ Q (.str (i ++ j)) H
def rAddU (K : PySem.W.Frag) : R2 := fun x y H Q => rI0 (fun i j => .int (i + j)) x y H Q ∨ rAddS x y H Q ∨ rCatA K x y H Q ∨ rCatR x y H Q
theorem opAdd (K : PySem.W.Frag) {X : Cx} (h : X.K = K := by rfl) : OpR X (binaryOp .Add) (rAddU K) := by
  subst h
  intro pins s σ H x y v u Q I rx ry h
  rcases h with h | h | h | h
  · exact op_add pins s σ H x y v u Q I rx ry h
  · exact op_add_str pins s σ H x y v u Q I rx ry h
  · exact op_catA pins s σ H x y v u Q I rx ry h
  · exact op_catR pins s σ H x y v u Q I rx ry h
def addL : Option (List PyData) → Option (List PyData) → M C
  | some ds, some es => if lenOk (ds.length + es.length) = true then .ret (.own (.lst (ds ++ es))) else .fail
  | _, _ => .fail
def oAdd : C → C → M C
  | .val (.int i), .val (.int j) => .ret (.val (.int (i + j)))
  | .val (.str i), .val (.str j) => if lenOk (i.length + j.length) = true then .ret (.val (.str (i ++ j))) else .fail
  | .val (.tuple ds), .val (.tuple es) => if lenOk (ds.length + es.length) = true then .ret (.val (.tuple (ds ++ es))) else .fail
  | cx, cy => addL cx.items cy.items
theorem addL_ok {x y : V} {cx cy : C} {Q : VK} (g : GrT tp H0 H) (t : TOk tp H) (rx : RC tp K H0 H x cx) (ry : RC tp K H0 H y cy) (h : wp0 (addL cx.items cy.items) (Post tp K H0 Q)) : rAddU K x y H Q := by
  unfold addL at h
  split at h
  · rename_i ds es e1 e2
    obtain ⟨a, vs, rfl, q1, q2, q3⟩ := rx.rd e1
    obtain ⟨b, us, rfl, p1, p2, p3⟩ := ry.rd e2
    split at h
    · rename_i l
      exact .inr (.inr (.inr ⟨a, b, vs, us, rfl, rfl, q1, p1, by rw [q2.len, p2.len]; exact lenOk_le l, fun p hp => Post.lst h g t hp (q2.app p2) (lfAll_app q3 p3)⟩))
    · exact h.elim
  · exact h.elim
theorem os_add : OpS K (rAddU K) oAdd := by
  intro tp H0 H x y cx cy Q g t rx ry h
  unfold oAdd at h
  split at h
  · rename_i i j
    cases rx.int; cases ry.int
    exact .inl ⟨i, j, rfl, rfl, Post.int h g t⟩
  · rename_i i j
    cases rx.str; cases ry.str
    split at h
    · rename_i l
      exact .inr (.inl ⟨i, j, rfl, rfl, lenOk_le l, Post.str h g t⟩)
    · exact h.elim
  · rename_i ds es
    obtain ⟨a, vs, rfl, q1, q2, q3⟩ := rx.tup
    obtain ⟨b, us, rfl, p1, p2, p3⟩ := ry.tup
    split at h
    · rename_i l
      refine .inr (.inr (.inl ⟨a, b, vs, us, rfl, rfl, q1, p1, by rw [q2.len, p2.len]; exact lenOk_le l, fun e => ?_, fun _ e => ?_, fun _ _ p hp => Post.tup h g t hp (q2.app p2) (lfAll_app q3 p3)⟩))
      · subst e
        cases q2
        exact Post.at_ h g t ry
      · subst e
        cases p2
        rw [List.append_nil] at h
        exact Post.at_ h g t rx
    · exact h.elim
  · exact addL_ok g t rx ry h
/-! ### - * // % ** -/
def oInt (f : Int → Int → PyData) (c : Int → Int → Bool) : C → C → M C
  | .val (.int i), .val (.int j) => if c i j = true then .ret (.val (f i j)) else .fail
  | _, _ => .fail
theorem os_int {f : Int → Int → Int} {c : Int → Int → Bool} {R : Int → Int → Prop} (h : ∀ i j, c i j = true → R i j) : OpS K (rI R fun i j => .int (f i j)) (oInt (fun i j => .int (f i j)) c) := by
  intro tp H0 H x y cx cy Q g t rx ry q
  unfold oInt at q
  split at q
  · rename_i i j
    cases rx.int; cases ry.int
    split at q
    · rename_i e
      exact ⟨i, j, rfl, rfl, h i j e, Post.int q g t⟩
    · exact q.elim
  · exact q.elim
theorem os_int0 {f : Int → Int → Int} : OpS K (rI0 fun i j => .int (f i j)) (oInt (fun i j => .int (f i j)) fun _ _ => true) := by
  intro tp H0 H x y cx cy Q g t rx ry q
  unfold oInt at q
  split at q
  · rename_i i j
    cases rx.int; cases ry.int
    split at q
    · rename_i e
      exact ⟨i, j, rfl, rfl, Post.int q g t⟩
    · exact q.elim
  · exact q.elim
theorem os_cmp0 {f : Int → Int → Bool} : OpS K (rI0 fun i j => .bl (f i j)) (oInt (fun i j => .bool (f i j)) fun _ _ => true) := by
  intro tp H0 H x y cx cy Q g t rx ry q
  unfold oInt at q
  split at q
  · rename_i i j
    cases rx.int; cases ry.int
    split at q
    · rename_i e
      exact ⟨i, j, rfl, rfl, Post.bl q g t⟩
    · exact q.elim
  · exact q.elim
abbrev oSub : C → C → M C := oInt (fun i j => .int (i - j)) fun _ _ => true
abbrev oLt : C → C → M C := oInt (fun i j => .bool (decide (i < j))) fun _ _ => true
abbrev oLe : C → C → M C := oInt (fun i j => .bool (decide (i ≤ j))) fun _ _ => true
abbrev oGt : C → C → M C := oInt (fun i j => .bool (decide (j < i))) fun _ _ => true
abbrev oGe : C → C → M C := oInt (fun i j => .bool (decide (j ≤ i))) fun _ _ => true
def cMul (i j : Int) : Bool := decide (i.natAbs.log2 + j.natAbs.log2 < 1000000)
def cDiv (_ j : Int) : Bool := decide (0 < j) && decide (j.natAbs.log2 < 9000)
def cMod (_ j : Int) : Bool := decide (0 < j)
def cPow (i j : Int) : Bool := decide (0 ≤ j) && (decide (j ≤ 1000000) && decide (i.natAbs < 18446744073709551616))
abbrev oFdiv : C → C → M C := oInt (fun i j => .int (i / j)) cDiv
abbrev oMod : C → C → M C := oInt (fun i j => .int (i % j)) cMod
abbrev oPow : C → C → M C := oInt (fun i j => .int (i ^ j.toNat)) cPow
theorem os_sub : OpS K (rI0 fun i j => .int (i - j)) oSub := os_int0 (f := fun i j => i - j)
theorem os_fdiv : OpS K (rI CDivW fun i j => .int (i / j)) oFdiv := os_int (f := fun i j => i / j) fun i j h => by
  simp only [cDiv, Bool.and_eq_true, decide_eq_true_eq] at h
  exact h
/-- // by any divisor -/
def CDivA (_ j : Int) : Prop := j ≠ 0 ∧ j.natAbs.log2 < 9000
theorem op_fdivA {X : Cx} : OpR X (binaryOp .FloorDiv) (rI CDivA fun i j => .int (i.fdiv j)) := opI fun i j _ _ _ _ _ hc q => floordiv_int hc.1 q (.inl (PyProof.noPylong_of_log2 hc.2))
def cDivA (_ j : Int) : Bool := !decide (j = 0) && decide (j.natAbs.log2 < 9000)
abbrev oFdivA : C → C → M C := oInt (fun i j => .int (i.fdiv j)) cDivA
theorem os_fdivA : OpS K (rI CDivA fun i j => .int (i.fdiv j)) oFdivA := os_int (f := fun i j => i.fdiv j) fun i j h => by
  simp only [cDivA, Bool.and_eq_true, Bool.not_eq_true', decide_eq_false_iff_not, decide_eq_true_eq] at h
  exact h
theorem os_mod : OpS K (rI (fun _ j => 0 < j) fun i j => .int (i % j)) oMod := os_int (f := fun i j => i % j) fun i j h => of_decide_eq_true h
theorem os_pow : OpS K (rI CPow fun i j => .int (i ^ j.toNat)) oPow := os_int (f := fun i j => i ^ j.toNat) fun i j h => by
  simp only [cPow, Bool.and_eq_true, decide_eq_true_eq] at h
  exact ⟨h.1, h.2.1, by have := h.2.2; show _ < 18446744073709551616; exact this⟩
/-! ### * -/
def rRepR : R2 := fun x y H Q => ∃ l k xs, x = .ref l ∧ y = .int k ∧ H l = some (.lst xs) ∧ -(2 ^ 63) ≤ k ∧ k < 2 ^ 63 ∧ xs.length * k.toNat ≤ sizeLine ∧
  ∀ p, H p = none → Q (.ref p) (upd H p (.lst (List.replicate k.toNat xs).flatten))
def rMulU (K : PySem.W.Frag) : R2 := fun x y H Q => rI CMulW (fun i j => .int (i * j)) x y H Q ∨ rRepT K x y H Q ∨ rRep x y H Q
theorem opMul (K : PySem.W.Frag) {X : Cx} (h : X.K = K := by rfl) : OpR X (binaryOp .Mult) (rMulU K) := by
  subst h
  intro pins s σ H x y v u Q I rx ry h
  rcases h with h | h | h
  · exact op_mulW pins s σ H x y v u Q I rx ry h
  · exact op_repT pins s σ H x y v u Q I rx ry h
  · exact op_rep pins s σ H x y v u Q I rx ry h
def repD (k : Nat) (ds : List PyData) : List PyData := (List.replicate k ds).flatten
theorem dpRep {vs : List V} {ds : List PyData} (h : VlAll K H vs ds) : ∀ k : Nat, VlAll K H (List.replicate k vs).flatten (repD k ds)
  | 0 => .nil
  | k + 1 => by
    unfold repD
    rw [List.replicate_succ, List.replicate_succ, List.flatten_cons, List.flatten_cons]
    exact h.app (dpRep h k)
theorem lfAll_rep {ds : List PyData} (h : lfAll ds = true) : ∀ k : Nat, lfAll (repD k ds) = true
  | 0 => rfl
  | k + 1 => by
    unfold repD
    rw [List.replicate_succ, List.flatten_cons]
    exact lfAll_app h (lfAll_rep h k)
def cRepT (ds : List PyData) (k : Int) : Bool := !ds.isEmpty && (decide (2 ≤ k) && (decide (k ≤ 1000) && decide (ds.length ≤ 1000)))
def cRepL (ds : List PyData) (k : Int) : Bool := decide (-9223372036854775808 ≤ k) && (decide (k < 9223372036854775808) && lenOk (ds.length * k.toNat))
def oMul : C → C → M C
  | .val (.int i), .val (.int j) => if cMul i j = true then .ret (.val (.int (i * j))) else .fail
  | .val (.tuple ds), .val (.int k) => if cRepT ds k = true then .ret (.val (.tuple (repD k.toNat ds))) else .fail
  | .own (.lst ds), .val (.int k) => if cRepL ds k = true then .ret (.own (.lst (repD k.toNat ds))) else .fail
  | _, _ => .fail
theorem os_mul : OpS K (rMulU K) oMul := by
  intro tp H0 H x y cx cy Q g t rx ry h
  unfold oMul at h
  split at h
  · rename_i i j
    cases rx.int; cases ry.int
    split at h
    · rename_i e
      exact .inl ⟨i, j, rfl, rfl, (show i.natAbs.log2 + j.natAbs.log2 < 1000000 from of_decide_eq_true e), Post.int h g t⟩
    · exact h.elim
  · rename_i ds k
    obtain ⟨a, vs, rfl, q1, q2, q3⟩ := rx.tup
    cases ry.int
    split at h
    · rename_i e
      simp only [cRepT, Bool.and_eq_true, decide_eq_true_eq, Bool.not_eq_true'] at e
      refine .inr (.inl ⟨a, k, vs, rfl, rfl, q1, fun z => ?_, e.2.1, e.2.2.1, by rw [q2.len]; exact e.2.2.2, fun p hp => Post.tup h g t hp (dpRep q2 _) (lfAll_rep q3 _)⟩)
      subst z
      cases q2
      simp at e
    · exact h.elim
  · rename_i ds k
    obtain ⟨a, rfl, _, _, vs, q1, q2, q3⟩ := rx
    cases ry.int
    split at h
    · rename_i e
      simp only [cRepL, Bool.and_eq_true, decide_eq_true_eq] at e
      exact .inr (.inr ⟨a, k, vs, rfl, rfl, q1, e.1, e.2.1, by rw [q2.len]; exact lenOk_le e.2.2, fun p hp => Post.lst h g t hp (dpRep q2 _) (lfAll_rep q3 _)⟩)
    · exact h.elim
  · exact h.elim
/-! ### -x -/
def oNeg : C → M C
  | .val (.int i) => .ret (.val (.int (-i)))
  | _ => .fail
theorem us_neg : UnS K (rU fun i => .int (-i)) oNeg := by
  intro tp H0 H x cx Q g t rx h
  unfold oNeg at h
  split at h
  · rename_i i
    cases rx.int
    exact ⟨i, rfl, Post.int h g t⟩
  · exact h.elim
/-! ### == != is in -/
def rEqU (K : PySem.W.Frag) (n : Bool) : R2 := fun x y H Q => (∃ i j, x = .str i ∧ y = .str j ∧ Q (.bl (n ^^ decide (i = j))) H) ∨ ∃ d e, Dp K H x d ∧ Dp K H y e ∧ SeqAt.shaped d = true ∧ SeqAt.shaped e = true ∧ Q (.bl (n ^^ PyData.eqv d e)) H
theorem dec_strV {i j : Str} : decide (V.str i = V.str j) = decide (i = j) := by
  by_cases h : i = j
  · subst h; simp
  · rw [decide_eq_false h, decide_eq_false (fun z => h (V.str.inj z))]
theorem opEq (K : PySem.W.Frag) {X : Cx} (hu : X.A.units + 64 < cLine) (h : X.K = K := by rfl) : OpR X (compareOp .Eq) (rEqU K false) := by
  subst h
  intro pins s σ H x y v u Q I rx ry h
  rcases h with ⟨i, j, rfl, rfl, q⟩ | ⟨d, e, h1, h2, h3, h4, q⟩
  · rw [Bool.false_xor] at q
    exact op_eq pins s σ H _ _ v u Q I rx ry ⟨rfl, by rw [dec_strV]; exact q⟩
  · rw [Bool.false_xor] at q
    exact op_eqD hu pins s σ H x y v u Q I rx ry ⟨d, e, h1, h2, h3, h4, q⟩
theorem opNe (K : PySem.W.Frag) {X : Cx} (hu : X.A.units + 64 < cLine) (h : X.K = K := by rfl) : OpR X (compareOp .NotEq) (rEqU K true) := by
  subst h
  intro pins s σ H x y v u Q I rx ry h
  rcases h with ⟨i, j, rfl, rfl, q⟩ | ⟨d, e, h1, h2, h3, h4, q⟩
  · rw [Bool.true_xor] at q
    exact op_ne pins s σ H _ _ v u Q I rx ry ⟨rfl, by rw [dec_strV]; exact q⟩
  · rw [Bool.true_xor] at q
    exact op_neD hu pins s σ H x y v u Q I rx ry ⟨d, e, h1, h2, h3, h4, q⟩
def oEqD (n : Bool) : Option PyData → Option PyData → M C
  | some (.str i), some (.str j) => .ret (.val (.bool (n ^^ decide (i = j))))
  | some d, some e => if (SeqAt.shaped d && SeqAt.shaped e) = true then .ret (.val (.bool (n ^^ PyData.eqv d e))) else .fail
  | _, _ => .fail
def oEq (a b : C) : M C := oEqD false a.dat b.dat
def oNe (a b : C) : M C := oEqD true a.dat b.dat
theorem eqD_ok {n : Bool} {x y : V} {cx cy : C} {Q : VK} (g : GrT tp H0 H) (t : TOk tp H) (rx : RC tp K H0 H x cx) (ry : RC tp K H0 H y cy) (h : wp0 (oEqD n cx.dat cy.dat) (Post tp K H0 Q)) : rEqU K n x y H Q := by
  unfold oEqD at h
  split at h
  · rename_i i j h1 h2
    have r1 := rx.dp h1
    have r2 := ry.dp h2
    cases r1; cases r2
    exact .inl ⟨i, j, rfl, rfl, Post.bl h g t⟩
  · rename_i d e _ h1 h2
    split at h
    · rename_i s
      simp only [Bool.and_eq_true] at s
      exact .inr ⟨d, e, rx.dp h1, ry.dp h2, s.1, s.2, Post.bl h g t⟩
    · exact h.elim
  · exact h.elim
theorem os_eq : OpS K (rEqU K false) oEq := fun tp H0 H x y cx cy Q g t rx ry h => eqD_ok g t rx ry h
theorem os_ne : OpS K (rEqU K true) oNe := fun tp H0 H x y cx cy Q g t rx ry h => eqD_ok g t rx ry h
def C.isN : C → Bool
  | .val .none => true
  | _ => false
theorem RC.isN {v : V} {c : C} (h : RC tp K H0 H v c) : decide (v = .non) = c.isN := by
  cases c with
  | val d =>
    obtain ⟨h, f⟩ := h
    cases h <;> rfl
  | own o => obtain ⟨a, rfl, _⟩ := h; rfl
  | bor o => obtain ⟨a, rfl, _⟩ := h; rfl
  | tape => obtain ⟨a, _, _, rfl⟩ := h; rfl
def oIs : C → C → M C
  | a, .val .none => .ret (.val (.bool a.isN))
  | _, _ => .fail
def oIsNot : C → C → M C
  | a, .val .none => .ret (.val (.bool (!a.isN)))
  | _, _ => .fail
theorem os_is : OpS K (fun x y H Q => y = .non ∧ Q (.bl (decide (x = .non))) H) oIs := by
  intro tp H0 H x y cx cy Q g t rx ry h
  unfold oIs at h
  split at h
  · cases ry.non
    exact ⟨rfl, by rw [rx.isN]; exact Post.bl h g t⟩
  · exact h.elim
theorem os_isnot : OpS K (fun x y H Q => y = .non ∧ Q (.bl (!decide (x = .non))) H) oIsNot := by
  intro tp H0 H x y cx cy Q g t rx ry h
  unfold oIsNot at h
  split at h
  · cases ry.non
    exact ⟨rfl, by rw [rx.isN]; exact Post.bl h g t⟩
  · exact h.elim
def rInU (K : PySem.W.Frag) (n : Bool) : R2 := fun x y H Q => (∃ d ds, Dp K H x d ∧ (Dp K H y (.list ds) ∨ Dp K H y (.tuple ds)) ∧ SeqAt.shaped d = true ∧ SeqAt.shaped (.list ds) = true ∧ Q (.bl (n ^^ ds.any fun z => PyData.eqv z d)) H) ∨
  (∃ (c : Nat) (z : Str), x = .str ⟨#[c]⟩ ∧ y = .str z ∧ Q (.bl (n ^^ decide (c ∈ z.cps.toList))) H)
theorem shaped_tup {ds : List PyData} (h : SeqAt.shaped (.list ds) = true) : SeqAt.shaped (.tuple ds) = true := by
  have e : SeqAt.shaped (.list ds) = ((PyData.canLay0 (.list ds)) && decide ((PyData.depth (.list ds)) ≤ 64)) := rfl
  have e' : SeqAt.shaped (.tuple ds) = ((PyData.canLay0 (.tuple ds)) && decide ((PyData.depth (.tuple ds)) ≤ 64)) := rfl
  rw [e] at h
  rw [e']
  simp only [PyData.canLay0, PyData.depth] at h ⊢
  exact h
theorem opIn (K : PySem.W.Frag) {X : Cx} (hu : X.A.units + 65 < cLine) (h : X.K = K := by rfl) : OpR X (compareOp .In) (rInU K false) := by
  subst h
  intro pins s σ H x y v u Q I rx ry h
  rcases h with ⟨d, ds, hd, he | he, sd, se, q⟩ | h
  · rw [Bool.false_xor] at q
    exact op_inD hu pins s σ H x y v u Q I rx ry ⟨d, ds, hd, he, sd, se, q⟩
  · rw [Bool.false_xor] at q
    obtain ⟨as, r1⟩ := Dp.reads I d x v hd rx
    obtain ⟨bs, r2⟩ := Dp.reads I (.tuple ds) y u he ry
    exact SeqAt.in_tuple_reads r2 r1 (SeqAt.canLay_of_shaped se) (SeqAt.canLay_of_shaped sd) (room_in_shaped sd hu) ⟨.bl _, H, I, rfl, q⟩
  · obtain ⟨c, z, h1, h2, q⟩ := h
    rw [Bool.false_xor] at q
    exact op_in_sign pins s σ H x y v u Q I rx ry ⟨c, z, h1, h2, q⟩
theorem opNotIn (K : PySem.W.Frag) {X : Cx} (hu : X.A.units + 65 < cLine) (h : X.K = K := by rfl) : OpR X (compareOp .NotIn) (rInU K true) := by
  subst h
  intro pins s σ H x y v u Q I rx ry h
  rcases h with ⟨d, ds, hd, he | he, sd, se, q⟩ | h
  · rw [Bool.true_xor] at q
    exact op_notInD hu pins s σ H x y v u Q I rx ry ⟨d, ds, hd, he, sd, se, q⟩
  · rw [Bool.true_xor] at q
    obtain ⟨as, r1⟩ := Dp.reads I d x v hd rx
    obtain ⟨bs, r2⟩ := Dp.reads I (.tuple ds) y u he ry
    exact SeqAt.notIn_tuple_reads r2 r1 (SeqAt.canLay_of_shaped se) (SeqAt.canLay_of_shaped sd) (room_in_shaped sd hu) ⟨.bl _, H, I, rfl, q⟩
  · obtain ⟨c, z, h1, h2, q⟩ := h
    rw [Bool.true_xor] at q
    exact op_notIn_sign pins s σ H x y v u Q I rx ry ⟨c, z, h1, h2, q⟩
def oInD (n : Bool) (d : PyData) (ds : List PyData) : M C := if (SeqAt.shaped d && SeqAt.shaped (.list ds)) = true then .ret (.val (.bool (n ^^ ds.any fun z => PyData.eqv z d))) else .fail
def oInS (n : Bool) (x : Str) (z : Str) : M C := if x.cps.size = 1 then .ret (.val (.bool (n ^^ decide (x.cps.getD 0 0 ∈ z.cps.toList)))) else .fail
def oInX (n : Bool) : Option PyData → Option PyData → M C
  | some (.str x), some (.str z) => oInS n x z
  | some d, some (.list ds) => oInD n d ds
  | some d, some (.tuple ds) => oInD n d ds
  | _, _ => .fail
def oIn (a b : C) : M C := oInX false a.dat b.dat
def oNotIn (a b : C) : M C := oInX true a.dat b.dat
theorem inX_ok {n : Bool} {x y : V} {cx cy : C} {Q : VK} (g : GrT tp H0 H) (t : TOk tp H) (rx : RC tp K H0 H x cx) (ry : RC tp K H0 H y cy) (h : wp0 (oInX n cx.dat cy.dat) (Post tp K H0 Q)) : rInU K n x y H Q := by
  unfold oInX at h
  split at h
  · rename_i x' z h1 h2
    unfold oInS at h
    split at h
    · rename_i e
      have r1 := rx.dp h1
      have r2 := ry.dp h2
      cases r1
      cases r2
      obtain ⟨⟨l⟩⟩ := x'
      cases l with
      | nil => simp at e
      | cons c l =>
        cases l with
        | nil => exact .inr ⟨c, z, rfl, rfl, Post.bl h g t⟩
        | cons _ _ => simp at e
    · exact h.elim
  · rename_i d ds h1 h2
    unfold oInD at h
    split at h
    · rename_i e
      simp only [Bool.and_eq_true] at e
      exact .inl ⟨d, ds, rx.dp h1, .inl (ry.dp h2), e.1, e.2, Post.bl h g t⟩
    · exact h.elim
  · rename_i d ds h1 h2
    unfold oInD at h
    split at h
    · rename_i e
      simp only [Bool.and_eq_true] at e
      exact .inl ⟨d, ds, rx.dp h1, .inr (ry.dp h2), e.1, e.2, Post.bl h g t⟩
    · exact h.elim
  · exact h.elim
theorem os_in : OpS K (rInU K false) oIn := fun tp H0 H x y cx cy Q g t rx ry h => inX_ok g t rx ry h
theorem os_notin : OpS K (rInU K true) oNotIn := fun tp H0 H x y cx cy Q g t rx ry h => inX_ok g t rx ry h
end
end Cs

set_option maxRecDepth 100000
set_option maxHeartbeats 4000000
/-! tests, subscripts, calls -/
namespace Cs
open PySem PySem.Spec PyProof.Rows L2
section
variable {tp : Option (Addr × Addr)} {K : PySem.W.Frag} [WP K] {H H' H'' H0 H1 He : Hp} {Hq : Hp} {σ : L2.St} {ρ : Ro}
/-! ### truth -/
def truD : PyData → M Bool
  | .none => .ret false
  | .bool b => .ret b
  | .int i => .ret (i != 0)
  | .str x => if lenOk x.length = true then .ret ((x.length : Int) != 0) else .fail
  | .tuple xs => .ret (!xs.isEmpty)
  | .list xs => .ret (!xs.isEmpty)
  | .dict _ => .fail
def oTru (c : C) : M Bool := match c.dat with
  | some d => truD d
  | none => .fail
theorem dp_empty {vs : List V} {ds : List PyData} (h : DpAll K H vs ds) : vs.isEmpty = ds.isEmpty := by
  cases h <;> rfl
theorem tru_of {v : V} {d : PyData} (h : Dp K H v d) {Q : Bool → Prop} (q : wp0 (truD d) Q) : ∃ k, TruV K v H k ∧ Q k := by
  cases h with
  | non => exact ⟨_, rfl, q⟩
  | bl b => exact ⟨_, rfl, q⟩
  | int i => exact ⟨_, rfl, q⟩
  | str x =>
    unfold truD at q
    dsimp only at q
    split at q
    · rename_i l
      exact ⟨_, ⟨lenOk_le l, rfl⟩, q⟩
    · exact q.elim
  | lst h1 h2 => exact ⟨_, .inl ⟨_, h1, rfl⟩, by rw [dp_empty h2]; exact q⟩
  | tup h1 h2 => exact ⟨_, .inr (.inl ⟨_, h1, rfl⟩), by rw [dp_empty h2]; exact q⟩
def gTru (g : Ro → M C) (ρ : Ro) : M Bool := (g ρ).bind oTru
theorem oTru_ok {x : V} {c : C} {Q : Bool → Prop} (rx : RC tp K H0 H x c) (h : wp0 (oTru c) Q) : ∃ k, TruV K x H k ∧ Q k := by
  unfold oTru at h
  split at h
  · rename_i d e
    exact tru_of (rx.dp e) h
  · exact h.elim
theorem rt_tru {ta : TE} {ga : Ro → M C} (ha : RE K ta ga) : RT K (tTru K ta) (gTru ga) := by
  intro tp He Hq ρ σ H Q rl h
  refine ha tp He Hq ρ σ H _ rl (wp0_mono (fun a h1 => ?_) (wp0_bind.mp h))
  intro x H1 g1 t1 rx
  obtain ⟨k, h2, h3⟩ := oTru_ok rx h1
  exact ⟨k, h2, h3 H1 g1 t1⟩
def oBl : C → M Bool
  | .val (.bool b) => .ret b
  | _ => .fail
def gTest (g : Ro → M C) (ρ : Ro) : M Bool := (g ρ).bind oBl
theorem oBl_ok {x : V} {c : C} {Q : Bool → Prop} (rx : RC tp K H0 H x c) (h : wp0 (oBl c) Q) : ∃ k, x = .bl k ∧ Q k := by
  unfold oBl at h
  split at h
  · cases rx.bl
    exact ⟨_, rfl, h⟩
  · exact h.elim
theorem rt_test {ta : TE} {ga : Ro → M C} (ha : RE K ta ga) : RT K (tTest ta) (gTest ga) := by
  intro tp He Hq ρ σ H Q rl h
  refine ha tp He Hq ρ σ H _ rl (wp0_mono (fun a h1 => ?_) (wp0_bind.mp h))
  intro x H1 g1 t1 rx
  obtain ⟨k, h2, h3⟩ := oBl_ok rx h1
  exact ⟨k, h2, h3 H1 g1 t1⟩
def gAnd (g1 g2 : Ro → M Bool) (ρ : Ro) : M Bool := (g1 ρ).bind fun b => if b = true then g2 ρ else .ret false
def gOr (g1 g2 : Ro → M Bool) (ρ : Ro) : M Bool := (g1 ρ).bind fun b => if b = true then .ret true else g2 ρ
def gNot (g1 : Ro → M Bool) (ρ : Ro) : M Bool := (g1 ρ).bind fun b => .ret (!b)
theorem rt_and {t u : TT} {g1 g2 : Ro → M Bool} (h1 : RT K t g1) (h2 : RT K u g2) : RT K (tAnd t u) (gAnd g1 g2) := by
  intro tp He Hq ρ σ H Q rl h
  refine h1 tp He Hq ρ σ H _ rl (wp0_mono (fun b hb => ?_) (wp0_bind.mp h))
  intro H1 e1 t1
  cases b with
  | true =>
    rw [if_pos rfl] at hb ⊢
    exact h2 tp He Hq ρ σ H1 _ (rl.go e1 t1) (wp0_mono (fun b hb H2 e2 t2 => hb H2 (e1.trans e2) t2) hb)
  | false =>
    rw [if_neg Bool.false_ne_true] at hb ⊢
    exact hb H1 e1 t1
theorem rt_or {t u : TT} {g1 g2 : Ro → M Bool} (h1 : RT K t g1) (h2 : RT K u g2) : RT K (tOr t u) (gOr g1 g2) := by
  intro tp He Hq ρ σ H Q rl h
  refine h1 tp He Hq ρ σ H _ rl (wp0_mono (fun b hb => ?_) (wp0_bind.mp h))
  intro H1 e1 t1
  cases b with
  | true =>
    rw [if_pos rfl] at hb ⊢
    exact hb H1 e1 t1
  | false =>
    rw [if_neg Bool.false_ne_true] at hb ⊢
    exact h2 tp He Hq ρ σ H1 _ (rl.go e1 t1) (wp0_mono (fun b hb H2 e2 t2 => hb H2 (e1.trans e2) t2) hb)
theorem rt_not {t : TT} {g1 : Ro → M Bool} (h1 : RT K t g1) : RT K (tNot t) (gNot g1) := by
  intro tp He Hq ρ σ H Q rl h
  refine h1 tp He Hq ρ σ H _ rl (wp0_mono (fun b hb => ?_) (wp0_bind.mp h))
  intro H1 e1 t1
  exact hb H1 e1 t1
/-! ### and, or, not, if as values -/
theorem andT (K : PySem.W.Frag) {X : Cx} {a b : Expr} {rest : List Expr} {pos : Pos} {ta tb : TE} (ha : PE X a ta) (hb : PE X (.BoolOp .And (b :: rest) pos) tb) (h : X.K = K := by rfl) : PE X (.BoolOp .And (a :: b :: rest) pos) (tAndT K ta tb) := h ▸ pe_andT ha hb
theorem orT (K : PySem.W.Frag) {X : Cx} {a b : Expr} {rest : List Expr} {pos : Pos} {ta tb : TE} (ha : PE X a ta) (hb : PE X (.BoolOp .Or (b :: rest) pos) tb) (h : X.K = K := by rfl) : PE X (.BoolOp .Or (a :: b :: rest) pos) (tOrT K ta tb) := h ▸ pe_orT ha hb
theorem notT (K : PySem.W.Frag) {X : Cx} {a : Expr} {pos : Pos} {ta : TE} (ha : PE X a ta) (h : X.K = K := by rfl) : PE X (.UnaryOp .Not a pos) (tNotT K ta) := h ▸ pe_notT ha
def gAndT (g1 g2 : Ro → M C) (ρ : Ro) : M C := (g1 ρ).bind fun c => (oTru c).bind fun b => if b = true then g2 ρ else .ret c
def gOrT (g1 g2 : Ro → M C) (ρ : Ro) : M C := (g1 ρ).bind fun c => (oTru c).bind fun b => if b = true then .ret c else g2 ρ
def gNotT (g1 : Ro → M C) (ρ : Ro) : M C := (g1 ρ).bind fun c => (oTru c).bind fun b => .ret (.val (.bool (!b)))
theorem Post.after {Q : VK} {c : C} (p : Post tp K H0 Q c) (g : GrT tp H0 H) (t : TOk tp H) : Post tp K H Q c := fun v H' g' t' r => p v H' (g.trans g') t' (r.base g t)
theorem re_and {ta tb : TE} {g1 g2 : Ro → M C} (h1 : RE K ta g1) (h2 : RE K tb g2) : RE K (tAndT K ta tb) (gAndT g1 g2) := by
  intro tp He Hq ρ σ H Q rl h
  refine h1 tp He Hq ρ σ H _ rl (wp0_mono (fun c hc => ?_) (wp0_bind.mp h))
  intro x H1 e1 t1 rx
  obtain ⟨k, h3, h4⟩ := oTru_ok rx (wp0_bind.mp hc)
  refine ⟨k, h3, ?_⟩
  cases k with
  | true =>
    rw [if_pos rfl] at h4 ⊢
    exact h2 tp He Hq ρ σ H1 _ (rl.go e1 t1) (wp0_mono (fun b hb => hb.after e1 t1) h4)
  | false =>
    rw [if_neg Bool.false_ne_true] at h4 ⊢
    exact h4 x H1 e1 t1 rx
theorem re_or {ta tb : TE} {g1 g2 : Ro → M C} (h1 : RE K ta g1) (h2 : RE K tb g2) : RE K (tOrT K ta tb) (gOrT g1 g2) := by
  intro tp He Hq ρ σ H Q rl h
  refine h1 tp He Hq ρ σ H _ rl (wp0_mono (fun c hc => ?_) (wp0_bind.mp h))
  intro x H1 e1 t1 rx
  obtain ⟨k, h3, h4⟩ := oTru_ok rx (wp0_bind.mp hc)
  refine ⟨k, h3, ?_⟩
  cases k with
  | true =>
    rw [if_pos rfl] at h4 ⊢
    exact h4 x H1 e1 t1 rx
  | false =>
    rw [if_neg Bool.false_ne_true] at h4 ⊢
    exact h2 tp He Hq ρ σ H1 _ (rl.go e1 t1) (wp0_mono (fun b hb => hb.after e1 t1) h4)
theorem re_not {ta : TE} {g1 : Ro → M C} (h1 : RE K ta g1) : RE K (tNotT K ta) (gNotT g1) := by
  intro tp He Hq ρ σ H Q rl h
  refine h1 tp He Hq ρ σ H _ rl (wp0_mono (fun c hc => ?_) (wp0_bind.mp h))
  intro x H1 e1 t1 rx
  obtain ⟨k, h3, h4⟩ := oTru_ok rx (wp0_bind.mp hc)
  exact ⟨k, h3, Post.bl h4 e1 t1⟩
def gIfE (gc : Ro → M Bool) (g1 g2 : Ro → M C) (ρ : Ro) : M C := (gc ρ).bind fun b => if b = true then g1 ρ else g2 ρ
theorem re_if {t : TT} {ta tb : TE} {gc : Ro → M Bool} {g1 g2 : Ro → M C} (hc : RT K t gc) (h1 : RE K ta g1) (h2 : RE K tb g2) : RE K (tIf t ta tb) (gIfE gc g1 g2) := by
  intro tp He Hq ρ σ H Q rl h
  refine hc tp He Hq ρ σ H _ rl (wp0_mono (fun b hb => ?_) (wp0_bind.mp h))
  intro H1 e1 t1
  cases b with
  | true =>
    rw [if_pos rfl] at hb ⊢
    exact h1 tp He Hq ρ σ H1 _ (rl.go e1 t1) (wp0_mono (fun b hb => hb.after e1 t1) hb)
  | false =>
    rw [if_neg Bool.false_ne_true] at hb ⊢
    exact h2 tp He Hq ρ σ H1 _ (rl.go e1 t1) (wp0_mono (fun b hb => hb.after e1 t1) hb)
/-! ### a < b < c -/
def gChain (o1 o2 : C → C → M C) (ga gb gc : Ro → M C) (ρ : Ro) : M C := (ga ρ).bind fun a => (gb ρ).bind fun b => (o1 a.lend b.lend).bind fun r => (oBl r).bind fun k => if k = true then (gc ρ).bind fun c => o2 b c else .ret (.val (.bool false))
theorem re_chain {r r' : R2} {o1 o2 : C → C → M C} {ta tb tc : TE} {ga gb gc : Ro → M C} (ho : OpS K r o1) (ho' : OpS K r' o2) (ha : RE K ta ga) (hb : RE K tb gb) (hc : RE K tc gc) : RE K (tChain r r' ta tb tc) (gChain o1 o2 ga gb gc) := by
  intro tp He Hq ρ σ H Q rl h
  refine ha tp He Hq ρ σ H _ rl (wp0_mono (fun a h1 => ?_) (wp0_bind.mp h))
  intro x H1 g1 t1 rx
  refine hb tp He Hq ρ σ H1 _ (rl.go g1 t1) (wp0_mono (fun b h2 => ?_) (wp0_bind.mp h1))
  intro y H2 g2 t2 ry
  refine ho tp H2 H2 x y a.lend b.lend _ .refl t2 (rx.gr g2 t1).lend ry.lend (wp0_mono (fun c h3 => ?_) (wp0_bind.mp h2))
  intro z H3 g3 t3 rz
  obtain ⟨k, e, h4⟩ := oBl_ok rz (wp0_bind.mp h3)
  refine ⟨k, e, ?_⟩
  cases k with
  | true =>
    rw [if_pos rfl] at h4 ⊢
    refine hc tp He Hq ρ σ H3 _ (((rl.go g1 t1).go g2 t2).go g3 t3) (wp0_mono (fun c h5 => ?_) (wp0_bind.mp h4))
    intro w H4 g4 t4 rw'
    exact ho' tp H H4 y w b c Q (g1.trans (g2.trans (g3.trans g4))) t4 ((ry.base g1 t1).gr (g3.trans g4) t2) (rw'.base (g1.trans (g2.trans g3)) t3) h5
  | false =>
    rw [if_neg Bool.false_ne_true] at h4 ⊢
    exact Post.bl h4 (g1.trans (g2.trans g3)) t3
/-! ### subscripts, slices -/
theorem ixU (K : PySem.W.Frag) {X : Cx} (h : X.K = K := by rfl) : IxR X (rIx K) := h ▸ ix_seq
def atD (ds : List PyData) (i : Int) : M C := match atI ds i with
  | some d => .ret (.val d)
  | none => .fail
def atS (z : Str) (i : Int) : M C := if lenOk z.length = true then (match atI z.cps.toList i with
  | some c => .ret (.val (.str ⟨#[c]⟩))
  | none => .fail) else .fail
def oIx (cx cy : C) : M C := match cy with
  | .val (.int i) => (match cx with
    | .val (.tuple ds) => atD ds i
    | .val (.str z) => atS z i
    | cx => (match cx.items with
      | some ds => atD ds i
      | none => .fail))
  | _ => .fail
theorem dp_at {vs : List V} {ds : List PyData} {i : Int} {d : PyData} (h : VlAll K H vs ds) (f : lfAll ds = true) (e : atI ds i = some d) : ∃ v, atI vs i = some v ∧ Vl K H v d ∧ lf d = true := by
  unfold atI at e ⊢
  rw [h.len]
  cases q : ixN ds.length i with
  | none => rw [q] at e; cases e
  | some j =>
    rw [q] at e
    obtain ⟨v, h1, h2⟩ := h.get (show ds[j]? = some d from e)
    exact ⟨v, h1, h2, lfAll_get f (show ds[j]? = some d from e)⟩
theorem atD_ok {vs : List V} {ds : List PyData} {i : Int} {Q : VK} (g : GrT tp H0 H) (t : TOk tp H) (h : VlAll K H vs ds) (f : lfAll ds = true) (q : wp0 (atD ds i) (Post tp K H0 Q)) : ∃ v, atI vs i = some v ∧ Q v H := by
  unfold atD at q
  split at q
  · rename_i d e
    obtain ⟨v, h1, h2, h3⟩ := dp_at h f e
    exact ⟨v, h1, Post.at_ q g t ⟨h2, h3⟩⟩
  · exact q.elim
theorem os_ix : OpS K (rIx K) oIx := by
  intro tp H0 H x y cx cy Q g t rx ry h
  unfold oIx at h
  split at h
  · rename_i i
    cases ry.int
    split at h
    · rename_i ds
      obtain ⟨a, vs, rfl, q1, q2, q3⟩ := rx.tup
      obtain ⟨v, e, q⟩ := atD_ok g t q2 q3 h
      exact .inr (.inl ⟨a, vs, i, v, rfl, rfl, q1, e, q⟩)
    · rename_i z
      cases rx.str
      unfold atS at h
      split at h
      · rename_i l
        split at h
        · rename_i c e
          exact .inr (.inr ⟨z, i, c, rfl, rfl, lenOk_le l, e, Post.str h g t⟩)
        · exact h.elim
      · exact h.elim
    · split at h
      · rename_i ds e
        obtain ⟨a, vs, rfl, q1, q2, q3⟩ := rx.rd e
        obtain ⟨v, e, q⟩ := atD_ok g t q2 q3 h
        exact .inl ⟨a, vs, i, v, rfl, rfl, .inl q1, e, q⟩
      · exact h.elim
  · exact h.elim
def RO (K : PySem.W.Frag) [WP K] (t : TO) (g : Ro → M (Option Int)) : Prop := ∀ tp He Hq ρ σ H (Q : Option Int → Hp → Prop), Rel tp K He Hq H σ ρ → wp0 (g ρ) (fun o => ∀ H', GrT tp H H' → TOk tp H' → Q o H') → t σ H Q
def gNo (_ : Ro) : M (Option Int) := .ret none
def oInt? : C → M (Option Int)
  | .val (.int i) => .ret (some i)
  | _ => .fail
def gSome (g : Ro → M C) (ρ : Ro) : M (Option Int) := (g ρ).bind oInt?
theorem ro_no : RO K tNoPart gNo := fun tp He Hq ρ σ H Q rl h => h H .refl rl.tok
theorem ro_some {t : TE} {g : Ro → M C} (h1 : RE K t g) : RO K (tPart t) (gSome g) := by
  intro tp He Hq ρ σ H Q rl h
  refine h1 tp He Hq ρ σ H _ rl (wp0_mono (fun c hc => ?_) (wp0_bind.mp h))
  intro x H1 g1 t1 rx
  unfold oInt? at hc
  split at hc
  · cases rx.int
    exact ⟨_, rfl, hc H1 g1 t1⟩
  · exact hc.elim
def cutD (ds : List PyData) (lo hi : Option Int) : List PyData := (ds.drop (HT.sIx ds.length 0 lo)).take (HT.sIx ds.length ds.length hi - HT.sIx ds.length 0 lo)
theorem dp_cut {vs : List V} {ds : List PyData} (h : VlAll K H vs ds) (lo hi : Option Int) : VlAll K H (cutV vs lo hi) (cutD ds lo hi) := by
  unfold cutV cutD
  rw [h.len]
  exact (h.drop _).take _
theorem lf_cut {ds : List PyData} (f : lfAll ds = true) (lo hi : Option Int) : lfAll (cutD ds lo hi) = true := lfAll_take _ (lfAll_drop _ f)
theorem cut_whole {ds : List PyData} {lo hi : Option Int} (h : HT.sIx ds.length 0 lo = 0 ∧ HT.sIx ds.length ds.length hi = ds.length) : cutD ds lo hi = ds := by
  unfold cutD
  rw [h.1, h.2, List.drop_zero, Nat.sub_zero, List.take_length]
def rSlU (K : PySem.W.Frag) : V → Option Int → Option Int → Hp → VK → Prop := fun x lo hi H Q => rSlL K x lo hi H Q ∨ rSlA K x lo hi H Q ∨ rSlS x lo hi H Q
theorem slU (K : PySem.W.Frag) {X : Cx} (h : X.K = K := by rfl) : SlR X (rSlU K) := h ▸ sl_list.or (sl_tupA.or sl_str)
def oSl (c : C) (lo hi : Option Int) : M C := match c with
  | .val (.tuple ds) => .ret (.val (.tuple (cutD ds lo hi)))
  | .val (.str z) => if lenOk z.length = true then .ret (.val (.str (cutS z lo hi))) else .fail
  | c => (match c.items with
    | some ds => .ret (.own (.lst (cutD ds lo hi)))
    | none => .fail)
def gSl (g : Ro → M C) (l u : Ro → M (Option Int)) (ρ : Ro) : M C := (g ρ).bind fun c => (l ρ).bind fun lo => (u ρ).bind fun hi => oSl c lo hi
theorem re_sl {te : TE} {tl th : TO} {g : Ro → M C} {l u : Ro → M (Option Int)} (h1 : RE K te g) (h2 : RO K tl l) (h3 : RO K th u) : RE K (tSl (rSlU K) te tl th) (gSl g l u) := by
  intro tp He Hq ρ σ H Q rl h
  refine h1 tp He Hq ρ σ H _ rl (wp0_mono (fun c hc => ?_) (wp0_bind.mp h))
  intro x H1 g1 t1 rx
  refine h2 tp He Hq ρ σ H1 _ (rl.go g1 t1) (wp0_mono (fun lo hlo => ?_) (wp0_bind.mp hc))
  intro H2 g2 t2
  refine h3 tp He Hq ρ σ H2 _ ((rl.go g1 t1).go g2 t2) (wp0_mono (fun hi hhi => ?_) (wp0_bind.mp hlo))
  intro H3 g3 t3
  have rx3 := (rx.gr g2 t1).gr g3 t2
  have g := g1.trans (g2.trans g3)
  unfold oSl at hhi
  split at hhi
  · rename_i ds
    obtain ⟨a, vs, rfl, q1, q2, q3⟩ := rx3.tup
    refine .inr (.inl ⟨a, vs, rfl, q1, fun e => ?_, fun _ p hp => Post.tup hhi g t3 hp (dp_cut q2 lo hi) (lf_cut q3 lo hi)⟩)
    rw [q2.len] at e
    rw [cut_whole e] at hhi
    exact Post.at_ hhi g t3 rx3
  · rename_i z
    cases rx3.str
    split at hhi
    · rename_i l
      exact .inr (.inr ⟨z, rfl, lenOk_le l, Post.str hhi g t3⟩)
    · exact hhi.elim
  · split at hhi
    · rename_i ds e
      obtain ⟨a, vs, rfl, q1, q2, q3⟩ := rx3.rd e
      exact .inl ⟨a, vs, rfl, .inl q1, fun p hp => Post.lst hhi g t3 hp (dp_cut q2 lo hi) (lf_cut q3 lo hi)⟩
    · exact hhi.elim
/-- t[a::2] -/
def gSl2 (g : Ro → M C) (l : Ro → M (Option Int)) (ρ : Ro) : M C := (g ρ).bind fun c => (l ρ).bind fun lo => match c with
  | .val (.tuple ds) => .ret (.val (.tuple (ev (ds.drop (HT.sIx ds.length 0 lo)))))
  | _ => .fail
theorem dp_ev : ∀ {vs : List V} {ds : List PyData}, VlAll K H vs ds → VlAll K H (ev vs) (ev ds)
  | [], _, h => by cases h; exact .nil
  | [_], _, h => by
    cases h with
    | cons h1 h2 => cases h2; exact .cons h1 .nil
  | _ :: _ :: vs, _, h => by
    cases h with
    | cons h1 h2 =>
      cases h2 with
      | cons h3 h4 => exact .cons h1 (dp_ev h4)
theorem lf_ev {ds : List PyData} (_ : lfAll ds = true) : lfAll (ev ds) = true := rfl
theorem re_sl2 {te : TE} {tl : TO} {g : Ro → M C} {l : Ro → M (Option Int)} (h1 : RE K te g) (h2 : RO K tl l) : RE K (tSl2 K te tl) (gSl2 g l) := by
  intro tp He Hq ρ σ H Q rl h
  refine h1 tp He Hq ρ σ H _ rl (wp0_mono (fun c hc => ?_) (wp0_bind.mp h))
  intro x H1 g1 t1 rx
  refine h2 tp He Hq ρ σ H1 _ (rl.go g1 t1) (wp0_mono (fun lo hlo => ?_) (wp0_bind.mp hc))
  intro H2 g2 t2
  have rx2 := rx.gr g2 t1
  split at hlo
  · rename_i ds
    obtain ⟨a, vs, rfl, q1, q2, q3⟩ := rx2.tup
    refine ⟨a, vs, rfl, q1, fun p hp => ?_⟩
    rw [q2.len]
    exact Post.tup hlo (g1.trans g2) t2 hp (dp_ev (q2.drop _)) (lf_ev (lfAll_drop _ q3))
  · exact hlo.elim
/-! ### calls of what is built in -/
def CallS (K : PySem.W.Frag) [WP K] (r : List V → Hp → VK → Prop) (op : List C → M C) : Prop := ∀ tp H0 H vs cs Q, GrT tp H0 H → TOk tp H → RCs tp K H0 H vs cs → wp0 (op cs) (Post tp K H0 Q) → r vs H Q
def gCall (op : List C → M C) (gs : Ro → M (List C)) (ρ : Ro) : M C := (gs ρ).bind op
theorem re_call {r : List V → Hp → VK → Prop} {op : List C → M C} {t : TA} {gs : Ro → M (List C)} (ho : CallS K r op) (h1 : RA K t gs) : RE K (tCB r t) (gCall op gs) := by
  intro tp He Hq ρ σ H Q rl h
  refine h1 tp He Hq ρ σ H _ rl (wp0_mono (fun cs hc => ?_) (wp0_bind.mp h))
  intro vs H1 g1 t1 rx
  exact ho tp H H1 vs cs Q g1 t1 rx hc
theorem RCs.one {vs : List V} {c : C} (h : RCs tp K H0 H vs [c]) : ∃ v, vs = [v] ∧ RC tp K H0 H v c := by
  cases vs with
  | nil => exact h.elim
  | cons v vs =>
    cases vs with
    | nil => exact ⟨v, rfl, h.1⟩
    | cons _ _ => exact h.2.elim
theorem RCs.two {vs : List V} {c d : C} (h : RCs tp K H0 H vs [c, d]) : ∃ v w, vs = [v, w] ∧ RC tp K H0 H v c ∧ RC tp K H0 H w d := by
  cases vs with
  | nil => exact h.elim
  | cons v vs =>
    obtain ⟨w, e, q⟩ := RCs.one h.2
    exact ⟨v, w, by rw [e], h.1, q⟩
/-- a call of one thing that is read as data -/
def o1 (f : PyData → M C) : List C → M C
  | [c] => (match c.dat with
    | some d => f d
    | none => .fail)
  | _ => .fail
theorem o1_ok {f : PyData → M C} {vs : List V} {cs : List C} {P : C → Prop} (r : RCs tp K H0 H vs cs) (h : wp0 (o1 f cs) P) : ∃ v d, vs = [v] ∧ Dp K H v d ∧ wp0 (f d) P := by
  unfold o1 at h
  split at h
  · obtain ⟨v, rfl, q⟩ := r.one
    split at h
    · rename_i d e
      exact ⟨v, d, rfl, q.dp e, h⟩
    · exact h.elim
  · exact h.elim
def lenD : PyData → M C
  | .str x => if lenOk x.length = true then .ret (.val (.int x.length)) else .fail
  | .tuple xs => .ret (.val (.int xs.length))
  | .list xs => .ret (.val (.int xs.length))
  | _ => .fail
abbrev oLen := o1 lenD
theorem cs_len : CallS K (rLen K) oLen := by
  intro tp H0 H vs cs Q g t r h
  obtain ⟨v, d, rfl, q, h⟩ := o1_ok r h
  cases q with
  | str x =>
    unfold lenD at h
    dsimp only at h
    split at h
    · rename_i l
      exact ⟨_, _, rfl, ⟨lenOk_le l, rfl⟩, Post.int h g t⟩
    · exact h.elim
  | tup h1 h2 => exact ⟨_, _, rfl, .inr ⟨_, h1, rfl⟩, by rw [h2.len]; exact Post.int h g t⟩
  | lst h1 h2 => exact ⟨_, _, rfl, .inl ⟨_, h1, rfl⟩, by rw [h2.len]; exact Post.int h g t⟩
  | non => exact h.elim
  | bl _ => exact h.elim
  | int _ => exact h.elim
def absD : PyData → M C
  | .int i => .ret (.val (.int (if i < 0 then -i else i)))
  | _ => .fail
abbrev oAbs := o1 absD
theorem cs_abs : CallS K (fun xs H Q => ∃ i, xs = [.int i] ∧ Q (.int (if i < 0 then -i else i)) H) oAbs := by
  intro tp H0 H vs cs Q g t r h
  obtain ⟨v, d, rfl, q, h⟩ := o1_ok r h
  cases q with
  | int i => exact ⟨i, rfl, Post.int h g t⟩
  | _ => exact h.elim
def intD : PyData → M C
  | .int i => .ret (.val (.int i))
  | .bool b => .ret (.val (.int (if b then 1 else 0)))
  | _ => .fail
abbrev oIntC := o1 intD
theorem cs_int : CallS K (fun xs H Q => (∃ i, xs = [.int i] ∧ Q (.int i) H) ∨ ∃ k, xs = [.bl k] ∧ Q (.int (if k then 1 else 0)) H) oIntC := by
  intro tp H0 H vs cs Q g t r h
  obtain ⟨v, d, rfl, q, h⟩ := o1_ok r h
  cases q with
  | int i => exact .inl ⟨i, rfl, Post.int h g t⟩
  | bl b => exact .inr ⟨b, rfl, Post.int h g t⟩
  | _ => exact h.elim
def strD : PyData → M C
  | .int i => if decide (i.natAbs.log2 < 1920) = true then .ret (.val (.str (toString i))) else .fail
  | _ => .fail
abbrev oStr := o1 strD
theorem cs_str : CallS K (fun xs H Q => ∃ i : Int, xs = [.int i] ∧ i.natAbs.log2 < 1920 ∧ Q (.str (toString i)) H) oStr := by
  intro tp H0 H vs cs Q g t r h
  obtain ⟨v, d, rfl, q, h⟩ := o1_ok r h
  cases q with
  | int i =>
    unfold strD at h
    dsimp only at h
    split at h
    · rename_i l
      exact ⟨i, rfl, of_decide_eq_true l, Post.str h g t⟩
    · exact h.elim
  | _ => exact h.elim
/-- what repr asks of data, as a test -/
def repOk (d : PyData) : Bool := plainD d && (decide (d.depth ≤ 40) && decide (cost d ≤ 16777216))
theorem repOk_of {d : PyData} (h : repOk d = true) : RepOk d := by
  simp only [repOk, Bool.and_eq_true, decide_eq_true_eq] at h
  exact ⟨h.1, h.2.1, by rw [show sizeLine = 16777216 by decide]; exact h.2.2⟩
def repD1 (d : PyData) : M C := if repOk d = true then .ret (.val (.str d.shown)) else .fail
abbrev oRepr := o1 repD1
theorem cs_repr : CallS K (rRepr K) oRepr := by
  intro tp H0 H vs cs Q g t r h
  obtain ⟨v, d, rfl, q, h⟩ := o1_ok r h
  unfold repD1 at h
  split at h
  · rename_i l
    exact repr_go q (repOk_of l) (Post.str h g t)
  · exact h.elim
/-! min and max -/
def oMax2 : List C → M C
  | [.val (.int i), .val (.int j)] => .ret (.val (.int (max i j)))
  | _ => .fail
def oMin2 : List C → M C
  | [.val (.int i), .val (.int j)] => .ret (.val (.int (min i j)))
  | _ => .fail
theorem cs_max2 : CallS K (fun xs H Q => ∃ i j : Int, xs = [.int i, .int j] ∧ Q (.int (if j > i then j else i)) H) oMax2 := by
  intro tp H0 H vs cs Q g t r h
  unfold oMax2 at h
  split at h
  · rename_i i j
    obtain ⟨v, w, rfl, q1, q2⟩ := r.two
    cases q1.int; cases q2.int
    refine ⟨i, j, rfl, ?_⟩
    rw [show (if j > i then j else i) = max i j by split <;> omega]
    exact Post.int h g t
  · exact h.elim
theorem cs_min2 : CallS K (fun xs H Q => ∃ i j : Int, xs = [.int i, .int j] ∧ Q (.int (if j < i then j else i)) H) oMin2 := by
  intro tp H0 H vs cs Q g t r h
  unfold oMin2 at h
  split at h
  · rename_i i j
    obtain ⟨v, w, rfl, q1, q2⟩ := r.two
    cases q1.int; cases q2.int
    refine ⟨i, j, rfl, ?_⟩
    rw [show (if j < i then j else i) = min i j by split <;> omega]
    exact Post.int h g t
  · exact h.elim
def intsOf : List PyData → Option (List Int)
  | [] => some []
  | .int i :: ds => (intsOf ds).map (i :: ·)
  | _ :: _ => none
theorem intsOf_map : ∀ ns : List Int, intsOf (ns.map PyData.int) = some ns
  | [] => rfl
  | n :: ns => by rw [List.map_cons, intsOf, intsOf_map ns]; rfl
theorem intsOf_dp : ∀ {vs : List V} {ds : List PyData} {ns : List Int}, DpAll K H vs ds → intsOf ds = some ns → vs = ns.map V.int
  | _, [], ns, h, e => by cases e; cases h; rfl
  | _, .int i :: ds, ns, h, e => by
    unfold intsOf at e
    cases q : intsOf ds with
    | none => rw [q] at e; cases e
    | some ms =>
      rw [q] at e
      cases e
      cases h with
      | cons h1 h2 =>
        cases h1
        rw [intsOf_dp h2 q]
        rfl
  | _, .none :: _, _, _, e => by cases e
  | _, .bool _ :: _, _, _, e => by cases e
  | _, .str _ :: _, _, _, e => by cases e
  | _, .list _ :: _, _, _, e => by cases e
  | _, .tuple _ :: _, _, _, e => by cases e
  | _, .dict _ :: _, _, _, e => by cases e
def maxL : List Int → Int
  | [] => 0
  | [x] => x
  | x :: y :: r => max x (maxL (y :: r))
def minL : List Int → Int
  | [] => 0
  | [x] => x
  | x :: y :: r => min x (minL (y :: r))
theorem maxL_mem : ∀ {ns : List Int}, 0 < ns.length → maxL ns ∈ ns ∧ ∀ y ∈ ns, y ≤ maxL ns
  | [x], _ => by simp [maxL]
  | x :: y :: r, _ => by
    obtain ⟨h1, h2⟩ := maxL_mem (ns := y :: r) (by simp)
    refine ⟨?_, fun z hz => ?_⟩
    · unfold maxL
      by_cases h : x ≤ maxL (y :: r)
      · rw [show max x (maxL (y :: r)) = maxL (y :: r) by omega]; exact List.mem_cons_of_mem _ h1
      · rw [show max x (maxL (y :: r)) = x by omega]; exact List.mem_cons_self
    · unfold maxL
      rcases List.mem_cons.mp hz with rfl | hz
      · omega
      · have := h2 z hz; omega
theorem minL_mem : ∀ {ns : List Int}, 0 < ns.length → minL ns ∈ ns ∧ ∀ y ∈ ns, minL ns ≤ y
  | [x], _ => by simp [minL]
  | x :: y :: r, _ => by
    obtain ⟨h1, h2⟩ := minL_mem (ns := y :: r) (by simp)
    refine ⟨?_, fun z hz => ?_⟩
    · unfold minL
      by_cases h : x ≤ minL (y :: r)
      · rw [show min x (minL (y :: r)) = x by omega]; exact List.mem_cons_self
      · rw [show min x (minL (y :: r)) = minL (y :: r) by omega]; exact List.mem_cons_of_mem _ h1
    · unfold minL
      rcases List.mem_cons.mp hz with rfl | hz
      · omega
      · have := h2 z hz; omega
def foldD (f : List Int → Int) (ne : Bool) : PyData → M C
  | .tuple ds => (match intsOf ds with
    | some ns => if (ne && ns.isEmpty) = true then .fail else .ret (.val (.int (f ns)))
    | none => .fail)
  | .list ds => (match intsOf ds with
    | some ns => if (ne && ns.isEmpty) = true then .fail else .ret (.val (.int (f ns)))
    | none => .fail)
  | _ => .fail
theorem foldD_ok {f : List Int → Int} {ne : Bool} {v : V} {d : PyData} {P : C → Prop} (q : Dp K H v d) (h : wp0 (foldD f ne d) P) : ∃ a ns, v = .ref a ∧ (SqL K H a (ns.map V.int) ∨ SqT K H a (ns.map V.int)) ∧ (ne = true → 0 < ns.length) ∧ P (.val (.int (f ns))) := by
  have go : ∀ {ns : List Int}, wp0 (if (ne && ns.isEmpty) = true then (.fail : M C) else .ret (.val (.int (f ns)))) P → (ne = true → 0 < ns.length) ∧ P (.val (.int (f ns))) := fun {ns} h => by
    split at h
    · exact h.elim
    · rename_i z
      refine ⟨fun e => ?_, h⟩
      subst e
      cases ns with
      | nil => simp at z
      | cons _ _ => simp
  cases q with
  | tup h1 h2 =>
    unfold foldD at h
    dsimp only at h
    split at h
    · rename_i ns e
      have := intsOf_dp h2 e
      subst this
      obtain ⟨a1, a2⟩ := go h
      exact ⟨_, ns, rfl, .inr h1, a1, a2⟩
    · exact h.elim
  | lst h1 h2 =>
    unfold foldD at h
    dsimp only at h
    split at h
    · rename_i ns e
      have := intsOf_dp h2 e
      subst this
      obtain ⟨a1, a2⟩ := go h
      exact ⟨_, ns, rfl, .inl h1, a1, a2⟩
    · exact h.elim
  | _ => exact h.elim
def rMaxU (K : PySem.W.Frag) : List V → Hp → VK → Prop := fun vs H Q => rMax K vs H Q ∨ rMaxT K vs H Q
def rMinU (K : PySem.W.Frag) : List V → Hp → VK → Prop := fun vs H Q => rMin K vs H Q ∨ rMinT K vs H Q
theorem CallR.or {X : Cx} {f : Value} {r r' : List V → Hp → VK → Prop} (h : CallR X f r) (h' : CallR X f r') : CallR X f (fun vs H Q => r vs H Q ∨ r' vs H Q) := by
  intro pins s σ H vs us Q I rv q
  rcases q with q | q
  · exact h pins s σ H vs us Q I rv q
  · exact h' pins s σ H vs us Q I rv q
theorem maxU (K : PySem.W.Frag) {X : Cx} (hc : X.calm = true) (h : X.K = K := by rfl) : CallR X (.builtin "max") (rMaxU K) := h ▸ CallR.or (cr_max hc) (cr_maxT hc)
theorem minU (K : PySem.W.Frag) {X : Cx} (hc : X.calm = true) (h : X.K = K := by rfl) : CallR X (.builtin "min") (rMinU K) := h ▸ CallR.or (cr_min hc) (cr_minT hc)
abbrev oMaxL := o1 (foldD maxL true)
abbrev oMinL := o1 (foldD minL true)
abbrev oSum := o1 (foldD List.sum false)
theorem cs_maxL : CallS K (rMaxU K) oMaxL := by
  intro tp H0 H vs cs Q g t r h
  obtain ⟨v, d, rfl, q, h⟩ := o1_ok r h
  obtain ⟨a, ns, rfl, hs, hn, p⟩ := foldD_ok q h
  have hn := hn rfl
  have fin : ∀ m, m ∈ ns → (∀ y, y ∈ ns → y ≤ m) → Q (.int m) H := fun m h1 h2 => by
    obtain ⟨b1, b2⟩ := maxL_mem hn
    have : m = maxL ns := Int.le_antisymm (b2 m h1) (h2 _ b1)
    rw [this]
    exact Post.int p g t
  rcases hs with hs | hs
  · exact .inl ⟨a, ns, rfl, hs, hn, fin⟩
  · exact .inr ⟨a, ns, rfl, hs, hn, fin⟩
theorem cs_minL : CallS K (rMinU K) oMinL := by
  intro tp H0 H vs cs Q g t r h
  obtain ⟨v, d, rfl, q, h⟩ := o1_ok r h
  obtain ⟨a, ns, rfl, hs, hn, p⟩ := foldD_ok q h
  have hn := hn rfl
  have fin : ∀ m, m ∈ ns → (∀ y, y ∈ ns → m ≤ y) → Q (.int m) H := fun m h1 h2 => by
    obtain ⟨b1, b2⟩ := minL_mem hn
    have : m = minL ns := Int.le_antisymm (h2 _ b1) (b2 m h1)
    rw [this]
    exact Post.int p g t
  rcases hs with hs | hs
  · exact .inl ⟨a, ns, rfl, hs, hn, fin⟩
  · exact .inr ⟨a, ns, rfl, hs, hn, fin⟩
/-- sum of a list (of a tuple: no rule) -/
def sumD : PyData → M C
  | .list ds => (match intsOf ds with
    | some ns => .ret (.val (.int ns.sum))
    | none => .fail)
  | _ => .fail
abbrev oSumL := o1 sumD
theorem cs_sum : CallS K (rSum K) oSumL := by
  intro tp H0 H vs cs Q g t r h
  obtain ⟨v, d, rfl, q, h⟩ := o1_ok r h
  cases q with
  | lst h1 h2 =>
    unfold sumD at h
    dsimp only at h
    split at h
    · rename_i ns e
      have := intsOf_dp h2 e
      subst this
      exact ⟨_, ns, rfl, h1, Post.int h g t⟩
    · exact h.elim
  | _ => exact h.elim
def blsOf : List PyData → Option (List Bool)
  | [] => some []
  | .bool i :: ds => (blsOf ds).map (i :: ·)
  | _ :: _ => none
theorem blsOf_dp : ∀ {vs : List V} {ds : List PyData} {ns : List Bool}, DpAll K H vs ds → blsOf ds = some ns → vs = ns.map V.bl
  | _, [], ns, h, e => by cases e; cases h; rfl
  | _, .bool i :: ds, ns, h, e => by
    unfold blsOf at e
    cases q : blsOf ds with
    | none => rw [q] at e; cases e
    | some ms =>
      rw [q] at e
      cases e
      cases h with
      | cons h1 h2 =>
        cases h1
        rw [blsOf_dp h2 q]
        rfl
  | _, .none :: _, _, _, e => by cases e
  | _, .int _ :: _, _, _, e => by cases e
  | _, .str _ :: _, _, _, e => by cases e
  | _, .list _ :: _, _, _, e => by cases e
  | _, .tuple _ :: _, _, _, e => by cases e
  | _, .dict _ :: _, _, _, e => by cases e
theorem blsOf_map : ∀ ns : List Bool, blsOf (ns.map PyData.bool) = some ns
  | [] => rfl
  | n :: ns => by rw [List.map_cons, blsOf, blsOf_map ns]; rfl
def bigD (f : List Bool → Bool) : PyData → M C
  | .list ds => (match blsOf ds with
    | some ns => .ret (.val (.bool (f ns)))
    | none => .fail)
  | _ => .fail
abbrev oAny := o1 (bigD fun bs => bs.any id)
abbrev oAll := o1 (bigD fun bs => bs.all id)
theorem cs_any : CallS K (rAny K) oAny := by
  intro tp H0 H vs cs Q g t r h
  obtain ⟨v, d, rfl, q, h⟩ := o1_ok r h
  cases q with
  | lst h1 h2 =>
    unfold bigD at h
    dsimp only at h
    split at h
    · rename_i ns e
      have := blsOf_dp h2 e
      subst this
      exact ⟨_, ns, rfl, h1, Post.bl h g t⟩
    · exact h.elim
  | _ => exact h.elim
theorem cs_all : CallS K (rAll K) oAll := by
  intro tp H0 H vs cs Q g t r h
  obtain ⟨v, d, rfl, q, h⟩ := o1_ok r h
  cases q with
  | lst h1 h2 =>
    unfold bigD at h
    dsimp only at h
    split at h
    · rename_i ns e
      have := blsOf_dp h2 e
      subst this
      exact ⟨_, ns, rfl, h1, Post.bl h g t⟩
    · exact h.elim
  | _ => exact h.elim
theorem anyK (K : PySem.W.Frag) {X : Cx} (hc : X.calm = true) (h : X.K = K := by rfl) : CallR X (.builtin "any") (rAny K) := h ▸ cr_any hc
theorem allK (K : PySem.W.Frag) {X : Cx} (hc : X.calm = true) (h : X.K = K := by rfl) : CallR X (.builtin "all") (rAll K) := h ▸ cr_all hc
/-! list(x), tuple(x) -/
def oListC : List C → M C
  | [.val (.tuple ds)] => .ret (.own (.lst ds))
  | [c] => (match c.items with
    | some ds => .ret (.own (.lst ds))
    | none => .fail)
  | _ => .fail
def oTupC : List C → M C
  | [.val (.tuple ds)] => .ret (.val (.tuple ds))
  | [c] => (match c.items with
    | some ds => .ret (.val (.tuple ds))
    | none => .fail)
  | _ => .fail
theorem cs_list : CallS K (rListOf K) oListC := by
  intro tp H0 H vs cs Q g t r h
  unfold oListC at h
  split at h
  · obtain ⟨v, rfl, q⟩ := r.one
    obtain ⟨a, us, rfl, q1, q2, q3⟩ := q.tup
    exact ⟨a, us, rfl, .inr q1, fun p hp => Post.lst h g t hp q2 q3⟩
  · obtain ⟨v, rfl, q⟩ := r.one
    split at h
    · rename_i ds e
      obtain ⟨a, us, rfl, q1, q2, q3⟩ := q.rd e
      exact ⟨a, us, rfl, .inl (.inl q1), fun p hp => Post.lst h g t hp q2 q3⟩
    · exact h.elim
  · exact h.elim
theorem cs_tuple : CallS K (rTupOf K) oTupC := by
  intro tp H0 H vs cs Q g t r h
  unfold oTupC at h
  split at h
  · obtain ⟨v, rfl, q⟩ := r.one
    obtain ⟨a, us, rfl, q1, q2, q3⟩ := q.tup
    exact ⟨a, us, rfl, .inr ⟨q1, Post.at_ h g t q⟩⟩
  · obtain ⟨v, rfl, q⟩ := r.one
    split at h
    · rename_i ds e
      obtain ⟨a, us, rfl, q1, q2, q3⟩ := q.rd e
      exact ⟨a, us, rfl, .inl ⟨.inl q1, fun p hp => Post.tup h g t hp q2 q3⟩⟩
    · exact h.elim
  · exact h.elim
/-! math.gcd -/
def oGcd : List C → M C
  | [.val (.int i), .val (.int j)] => .ret (.val (.int ((Nat.gcd i.natAbs j.natAbs : Nat) : Int)))
  | _ => .fail
theorem cs_gcd : CallS K rGcd oGcd := by
  intro tp H0 H vs cs Q g t r h
  unfold oGcd at h
  split at h
  · rename_i i j
    obtain ⟨v, w, rfl, q1, q2⟩ := r.two
    cases q1.int; cases q2.int
    exact ⟨i, j, rfl, Post.int h g t⟩
  · exact h.elim
/-! isinstance(x, T), x flat -/
def isiD (T : String) : PyData → M C
  | .none => (match kitB "NoneType" T with | some b => .ret (.val (.bool b)) | none => .fail)
  | .bool _ => (match kitB "bool" T with | some b => .ret (.val (.bool b)) | none => .fail)
  | .int _ => (match kitB "int" T with | some b => .ret (.val (.bool b)) | none => .fail)
  | .str _ => (match kitB "str" T with | some b => .ret (.val (.bool b)) | none => .fail)
  | _ => .fail
end
end Cs

set_option maxRecDepth 100000
set_option maxHeartbeats 4000000
/-! statements, loops, comprehensions, defs -/
namespace Cs
open PySem PySem.Spec PyProof.Rows L2
inductive Res where
  | nx (ρ : Ro)
  | rt (c : C)
  | bk (ρ : Ro)
  | ct (ρ : Ro)
section
variable {tp : Option (Addr × Addr)} {K : PySem.W.Frag} [WP K] {H H' H'' H0 H1 He : Hp} {Hq : Hp} {σ : L2.St} {ρ : Ro}
def NxOk (tp : Option (Addr × Addr)) (K : PySem.W.Frag) [WP K] (He Hq : Hp) (F : L2.St → Hp → Prop) (ρ : Ro) : Prop := ∀ σ' H' Hq', GrT tp Hq Hq' → Rel tp K He Hq' H' σ' ρ → F σ' H'
def PostS (tp : Option (Addr × Addr)) (K : PySem.W.Frag) [WP K] (He Hq : Hp) (D : Ends) : Res → Prop
  | .nx ρ => NxOk tp K He Hq D.nx ρ
  | .bk ρ => NxOk tp K He Hq D.bk ρ
  | .ct ρ => NxOk tp K He Hq D.ct ρ
  | .rt c => ∀ v H', GrT tp He H' → TOk tp H' → RC tp K He H' v c → D.rt v H'
def RS (K : PySem.W.Frag) [WP K] (t : TS) (m : Ro → M Res) : Prop := ∀ tp He Hq ρ σ H D, Rel tp K He Hq H σ ρ → wp0 (m ρ) (PostS tp K He Hq D) → t D σ H
theorem NxOk.mono {F : L2.St → Hp → Prop} {Hq2 : Hp} (h : NxOk tp K He Hq F ρ) (g : GrT tp Hq Hq2) : NxOk tp K He Hq2 F ρ := fun σ' H' Hq' g' r => h σ' H' Hq' (g.trans g') r
theorem PostS.mono {D : Ends} {Hq2 : Hp} {r : Res} (h : PostS tp K He Hq D r) (g : GrT tp Hq Hq2) : PostS tp K He Hq2 D r := by
  cases r with
  | nx ρ => exact NxOk.mono h g
  | bk ρ => exact NxOk.mono h g
  | ct ρ => exact NxOk.mono h g
  | rt c => exact h
/-! ### blocks -/
def mNext (ρ : Ro) : M Res := .ret (.nx ρ)
def mSeq (m n : Ro → M Res) (ρ : Ro) : M Res := (m ρ).bind fun r => match r with
  | .nx ρ' => n ρ'
  | r => .ret r
def mBreak (ρ : Ro) : M Res := .ret (.bk ρ)
def mCont (ρ : Ro) : M Res := .ret (.ct ρ)
theorem rs_next : RS K tNext mNext := fun tp He Hq ρ σ H D r h => h σ H Hq .refl r
theorem rs_break : RS K tBreak mBreak := fun tp He Hq ρ σ H D r h => h σ H Hq .refl r
theorem rs_cont : RS K tCont mCont := fun tp He Hq ρ σ H D r h => h σ H Hq .refl r
theorem rs_seq {t u : TS} {m n : Ro → M Res} (h1 : RS K t m) (h2 : RS K u n) : RS K (tSeq t u) (mSeq m n) := by
  intro tp He Hq ρ σ H D r h
  refine h1 tp He Hq ρ σ H _ r (wp0_mono (fun q hq => ?_) (wp0_bind.mp h))
  cases q with
  | nx ρ' => exact fun σ' H' Hq' g' r' => h2 tp He Hq' ρ' σ' H' D r' (wp0_mono (fun q hq => hq.mono g') hq)
  | bk ρ' => exact hq
  | ct ρ' => exact hq
  | rt c => exact hq
def mDrop (g : Ro → M C) (ρ : Ro) : M Res := (g ρ).bind fun _ => .ret (.nx ρ)
theorem rs_drop {te : TE} {g : Ro → M C} (h1 : RE K te g) : RS K (tDrop te) (mDrop g) := by
  intro tp He Hq ρ σ H D r h
  refine h1 tp He Hq ρ σ H _ r (wp0_mono (fun c hc => ?_) (wp0_bind.mp h))
  intro x H1 g1 t1 rx
  exact hc σ H1 Hq .refl (r.go g1 t1)
def mRet (g : Ro → M C) (ρ : Ro) : M Res := (g ρ).bind fun c => .ret (.rt c)
theorem rs_ret {te : TE} {g : Ro → M C} (h1 : RE K te g) : RS K (tRet te) (mRet g) := by
  intro tp He Hq ρ σ H D r h
  refine h1 tp He Hq ρ σ H _ r (wp0_mono (fun c hc => ?_) (wp0_bind.mp h))
  intro x H1 g1 t1 rx
  exact hc x H1 ((r.sub.trans r.gr).trans g1) t1 (rx.base (r.sub.trans r.gr) r.tok)
/-- return of a name: what is the def's own is handed over -/
def mRetV (i : Nat) (ρ : Ro) : M Res := match ρ[i]? with
  | some (some c) => .ret (.rt c)
  | _ => .fail
theorem rs_retV {i : Nat} : RS K (tRet (tVar i)) (mRetV i) := by
  intro tp He Hq ρ σ H D r h
  unfold mRetV at h
  split at h
  · rename_i c e
    obtain ⟨v, h1, h2⟩ := r.at_ i c e
    refine ⟨v, h1, h v H (r.sub.trans r.gr) r.tok ?_⟩
    cases c with
    | val d => exact h2
    | own o =>
      obtain ⟨a, e, f, n, h⟩ := h2
      refine ⟨a, e, ?_, n, h⟩
      cases q : He a with
      | none => rfl
      | some o =>
        rw [r.sub a o q n.ne] at f
        cases f
    | bor o =>
      obtain ⟨a, e, h⟩ := h2
      exact ⟨a, e, r.bor h⟩
    | tape => exact h2
  · exact h.elim
def mRetN (_ : Ro) : M Res := .ret (.rt (.val .none))
theorem rs_retN : RS K tRetN mRetN := fun tp He Hq ρ σ H D r h => h .non H (r.sub.trans r.gr) r.tok ⟨.non, rfl⟩
def mIf (gc : Ro → M Bool) (m n : Ro → M Res) (ρ : Ro) : M Res := (gc ρ).bind fun b => if b = true then m ρ else n ρ
theorem rs_if {c : TT} {t u : TS} {gc : Ro → M Bool} {m n : Ro → M Res} (hc : RT K c gc) (h1 : RS K t m) (h2 : RS K u n) : RS K (tIfS c t u) (mIf gc m n) := by
  intro tp He Hq ρ σ H D r h
  refine hc tp He Hq ρ σ H _ r (wp0_mono (fun b hb => ?_) (wp0_bind.mp h))
  intro H1 g1 t1
  cases b with
  | true =>
    rw [if_pos rfl] at hb ⊢
    exact h1 tp He Hq ρ σ H1 D (r.go g1 t1) hb
  | false =>
    rw [if_neg Bool.false_ne_true] at hb ⊢
    exact h2 tp He Hq ρ σ H1 D (r.go g1 t1) hb
/-! ### targets -/
def asgR (i : Nat) (c : C) (ρ : Ro) : M Ro := match ρ[i]? with
  | some _ => (match c with
    | .val d => .ret (ρ.set i (some (.val d)))
    | .own o => .ret (ρ.set i (some (.own o)))
    | _ => .fail)
  | none => .fail
theorem Rel.put {v : V} {c : C} {i : Nat} (r : Rel tp K He Hq H σ ρ) (s : SR tp K Hq H v c) (d : ∀ (a : Addr) (o : PO), c = .own o → v = .ref a → ∀ (j : Nat) (o' : PO), ρ[j]? = some (some (.own o')) → σ[j]? ≠ some (some (.ref a))) :
    Rel tp K He Hq H (σ.set i (some v)) (ρ.set i (some c)) := by
  refine ⟨by rw [List.length_set, List.length_set, r.len], fun j c' e => ?_, fun j k a o o' e1 e2 e3 e4 => ?_, r.sub, r.gr, r.tok, r.he⟩
  · by_cases hij : i = j
    · subst hij
      have hl : i < ρ.length := by
        have := (List.getElem?_eq_some_iff.mp e).1
        rwa [List.length_set] at this
      rw [List.getElem?_set_self hl] at e
      cases e
      exact ⟨v, List.getElem?_set_self (by rw [r.len]; exact hl), s⟩
    · rw [List.getElem?_set_ne hij] at e
      obtain ⟨u, h1, h2⟩ := r.at_ j c' e
      exact ⟨u, by rw [List.getElem?_set_ne hij]; exact h1, h2⟩
  · by_cases hij : i = j
    · subst hij
      by_cases hik : i = k
      · exact hik
      · have hl : i < ρ.length := by
          have := (List.getElem?_eq_some_iff.mp e1).1
          rwa [List.length_set] at this
        rw [List.getElem?_set_self hl] at e1
        rw [List.getElem?_set_self (by rw [r.len]; exact hl)] at e3
        rw [List.getElem?_set_ne hik] at e2 e4
        have e1' : c = .own o := by simpa using e1
        have e3' : v = .ref a := by simpa using e3
        exact absurd e4 (d a o e1' e3' k o' e2)
    · rw [List.getElem?_set_ne hij] at e1 e3
      by_cases hik : i = k
      · subst hik
        have hl : i < ρ.length := by
          have := (List.getElem?_eq_some_iff.mp e2).1
          rwa [List.length_set] at this
        rw [List.getElem?_set_self hl] at e2
        rw [List.getElem?_set_self (by rw [r.len]; exact hl)] at e4
        have e2' : c = .own o' := by simpa using e2
        have e4' : v = .ref a := by simpa using e4
        exact absurd e3 (d a o' e2' e4' j o e1)
      · rw [List.getElem?_set_ne hik] at e2 e4
        exact r.dist j k a o o' e1 e2 e3 e4
/-- only the slots sl are stored to -/
def Off (sl : List Nat) (σ σ' : L2.St) : Prop := σ'.length = σ.length ∧ ∀ j : Nat, j ∉ sl → σ'[j]? = σ[j]?
theorem Off.refl {sl : List Nat} {σ : L2.St} : Off sl σ σ := ⟨rfl, fun _ _ => rfl⟩
theorem Off.trans {s1 s2 : List Nat} {σ σ1 σ2 : L2.St} (h : Off s1 σ σ1) (q : Off s2 σ1 σ2) : Off (s1 ++ s2) σ σ2 :=
  ⟨q.1.trans h.1, fun j hj => by
    simp only [List.mem_append, not_or] at hj
    rw [q.2 j hj.2, h.2 j hj.1]⟩
def RG (K : PySem.W.Frag) [WP K] (g : TG) (a : C → Ro → M Ro) (sl : List Nat) : Prop := ∀ tp He Hq ρ σ Hb H v c (Q : L2.St → Hp → Prop), Rel tp K He Hq Hb σ ρ → GrT tp Hb H → TOk tp H → RC tp K Hb H v c → wp0 (a c ρ) (fun ρ' => ∀ σ', Off sl σ σ' → Rel tp K He Hq H σ' ρ' → Q σ' H) → g v σ H Q
theorem RC.sr {Hb : Hp} {v : V} {c : C} (r : Rel tp K He Hq Hb σ ρ) (h : RC tp K Hb H v c) (n : ∀ o, c ≠ .bor o) : SR tp K Hq H v c := by
  cases c with
  | val d => exact h
  | own o =>
    obtain ⟨a, e, f, k, h⟩ := h
    exact ⟨a, e, r.gr.free r.tok f, k, h⟩
  | bor o => exact absurd rfl (n o)
  | tape => exact h
theorem rg_name {i : Nat} : RG K (gName i) (asgR i) [i] := by
  have off : ∀ {σ : L2.St} {v : V}, Off [i] σ (σ.set i (some v)) := fun {σ v} => ⟨List.length_set, fun j hj => List.getElem?_set_ne (fun z => hj (by simp [z]))⟩
  intro tp He Hq ρ σ Hb H v c Q r g t rc h
  unfold asgR at h
  split at h
  · split at h
    · rename_i d
      exact h _ off ((r.go g t).put (rc.sr r (fun _ z => by cases z)) (fun _ _ z => by cases z))
    · rename_i o
      refine h _ off ((r.go g t).put (rc.sr r (fun _ z => by cases z)) (fun a o2 z e j o' hj hs => ?_))
      obtain ⟨a', e', f, n, q⟩ := rc
      obtain ⟨u, hu, hr⟩ := r.at_ j _ hj
      obtain ⟨b, eb, _, _, qb⟩ := hr
      rw [hs] at hu
      cases hu
      cases eb
      rw [e] at e'
      cases e'
      cases o' with
      | lst ds =>
        obtain ⟨vs, h1, _⟩ := qb
        rw [f] at h1
        cases h1
      | dT ds =>
        obtain ⟨vs, h1, _⟩ := qb
        rw [f] at h1
        cases h1
      | dK ds =>
        obtain ⟨vs, h1, _⟩ := qb
        rw [f] at h1
        cases h1
      | lT ds =>
        exact qb.elim
      | xo x =>
        obtain ⟨φ, h1⟩ := OwnX.ext qb
        rw [f] at h1
        cases h1
    · exact h.elim
  · exact h.elim
def RGs (K : PySem.W.Frag) [WP K] (g : TGs) (a : List PyData → Ro → M Ro) (sl : List Nat) : Prop := ∀ tp He Hq ρ σ H vs ds (Q : L2.St → Hp → Prop), Rel tp K He Hq H σ ρ → VlAll K H vs ds → lfAll ds = true → wp0 (a ds ρ) (fun ρ' => ∀ σ', Off sl σ σ' → Rel tp K He Hq H σ' ρ' → Q σ' H) → g vs σ H Q
def aNil : List PyData → Ro → M Ro
  | [], ρ => .ret ρ
  | _, _ => .fail
def aCons (a : C → Ro → M Ro) (as : List PyData → Ro → M Ro) : List PyData → Ro → M Ro
  | d :: ds, ρ => (a (.val d) ρ).bind fun ρ' => as ds ρ'
  | [], _ => .fail
def aTup (n : Nat) (as : List PyData → Ro → M Ro) : C → Ro → M Ro
  | .val (.tuple ds), ρ => if ds.length = n then as ds ρ else .fail
  | _, _ => .fail
theorem rgs_nil : RGs K gNil aNil [] := by
  intro tp He Hq ρ σ H vs ds Q r hd f h
  unfold aNil at h
  split at h
  · cases hd
    exact ⟨rfl, h σ .refl r⟩
  · exact h.elim
theorem rgs_cons {g : TG} {gs : TGs} {a : C → Ro → M Ro} {as : List PyData → Ro → M Ro} {s1 s2 : List Nat} (h1 : RG K g a s1) (h2 : RGs K gs as s2) : RGs K (gCons g gs) (aCons a as) (s1 ++ s2) := by
  intro tp He Hq ρ σ H vs ds Q r hd f h
  unfold aCons at h
  split at h
  · rename_i d ds
    simp only [lfAll, Bool.and_eq_true] at f
    cases hd with
    | cons q1 q2 =>
      refine ⟨_, _, rfl, h1 tp He Hq ρ σ H H _ (.val d) _ r .refl r.tok ⟨q1, rfl⟩ (wp0_mono (fun ρ' hρ => ?_) (wp0_bind.mp h))⟩
      intro σ' o' r'
      exact h2 tp He Hq ρ' σ' H _ ds Q r' q2 rfl (wp0_mono (fun ρ2 h2 σ2 o2 r2 => h2 σ2 (o'.trans o2) r2) hρ)
  · exact h.elim
theorem rg_tup {n : Nat} {gs : TGs} {as : List PyData → Ro → M Ro} {sl : List Nat} (h2 : RGs K gs as sl) : RG K (gTup K n gs) (aTup n as) sl := by
  intro tp He Hq ρ σ Hb H v c Q r g t rc h
  unfold aTup at h
  split at h
  · rename_i ds
    obtain ⟨a, vs, rfl, q1, q2, q3⟩ := rc.tup
    split at h
    · rename_i e
      exact ⟨a, vs, rfl, q1, by rw [q2.len]; exact e, h2 tp He Hq ρ σ H vs ds Q (r.go g t) q2 q3 h⟩
    · exact h.elim
  · exact h.elim
def mAsg (g : Ro → M C) (a : C → Ro → M Ro) (ρ : Ro) : M Res := (g ρ).bind fun c => (a c ρ).bind fun ρ' => .ret (.nx ρ')
theorem rs_asg {te : TE} {g : TG} {ge : Ro → M C} {a : C → Ro → M Ro} {sl : List Nat} (h1 : RE K te ge) (h2 : RG K g a sl) : RS K (tAsg te g) (mAsg ge a) := by
  intro tp He Hq ρ σ H D r h
  refine h1 tp He Hq ρ σ H _ r (wp0_mono (fun c hc => ?_) (wp0_bind.mp h))
  intro x H1 g1 t1 rx
  exact h2 tp He Hq ρ σ H H1 x c _ r g1 t1 rx (wp0_mono (fun ρ' hρ σ' _ r' => hρ σ' H1 Hq .refl r') (wp0_bind.mp hc))
/-- a, b = x, y -/
def mPar (i j : Nat) (gs : Ro → M (List C)) (ρ : Ro) : M Res := (gs ρ).bind fun cs => match cs with
  | [c, d] => (asgR i c ρ).bind fun ρ1 => (match d with
    | .own _ => (.fail : M Res)
    | d => (asgR j d ρ1).bind fun ρ2 => .ret (.nx ρ2))
  | _ => .fail
theorem rs_par {i j : Nat} {ta : TA} {gs : Ro → M (List C)} (h1 : RA K ta gs) : RS K (tPar2 i j ta) (mPar i j gs) := by
  intro tp He Hq ρ σ H D r h
  refine h1 tp He Hq ρ σ H _ r (wp0_mono (fun cs hc => ?_) (wp0_bind.mp h))
  intro vs H1 g1 t1 rx
  split at hc
  · rename_i c d
    obtain ⟨v, w, rfl, q1, q2⟩ := rx.two
    refine ⟨v, w, rfl, rg_name tp He Hq ρ σ H H1 v c _ r g1 t1 q1 (wp0_mono (fun ρ1 h2 σ1 _ r1 => ?_) (wp0_bind.mp hc))⟩
    split at h2
    · exact h2.elim
    · rename_i n
      have q3 : RC tp K H1 H1 w d := by
        cases d with
        | own o => exact absurd rfl (n o)
        | val d => exact q2
        | bor d => exact q2
        | tape => exact q2
      exact rg_name tp He Hq ρ1 σ1 H1 H1 w d _ r1 .refl t1 q3 (wp0_mono (fun ρ2 h3 σ2 _ r2 => h3 σ2 H1 Hq .refl r2) (wp0_bind.mp h2))
  · exact hc.elim
/-! ### a list of one's own is changed -/
def setOwn (i : Nat) (ds : List PyData) (ρ : Ro) : Ro := ρ.set i (some (.own (.lst ds)))
theorem Rel.own {i : Nat} {ds ds' : List PyData} {vs' : List V} (r : Rel tp K He Hq H σ ρ) (e : ρ[i]? = some (some (.own (.lst ds)))) : ∃ a vs, σ[i]? = some (some (.ref a)) ∧ H a = some (.lst vs) ∧ VlAll K H vs ds ∧ lfAll ds = true ∧
    (∀ vs' ds', VlAll K H vs' ds' → lfAll ds' = true → Rel tp K He Hq (upd H a (.lst vs')) σ (setOwn i ds' ρ)) := by
  obtain ⟨v, h1, a, e2, f, n, vs, h2, h3, h4⟩ := r.at_ i _ e
  subst e2
  refine ⟨a, vs, h1, h2, h3, h4, fun vs' ds' hd hf => ?_⟩
  have im : Im H (upd H a (.lst vs')) := Im.set h2
  have hl : i < ρ.length := (List.getElem?_eq_some_iff.mp e).1
  refine ⟨by unfold setOwn; rw [List.length_set, r.len], fun j c ej => ?_, fun j k b o o' e1 e2 e3 e4 => ?_, r.sub, fun b o eb nb => ?_, fun t l et => ?_, r.he⟩
  · unfold setOwn at ej
    by_cases hij : i = j
    · subst hij
      rw [List.getElem?_set_self hl] at ej
      cases ej
      exact ⟨_, h1, a, rfl, f, n, vs', upd_same, hd.imlf im ds' _ hf, hf⟩
    · rw [List.getElem?_set_ne hij] at ej
      obtain ⟨u, q1, q2⟩ := r.at_ j c ej
      refine ⟨u, q1, ?_⟩
      cases c with
      | val d => exact ⟨q2.1.imlf im d _ q2.2, q2.2⟩
      | own o =>
        obtain ⟨b, eb, fb, nb, q⟩ := q2
        have hne : b ≠ a := fun z => by
          subst z
          subst eb
          exact hij (r.dist i j b _ _ e ej h1 q1)
        refine ⟨b, eb, fb, nb, ?_⟩
        cases o with
        | lst es =>
          obtain ⟨us, p1, p2, p3⟩ := q
          exact ⟨us, by rw [upd_ne hne]; exact p1, p2.imlf im es _ p3, p3⟩
        | dT es =>
          obtain ⟨us, p1, p2, p3⟩ := q
          exact ⟨us, by rw [upd_ne hne]; exact p1, p2.imlf im es _ p3, p3⟩
        | dK es =>
          obtain ⟨us, p1, p2, p3⟩ := q
          exact ⟨us, by rw [upd_ne hne]; exact p1, p2.imlf im es _ p3, p3⟩
        | lT es =>
          exact q.elim
        | xo x => exact OwnX.to q im fun φ e => by rw [upd_ne hne]; exact e
      | bor o => exact q2
      | tape => exact q2
  · have own_of : ∀ {m : Nat} {o : PO}, (setOwn i ds' ρ)[m]? = some (some (.own o)) → ∃ o, ρ[m]? = some (some (.own o)) := fun {m o} em => by
      unfold setOwn at em
      by_cases him : i = m
      · subst him; exact ⟨_, e⟩
      · rw [List.getElem?_set_ne him] at em; exact ⟨_, em⟩
    obtain ⟨o1, e1'⟩ := own_of e1
    obtain ⟨o2, e2'⟩ := own_of e2
    exact r.dist j k b o1 o2 e1' e2' e3 e4
  · have hne : b ≠ a := fun z => by subst z; rw [f] at eb; cases eb
    rw [upd_ne hne]
    exact r.gr b o eb nb
  · exact (r.tok t l et).upd (n t l et).1 (n t l et).2
end
end Cs

set_option maxRecDepth 100000
set_option maxHeartbeats 4000000
/-! what is walked; for, while, comprehensions -/
namespace Cs
open PySem PySem.Spec PyProof.Rows L2
/-- a list, a tuple or a text, walked -/
def iSeq (K : PySem.W.Frag) (tl : TE) : TI := fun σ H R => tl σ H fun x H1 => (∃ a, x = .ref a ∧ (∃ xs, SqL K H1 a xs) ∧ R (Itl K a) H1) ∨ (∃ a, x = .ref a ∧ (∃ xs, SqT K H1 a xs) ∧ R (Itt K a) H1) ∨ (∃ z, x = .str z ∧ R (Its z) H1)
theorem pi_seq (K : PySem.W.Frag) {X : Cx} {tg l : Expr} {tl : TE} (hl : PE X l tl) (h : X.K = K := by rfl) : PI X tg l (iSeq K tl) := by
  subst h
  refine ⟨fun pins s σ H R I h => ?_⟩
  refine thn (hl.run pins s σ H _ I h) fun v s1 ⟨x, H1, I1, r1, q1⟩ => ?_
  rcases q1 with ⟨a, e, ⟨xs, hq⟩, q⟩ | ⟨a, e, ⟨xs, hq⟩, q⟩ | ⟨z, e, q⟩
  · subst e
    cases r1
    obtain ⟨its, rv, p, hz⟩ := I1.list hq
    refine wpAny_pyIter_list p.isList ?_
    refine ⟨s1.heap.objs.size, [s1.heap.objs.size], _, _, H1, rfl, I1.kept (t' := s1.toks) fun b o e => Heap.get?_push_of_some _ e, turn_list a _, ⟨_, Heap.get?_push_size _ rfl, rfl, rfl⟩, fun b hb => ?_, q⟩
    have e : b = s1.heap.objs.size := by simpa using hb
    subst e
    exact I1.fpOk (Nat.le_refl _) (I1.hok.fresh (Nat.le_refl _))
  · subst e
    cases r1
    obtain ⟨its, rv, p, hz⟩ := I1.tuple hq
    refine wpAny_pyIter_tuple (show s1.heap.IsTuple a its.toArray from p) ?_
    refine ⟨s1.heap.objs.size, [s1.heap.objs.size], _, _, H1, rfl, I1.kept (t' := s1.toks) fun b o e => Heap.get?_push_of_some _ e, turn_tuple a _, ⟨_, Heap.get?_push_size _ rfl, rfl, rfl⟩, fun b hb => ?_, q⟩
    have e : b = s1.heap.objs.size := by simpa using hb
    subst e
    exact I1.fpOk (Nat.le_refl _) (I1.hok.fresh (Nat.le_refl _))
  · subst e
    obtain ⟨t, rfl⟩ := r1
    cases ha : z.cps.all (· < 128)
    · exact wpAny_pyIter_wide ha (pi_one (tk := s1.toks) I1 _ (turn_str _ z t "str_iterator" (.inr rfl)) ⟨_, Heap.get?_push_size _ rfl, rfl, rfl⟩ q)
    · exact wpAny_pyIter_ascii ha (pi_one (tk := s1.toks) I1 _ (turn_str _ z t "str_ascii_iterator" (.inl rfl)) ⟨_, Heap.get?_push_size _ rfl, rfl, rfl⟩ q)
section
variable {tp : Option (Addr × Addr)} {K : PySem.W.Frag} [WP K] {H H' H'' H0 H1 He : Hp} {Hq : Hp} {σ : L2.St} {ρ : Ro}
/-- the walk J yields the data ds, while tuples stay and what stands at pa stays -/
def Wk (K : PySem.W.Frag) (H1 : Hp) (J : It) (pa : List Addr) (ds : List PyData) : Prop := ∀ H', Im H1 H' → (∀ p ∈ pa, ∀ o, H1 p = some o → H' p = some o) →
  J.stop ds.length H' ∧ ∀ (i : Nat) (d : PyData), ds[i]? = some d → J.go i H' ∧ ∀ x H'', J.yld i H' x H'' → Same H' H'' ∧ Vl K H'' x d
theorem wk_list {a : Addr} {vs : List V} {ds : List PyData} (h : Rd H1 a (.lst vs)) (hd : VlAll K H1 vs ds) (f : lfAll ds = true) : Wk K H1 (Itl K a) [a] ds := by
  intro H' im kp
  have hs : SqL K H' a vs := by
    rcases h with h | ⟨o, h⟩
    · exact .inl (.inl (kp a (by simp) _ h))
    · exact .inl (.inr ⟨o, im.frz _ _ _ h⟩)
  have hd' := hd.imlf im ds _ f
  refine ⟨⟨vs, hs, by rw [hd.len]; exact Nat.le_refl _⟩, fun i d e => ?_⟩
  obtain ⟨v, h1, h2⟩ := hd'.get e
  refine ⟨⟨vs, v, hs, h1⟩, fun x H'' y => ?_⟩
  obtain ⟨e1, y⟩ := y
  subst e1
  have := y vs hs
  rw [h1] at this
  cases this
  exact ⟨fun _ _ e => e, h2⟩
theorem wk_frz {a : Addr} {vs : List V} {ds : List PyData} (h : SqF K H1 a vs) (hd : VlAll K H1 vs ds) : Wk K H1 (Itl K a) [] ds := by
  intro H' im _
  have hs : SqL K H' a vs := (h.im im).sq
  have hd' := hd.imlf im ds _ rfl
  refine ⟨⟨vs, hs, by rw [hd.len]; exact Nat.le_refl _⟩, fun i d e => ?_⟩
  obtain ⟨v, h1, h2⟩ := hd'.get e
  refine ⟨⟨vs, v, hs, h1⟩, fun x H'' y => ?_⟩
  obtain ⟨e1, y⟩ := y
  subst e1
  have := y vs hs
  rw [h1] at this
  cases this
  exact ⟨fun _ _ e => e, h2⟩
theorem RC.frz {v : V} {ds : List PyData} (h : RC tp K H0 H v (.val (.list ds))) : ∃ a vs, v = .ref a ∧ SqF K H a vs ∧ VlAll K H vs ds := by
  obtain ⟨h, _⟩ := h
  cases h with
  | lst h1 h2 => exact ⟨_, _, rfl, h1, h2⟩
theorem wk_tup {a : Addr} {vs : List V} {ds : List PyData} (h : SqT K H1 a vs) (hd : VlAll K H1 vs ds) (f : lfAll ds = true) : Wk K H1 (Itt K a) [] ds := by
  intro H' im kp
  have hs : SqT K H' a vs := im.sqT h
  have hd' := hd.imlf im ds _ f
  refine ⟨⟨vs, hs, by rw [hd.len]; exact Nat.le_refl _⟩, fun i d e => ?_⟩
  obtain ⟨v, h1, h2⟩ := hd'.get e
  refine ⟨⟨vs, v, hs, h1⟩, fun x H'' y => ?_⟩
  obtain ⟨e1, y⟩ := y
  subst e1
  have := y vs hs
  rw [h1] at this
  cases this
  exact ⟨fun _ _ e => e, h2⟩
def signsD (z : Str) : List PyData := z.cps.toList.map fun c => .str ⟨#[c]⟩
theorem lf_signs (z : Str) : lfAll (signsD z) = true := lfAll_iff.mpr fun d m => by
  obtain ⟨c, _, rfl⟩ := List.mem_map.mp m
  rfl
theorem wk_str {z : Str} : Wk K H1 (Its z) [] (signsD z) := by
  intro H' im kp
  refine ⟨show z.cps.size ≤ (signsD z).length by simp [signsD], fun i d e => ?_⟩
  unfold signsD at e
  rw [List.getElem?_map] at e
  cases q : z.cps.toList[i]? with
  | none => rw [q] at e; cases e
  | some c =>
    rw [q] at e
    cases e
    have hi := (List.getElem?_eq_some_iff.mp q).1
    refine ⟨show i < z.cps.size by simpa using hi, fun x H'' y => ?_⟩
    obtain ⟨e1, c', hc, e2⟩ := y
    subst e1 e2
    have q' : z.cps[i]? = some c := by simpa using q
    rw [q'] at hc
    cases hc
    exact ⟨fun _ _ e => e, .str _⟩
def rngD (lo c : Int) (n : Nat) : List PyData := (List.range n).map fun i => .int (lo + (i : Nat) * c)
theorem lf_rng (lo c : Int) (n : Nat) : lfAll (rngD lo c n) = true := lfAll_iff.mpr fun d m => by
  obtain ⟨c, _, rfl⟩ := List.mem_map.mp m
  rfl
theorem rngD_get {lo c : Int} {n i : Nat} {d : PyData} (e : (rngD lo c n)[i]? = some d) : i < n ∧ d = .int (lo + (i : Nat) * c) := by
  unfold rngD at e
  rw [List.getElem?_map] at e
  cases q : (List.range n)[i]? with
  | none => rw [q] at e; cases e
  | some j =>
    rw [q] at e
    cases e
    have hi := (List.getElem?_eq_some_iff.mp q).1
    rw [List.getElem?_range (by simpa using hi)] at q
    cases q
    exact ⟨by simpa using hi, rfl⟩
theorem wk_rng {lo : Int} {n : Nat} : Wk K H1 (Itr lo n) [] (rngD lo 1 n) := by
  intro H' im kp
  refine ⟨show n ≤ (rngD lo 1 n).length by simp [rngD], fun i d e => ?_⟩
  obtain ⟨h1, rfl⟩ := rngD_get e
  refine ⟨h1, fun x H'' y => ?_⟩
  obtain ⟨e1, e2⟩ := y
  subst e1 e2
  rw [Int.mul_one]
  exact ⟨fun _ _ e => e, .int _⟩
theorem wk_rngC {lo c : Int} {n : Nat} : Wk K H1 (Itc lo c n) [] (rngD lo c n) := by
  intro H' im kp
  refine ⟨show n ≤ (rngD lo c n).length by simp [rngD], fun i d e => ?_⟩
  obtain ⟨h1, rfl⟩ := rngD_get e
  refine ⟨h1, fun x H'' y => ?_⟩
  obtain ⟨e1, e2⟩ := y
  subst e1 e2
  exact ⟨fun _ _ e => e, .int _⟩
theorem lf_rev {ds : List PyData} (f : lfAll ds = true) : lfAll ds.reverse = true := lfAll_iff.mpr fun d m => lfAll_iff.mp f d (List.mem_reverse.mp m)
theorem rev_get {ds : List PyData} {i : Nat} {d : PyData} (e : ds.reverse[i]? = some d) : i < ds.length ∧ ds[ds.length - 1 - i]? = some d := by
  have hi : i < ds.length := by have := (List.getElem?_eq_some_iff.mp e).1; simpa using this
  rw [List.getElem?_reverse hi] at e
  exact ⟨hi, e⟩
theorem wk_revT {a : Addr} {vs : List V} {ds : List PyData} (h : SqT K H1 a vs) (hd : VlAll K H1 vs ds) (f : lfAll ds = true) : Wk K H1 (RT.ItvT K a vs.length) [] ds.reverse := by
  intro H' im kp
  have hs : SqT K H' a vs := im.sqT h
  have hd' := hd.imlf im ds _ f
  refine ⟨show vs.length ≤ ds.reverse.length by rw [hd.len, List.length_reverse]; exact Nat.le_refl _, fun i d e => ?_⟩
  obtain ⟨hi, e⟩ := rev_get e
  obtain ⟨v, h1, h2⟩ := hd'.get e
  rw [← hd.len] at h1 hi
  refine ⟨⟨hi, vs, v, hs, h1⟩, fun x H'' y => ?_⟩
  obtain ⟨e1, y⟩ := y
  subst e1
  have := y vs hs
  rw [h1] at this
  cases this
  exact ⟨fun _ _ e => e, h2⟩
theorem wk_revL {a : Addr} {vs : List V} {ds : List PyData} (h : Rd H1 a (.lst vs)) (hd : VlAll K H1 vs ds) (f : lfAll ds = true) : Wk K H1 (Itv K a vs.length) [a] ds.reverse := by
  intro H' im kp
  have hs : SqL K H' a vs := by
    rcases h with h | ⟨o, h⟩
    · exact .inl (.inl (kp a (by simp) _ h))
    · exact .inl (.inr ⟨o, im.frz _ _ _ h⟩)
  have hd' := hd.imlf im ds _ f
  refine ⟨show vs.length ≤ ds.reverse.length by rw [hd.len, List.length_reverse]; exact Nat.le_refl _, fun i d e => ?_⟩
  obtain ⟨hi, e⟩ := rev_get e
  obtain ⟨v, h1, h2⟩ := hd'.get e
  rw [← hd.len] at h1 hi
  refine ⟨⟨hi, vs, v, hs, h1⟩, fun x H'' y => ?_⟩
  obtain ⟨e1, y⟩ := y
  subst e1
  have := y vs hs
  rw [h1] at this
  cases this
  exact ⟨fun _ _ e => e, h2⟩
/-! ### the sources -/
def OwnFree (σ : L2.St) (ρ : Ro) (pa : List Addr) : Prop := ∀ (p : Addr) (j : Nat) (o : PO), p ∈ pa → ρ[j]? = some (some (.own o)) → σ[j]? ≠ some (some (.ref p))
def RI (K : PySem.W.Frag) [WP K] (s : Bool) (wi : TI) (its : Ro → M (List PyData)) : Prop := ∀ tp He Hq ρ σ H (Q : It → Hp → Prop), Rel tp K He Hq H σ ρ →
  wp0 (its ρ) (fun ds => ∀ J H1 pa, GrT tp H H1 → TOk tp H1 → lfAll ds = true → Wk K H1 J pa ds → (∀ p ∈ pa, tp.map (·.1) ≠ some p) → (s = true → OwnFree σ ρ pa) → Q J H1) → wi σ H Q
def itD : C → M (List PyData)
  | .val (.tuple ds) => .ret ds
  | .val (.str z) => .ret (signsD z)
  | .own (.lst ds) => .ret ds
  | .val (.list ds) => .ret ds
  | _ => .fail
/-- a thing made in place -/
def gIt (g : Ro → M C) (ρ : Ro) : M (List PyData) := (g ρ).bind itD
theorem Rel.nown (r : Rel tp K He Hq H σ ρ) {p : Addr} (h : H p = none) {j : Nat} {o : PO} (e : ρ[j]? = some (some (.own o))) : σ[j]? ≠ some (some (.ref p)) := fun hs => by
  obtain ⟨v, h1, a, e2, _, _, q⟩ := r.at_ j _ e
  rw [hs] at h1
  cases h1
  cases e2
  cases o with
  | lst ds =>
    obtain ⟨vs, h3, _⟩ := q
    rw [h] at h3
    cases h3
  | dT ds =>
    obtain ⟨vs, h3, _⟩ := q
    rw [h] at h3
    cases h3
  | dK ds =>
    obtain ⟨vs, h3, _⟩ := q
    rw [h] at h3
    cases h3
  | lT ds =>
    exact q.elim
  | xo x =>
    obtain ⟨φ, h3⟩ := OwnX.ext q
    rw [h] at h3
    cases h3
theorem ri_seq {te : TE} {g : Ro → M C} {s : Bool} (h1 : RE K te g) : RI K s (iSeq K te) (gIt g) := by
  intro tp He Hq ρ σ H Q r h
  refine h1 tp He Hq ρ σ H _ r (wp0_mono (fun c hc => ?_) (wp0_bind.mp h))
  intro x H1 g1 t1 rx
  unfold itD at hc
  split at hc
  · rename_i ds
    obtain ⟨a, vs, rfl, q1, q2, q3⟩ := rx.tup
    exact .inr (.inl ⟨a, rfl, ⟨vs, q1⟩, hc _ H1 [] g1 t1 q3 (wk_tup q1 q2 q3) (fun _ m => by simp at m) (fun _ _ _ _ m => by simp at m)⟩)
  · rename_i z
    cases rx.str
    exact .inr (.inr ⟨z, rfl, hc _ H1 [] g1 t1 (lf_signs z) wk_str (fun _ m => by simp at m) (fun _ _ _ _ m => by simp at m)⟩)
  · rename_i ds
    obtain ⟨a, rfl, f, n, vs, q1, q2, q3⟩ := rx
    refine .inl ⟨a, rfl, ⟨vs, SqL.of q1⟩, hc _ H1 [a] g1 t1 q3 (wk_list (.inl q1) q2 q3) (fun p m => ?_) (fun _ p j o m e => ?_)⟩
    · have : p = a := by simpa using m
      subst this
      exact n.ne
    · have : p = a := by simpa using m
      subst this
      exact r.nown f e
  · rename_i ds
    obtain ⟨a, vs, rfl, q1, q2⟩ := rx.frz
    exact .inl ⟨a, rfl, ⟨vs, q1.sq⟩, hc _ H1 [] g1 t1 rfl (wk_frz q1 q2) (fun _ m => by simp at m) (fun _ _ _ _ m => by simp at m)⟩
  · exact hc.elim
/-- a name -/
def itV : C → M (List PyData)
  | .val (.tuple ds) => .ret ds
  | .val (.str z) => .ret (signsD z)
  | .bor (.lst ds) => .ret ds
  | .val (.list ds) => .ret ds
  | .own (.lst ds) => .ret ds
  | _ => .fail
def itVs : C → M (List PyData)
  | .val (.tuple ds) => .ret ds
  | .val (.str z) => .ret (signsD z)
  | .bor (.lst ds) => .ret ds
  | .val (.list ds) => .ret ds
  | _ => .fail
def gItV (s : Bool) (i : Nat) (ρ : Ro) : M (List PyData) := match ρ[i]? with
  | some (some c) => if s = true then itVs c else itV c
  | _ => .fail
theorem ri_var {i : Nat} {s : Bool} : RI K s (iSeq K (tVar i)) (gItV s i) := by
  intro tp He Hq ρ σ H Q r h
  unfold gItV at h
  split at h
  · rename_i c e
    obtain ⟨v, h1, h2⟩ := r.at_ i c e
    refine ⟨v, h1, ?_⟩
    have tup : ∀ {ds : List PyData}, SR tp K Hq H v (.val (.tuple ds)) → wp0 (.ret ds : M (List PyData)) (fun ds => ∀ J H1 pa, GrT tp H H1 → TOk tp H1 → lfAll ds = true → Wk K H1 J pa ds → (∀ p ∈ pa, tp.map (·.1) ≠ some p) → (s = true → OwnFree σ ρ pa) → Q J H1) → (∃ a, v = .ref a ∧ (∃ xs, SqL K H a xs) ∧ Q (Itl K a) H) ∨ (∃ a, v = .ref a ∧ (∃ xs, SqT K H a xs) ∧ Q (Itt K a) H) ∨ (∃ z, v = .str z ∧ Q (Its z) H) := fun {ds} h2 h => by
      have h2' : RC tp K H H v (.val (.tuple ds)) := h2
      obtain ⟨a, vs, rfl, q1, q2, q3⟩ := h2'.tup
      exact .inr (.inl ⟨a, rfl, ⟨vs, q1⟩, h _ H [] .refl r.tok q3 (wk_tup q1 q2 q3) (fun _ m => by simp at m) (fun _ _ _ _ m => by simp at m)⟩)
    have str : ∀ {z : Str}, SR tp K Hq H v (.val (.str z)) → wp0 (.ret (signsD z) : M (List PyData)) (fun ds => ∀ J H1 pa, GrT tp H H1 → TOk tp H1 → lfAll ds = true → Wk K H1 J pa ds → (∀ p ∈ pa, tp.map (·.1) ≠ some p) → (s = true → OwnFree σ ρ pa) → Q J H1) → (∃ a, v = .ref a ∧ (∃ xs, SqL K H a xs) ∧ Q (Itl K a) H) ∨ (∃ a, v = .ref a ∧ (∃ xs, SqT K H a xs) ∧ Q (Itt K a) H) ∨ (∃ z, v = .str z ∧ Q (Its z) H) := fun {z} h2 h => by
      have h2' : RC tp K H H v (.val (.str z)) := h2
      cases h2'.str
      exact .inr (.inr ⟨z, rfl, h _ H [] .refl r.tok (lf_signs z) wk_str (fun _ m => by simp at m) (fun _ _ _ _ m => by simp at m)⟩)
    have lst : ∀ {ds : List PyData}, SR tp K Hq H v (.val (.list ds)) → wp0 (.ret ds : M (List PyData)) (fun ds => ∀ J H1 pa, GrT tp H H1 → TOk tp H1 → lfAll ds = true → Wk K H1 J pa ds → (∀ p ∈ pa, tp.map (·.1) ≠ some p) → (s = true → OwnFree σ ρ pa) → Q J H1) → (∃ a, v = .ref a ∧ (∃ xs, SqL K H a xs) ∧ Q (Itl K a) H) ∨ (∃ a, v = .ref a ∧ (∃ xs, SqT K H a xs) ∧ Q (Itt K a) H) ∨ (∃ z, v = .str z ∧ Q (Its z) H) := fun {ds} h2 h => by
      have h2' : RC tp K H H v (.val (.list ds)) := h2
      obtain ⟨a, vs, rfl, q1, q2⟩ := h2'.frz
      exact .inl ⟨a, rfl, ⟨vs, q1.sq⟩, h _ H [] .refl r.tok rfl (wk_frz q1 q2) (fun _ m => by simp at m) (fun _ _ _ _ m => by simp at m)⟩
    have bor : ∀ {ds : List PyData}, SR tp K Hq H v (.bor (.lst ds)) → wp0 (.ret ds : M (List PyData)) (fun ds => ∀ J H1 pa, GrT tp H H1 → TOk tp H1 → lfAll ds = true → Wk K H1 J pa ds → (∀ p ∈ pa, tp.map (·.1) ≠ some p) → (s = true → OwnFree σ ρ pa) → Q J H1) → (∃ a, v = .ref a ∧ (∃ xs, SqL K H a xs) ∧ Q (Itl K a) H) ∨ (∃ a, v = .ref a ∧ (∃ xs, SqT K H a xs) ∧ Q (Itt K a) H) ∨ (∃ z, v = .str z ∧ Q (Its z) H) := fun {ds} h2 h => by
      obtain ⟨a, rfl, q⟩ := h2
      obtain ⟨vs, q1, q2, q3⟩ := r.bor q
      obtain ⟨ws, p1, _, _⟩ := q
      refine .inl ⟨a, rfl, ⟨vs, q1.sq⟩, h _ H [a] .refl r.tok q3 (wk_list q1.1 q2 q3) (fun p m => ?_) (fun _ p j o m e => ?_)⟩
      · have : p = a := by simpa using m
        subst this
        exact q1.2
      · have : p = a := by simpa using m
        subst this
        intro hs
        obtain ⟨v', h3, b, e3, f, _⟩ := r.at_ j _ e
        rw [hs] at h3
        cases h3
        cases e3
        rcases p1.1 with z | ⟨_, z⟩ <;> (rw [f] at z; cases z)
    split at h
    · unfold itVs at h
      split at h
      · exact tup h2 h
      · exact str h2 h
      · exact bor h2 h
      · exact lst h2 h
      · exact h.elim
    · rename_i ns
      unfold itV at h
      split at h
      · exact tup h2 h
      · exact str h2 h
      · exact bor h2 h
      · exact lst h2 h
      · rename_i ds
        obtain ⟨a, rfl, f, n, vs, q1, q2, q3⟩ := h2
        refine .inl ⟨a, rfl, ⟨vs, SqL.of q1⟩, h _ H [a] .refl r.tok q3 (wk_list (.inl q1) q2 q3) (fun p m => ?_) (fun z => absurd z ns)⟩
        have : p = a := by simpa using m
        subst this
        exact n.ne
      · exact h.elim
  · exact h.elim
/-! range -/
def rngOk (i : Int) : Bool := decide (-4611686018427387904 ≤ i) && decide (i < 4611686018427387904)
theorem rngOk_of {i : Int} (h : rngOk i = true) : -(2 ^ 62) ≤ i ∧ i < 2 ^ 62 := by
  simp only [rngOk, Bool.and_eq_true, decide_eq_true_eq] at h
  exact h
def itR1 : List C → M (List PyData)
  | [.val (.int j)] => if rngOk j = true then .ret (rngD 0 1 j.toNat) else .fail
  | _ => .fail
def itR2 : List C → M (List PyData)
  | [.val (.int i), .val (.int j)] => if (rngOk i && rngOk j) = true then .ret (rngD i 1 (j - i).toNat) else .fail
  | _ => .fail
def gItR1 (gs : Ro → M (List C)) (ρ : Ro) : M (List PyData) := (gs ρ).bind itR1
def gItR2 (gs : Ro → M (List C)) (ρ : Ro) : M (List PyData) := (gs ρ).bind itR2
theorem ri_rng1 {ta : TA} {gs : Ro → M (List C)} {s : Bool} (h1 : RA K ta gs) : RI K s (iRng1 ta) (gItR1 gs) := by
  intro tp He Hq ρ σ H Q r h
  refine h1 tp He Hq ρ σ H _ r (wp0_mono (fun cs hc => ?_) (wp0_bind.mp h))
  intro vs H1 g1 t1 rx
  unfold itR1 at hc
  split at hc
  · rename_i j
    obtain ⟨v, rfl, q⟩ := rx.one
    cases q.int
    split at hc
    · rename_i l
      obtain ⟨l1, l2⟩ := rngOk_of l
      exact ⟨j, rfl, l1, l2, hc _ H1 [] g1 t1 (lf_rng _ _ _) wk_rng (fun _ m => by simp at m) (fun _ _ _ _ m => by simp at m)⟩
    · exact hc.elim
  · exact hc.elim
theorem ri_rng2 {ta : TA} {gs : Ro → M (List C)} {s : Bool} (h1 : RA K ta gs) : RI K s (iRng2 ta) (gItR2 gs) := by
  intro tp He Hq ρ σ H Q r h
  refine h1 tp He Hq ρ σ H _ r (wp0_mono (fun cs hc => ?_) (wp0_bind.mp h))
  intro vs H1 g1 t1 rx
  unfold itR2 at hc
  split at hc
  · rename_i i j
    obtain ⟨v, w, rfl, q, q'⟩ := rx.two
    cases q.int; cases q'.int
    split at hc
    · rename_i l
      simp only [Bool.and_eq_true] at l
      obtain ⟨l1, l2⟩ := rngOk_of l.1
      obtain ⟨l3, l4⟩ := rngOk_of l.2
      exact ⟨i, j, rfl, ⟨l1, l2, l3, l4⟩, hc _ H1 [] g1 t1 (lf_rng _ _ _) wk_rng (fun _ m => by simp at m) (fun _ _ _ _ m => by simp at m)⟩
    · exact hc.elim
  · exact hc.elim
/-! ### for -/
theorem GrT.imH (g : GrT tp Hq H') (h : ∀ (t l : Addr), tp = some (t, l) → Hq t = none ∨ ∃ xs, Hq t = some (.lst xs)) : Im Hq H' := by
  have n : ∀ b o, Hq b = some o → (∀ xs, o ≠ .lst xs) → tp.map (·.1) ≠ some b := fun b o e k z => by
    cases tp with
    | none => simp at z
    | some w =>
      obtain ⟨t, l⟩ := w
      have : t = b := by simpa using z
      subst this
      rcases h t l rfl with q | ⟨xs, q⟩
      · rw [q] at e; cases e
      · rw [q] at e; cases e; exact k xs rfl
  exact ⟨fun b xs e => g b _ e (n b _ e fun _ z => by cases z), fun b o u e => g b _ e (n b _ e fun _ z => by cases z)⟩
def forL (a : C → Ro → M Ro) (b : Ro → M Res) : List PyData → Ro → M Res
  | [], ρ => .ret (.nx ρ)
  | d :: ds, ρ => (a (.val d) ρ).bind fun ρ1 => (b ρ1).bind fun r => match r with
    | .nx ρ' => forL a b ds ρ'
    | .ct ρ' => forL a b ds ρ'
    | .bk ρ' => .ret (.nx ρ')
    | .rt c => .ret (.rt c)
theorem for_go {J : It} {pa : List Addr} {ds : List PyData} {g : TG} {tb : TS} {D : Ends} {a : C → Ro → M Ro} {b : Ro → M Res} {sl : List Nat} (hg : RG K g a sl) (hb : RS K tb b) (r : Rel tp K He Hq H1 σ ρ) (f : lfAll ds = true) (w : Wk K Hq J pa ds)
    (np : ∀ p ∈ pa, tp.map (·.1) ≠ some p) (h : wp0 (forL a b ds ρ) (PostS tp K He Hq D)) :
    ∃ W : Nat → Nat → L2.St → Hp → Prop, (∃ m, W 0 m σ H1) ∧ ∀ i m σ H, W i m σ H →
      (J.stop i H ∧ D.nx σ H) ∨ (J.go i H ∧ ∃ N : L2.St → Hp → Prop, (∀ σ' H', N σ' H' → ∃ m', m' < m ∧ W (i + 1) m' σ' H') ∧ ∀ x H', J.yld i H x H' → g x σ H' fun σ2 H2 => tb { D with nx := N, ct := N, bk := D.nx } σ2 H2) := by
  refine ⟨fun i m σ H => m = ds.length - i ∧ i ≤ ds.length ∧ ∃ ρ' Hq', GrT tp Hq Hq' ∧ Rel tp K He Hq' H σ ρ' ∧ wp0 (forL a b (ds.drop i) ρ') (PostS tp K He Hq' D), ⟨ds.length, rfl, Nat.zero_le _, ρ, Hq, .refl, r, h⟩, ?_⟩
  rintro i m σ' H' ⟨rfl, hi, ρ', Hq', g', r', h'⟩
  have gr : GrT tp Hq H' := g'.trans r'.gr
  obtain ⟨st, go⟩ := w H' (gr.imH r.he) (fun p hp o e => gr p o e (np p hp))
  by_cases hlt : i < ds.length
  · obtain ⟨d, hd⟩ : ∃ d, ds[i]? = some d := ⟨ds[i], List.getElem?_eq_getElem hlt⟩
    obtain ⟨go1, yl⟩ := go i d hd
    have e : ds.drop i = d :: ds.drop (i + 1) := by
      rw [List.drop_eq_getElem_cons hlt]
      have : ds[i] = d := by rw [List.getElem?_eq_getElem hlt] at hd; exact Option.some.inj hd
      rw [this]
    rw [e] at h'
    refine .inr ⟨go1, fun σ2 H2 => ∃ ρ2 Hq2, GrT tp Hq Hq2 ∧ Rel tp K He Hq2 H2 σ2 ρ2 ∧ wp0 (forL a b (ds.drop (i + 1)) ρ2) (PostS tp K He Hq2 D), fun σ2 H2 n => ⟨ds.length - (i + 1), by omega, rfl, hlt, n⟩, fun x H'' y => ?_⟩
    obtain ⟨sm, dp⟩ := yl x H'' y
    refine hg tp He Hq' ρ' σ' H' H'' x (.val d) _ r' (.of sm) (r'.tok.same sm) ⟨dp, lfAll_get f hd⟩ (wp0_mono (fun ρ1 h1 => ?_) (wp0_bind.mp (show wp0 ((a (.val d) ρ').bind _) _ from h')))
    intro σ1 _ r1
    refine hb tp He Hq' ρ1 σ1 H'' _ r1 (wp0_mono (fun q hq => ?_) (wp0_bind.mp h1))
    cases q with
    | nx ρ2 => exact fun σ2 H2 Hq2 g2 r2 => ⟨ρ2, Hq2, g'.trans g2, r2, wp0_mono (fun _ hq => hq.mono g2) hq⟩
    | ct ρ2 => exact fun σ2 H2 Hq2 g2 r2 => ⟨ρ2, Hq2, g'.trans g2, r2, wp0_mono (fun _ hq => hq.mono g2) hq⟩
    | bk ρ2 => exact hq
    | rt c => exact hq
  · have e : i = ds.length := by omega
    subst e
    rw [List.drop_length] at h'
    exact .inl ⟨st, h' σ' H' Hq' .refl r'⟩
/-- the walked thing is laid under what the def leaves as it is -/
theorem Rel.more {J : It} {pa : List Addr} {ds : List PyData} (r : Rel tp K He Hq H σ ρ) (of : OwnFree σ ρ pa) (np : ∀ p ∈ pa, tp.map (·.1) ≠ some p) (w : Wk K H J pa ds) :
    ∃ Hq2, GrT tp Hq Hq2 ∧ Rel tp K He Hq2 H σ ρ ∧ Wk K Hq2 J pa ds ∧ Im H Hq2 ∧ ∀ b, tp.map (·.1) ≠ some b → (∀ (j : Nat) (o : PO), ρ[j]? = some (some (.own o)) → σ[j]? ≠ some (some (V.ref b))) → Hq2 b = H b := by
  classical
  let O : Addr → Prop := fun b => tp.map (·.1) = some b ∨ ∃ (j : Nat) (o : PO), ρ[j]? = some (some (.own o)) ∧ σ[j]? = some (some (V.ref b))
  have own_none : ∀ {b : Addr} {j : Nat} {o : PO}, ρ[j]? = some (some (C.own o)) → σ[j]? = some (some (V.ref b)) → Hq b = none ∧ ∃ u, H b = some u ∧ Mut (some u) := fun {b j o} e s => by
    obtain ⟨v, h1, a, e2, f, _, q⟩ := r.at_ j _ e
    rw [s] at h1
    cases h1
    cases e2
    cases o with
    | lst ds =>
      obtain ⟨vs, h3, _⟩ := q
      exact ⟨f, _, h3, trivial⟩
    | dT ds =>
      obtain ⟨vs, h3, _⟩ := q
      exact ⟨f, _, h3, trivial⟩
    | dK ds =>
      obtain ⟨vs, h3, _⟩ := q
      exact ⟨f, _, h3, trivial⟩
    | lT ds =>
      exact q.elim
    | xo x =>
      obtain ⟨φ, h3⟩ := OwnX.ext q
      exact ⟨f, _, h3, trivial⟩
  let G : Hp := fun b => if O b then Hq b else H b
  have gO : ∀ {b}, O b → G b = Hq b := fun {b} h => if_pos h
  have gN : ∀ {b}, ¬ O b → G b = H b := fun {b} h => if_neg h
  have g1 : GrT tp Hq G := fun b o e n => by
    by_cases hO : O b
    · rw [gO hO]; exact e
    · rw [gN hO]; exact r.gr b o e n
  have im1 : Im Hq G := g1.imH r.he
  have g2 : GrT tp G H := fun b o e n => by
    by_cases hO : O b
    · rw [gO hO] at e
      exact r.gr b o e n
    · rw [gN hO] at e; exact e
  have lst_of : ∀ {b}, O b → ∃ u, H b = some u ∧ Mut (some u) := fun {b} hO => by
    rcases hO with hO | ⟨j, o, e, s⟩
    · cases tp with
      | none => simp at hO
      | some w =>
        obtain ⟨t, l⟩ := w
        have : t = b := by simpa using hO
        subst this
        obtain ⟨_, z⟩ := (r.tok t l rfl).list
        exact ⟨_, z, trivial⟩
    · exact (own_none e s).2
  have tupN : ∀ {b xs}, H b = some (.tup xs) → ¬ O b := fun {b xs} e hO => by
    obtain ⟨u', z, mu⟩ := lst_of hO
    rw [e] at z
    cases z
    exact mu
  have frzN : ∀ {b o u}, H b = some (.frz o u) → ¬ O b := fun {b o u} e hO => by
    obtain ⟨u', z, mu⟩ := lst_of hO
    rw [e] at z
    cases z
    exact mu
  refine ⟨G, g1, ⟨r.len, fun i c e => ?_, r.dist, r.sub.trans g1, g2, r.tok, fun t l e => ?_⟩, fun H' im kp => ?_, ⟨fun b xs e => by rw [gN (tupN e)]; exact e, fun b o u e => by rw [gN (frzN e)]; exact e⟩, fun b n1 n2 => gN fun hO => by
    rcases hO with hO | ⟨j, o, e, s⟩
    · exact n1 hO
    · exact n2 j o e s⟩
  · obtain ⟨v, h1, h2⟩ := r.at_ i c e
    refine ⟨v, h1, ?_⟩
    cases c with
    | val d => exact h2
    | own o =>
      obtain ⟨a, e2, f, n, q⟩ := h2
      subst e2
      exact ⟨a, rfl, by rw [gO (Or.inr ⟨i, o, e, h1⟩)]; exact f, n, q⟩
    | bor o =>
      obtain ⟨a, e2, q⟩ := h2
      refine ⟨a, e2, ?_⟩
      cases o with
      | lst ds =>
        obtain ⟨vs, q1, q2, q3⟩ := q
        exact ⟨vs, q1.gr g1, q2.imlf im1 ds _ q3, q3⟩
      | dT ds =>
        obtain ⟨vs, q1, q2, q3⟩ := q
        exact ⟨vs, q1.gr g1, q2.imlf im1 ds _ q3, q3⟩
      | dK ds =>
        obtain ⟨vs, q1, q2, q3⟩ := q
        exact ⟨vs, q1.gr g1, q2.imlf im1 ds _ q3, q3⟩
      | lT ds =>
        obtain ⟨vs, q1, q2, q3⟩ := q
        exact ⟨vs, q1.gr g1, q2.imlf im1 ds _ q3, q3⟩
      | xo x => exact BorX.to q im1 (fun φ e => e.gr g1) fun φ e => e.gr g1
    | tape => exact h2
  · rw [gO (Or.inl (by rw [e]; rfl))]
    exact r.he t l e
  · refine w H' ⟨fun b xs e => im.tup b xs (by rw [gN (tupN e)]; exact e), fun b o u e => im.frz b o u (by rw [gN (frzN e)]; exact e)⟩ fun p hp o e => kp p hp o ?_
    by_cases hO : O p
    · rcases hO with hO | ⟨j, o', e', s⟩
      · exact absurd hO (np p hp)
      · exact absurd s (of p j o' hp e')
    · rw [gN hO]; exact e
def mFor (its : Ro → M (List PyData)) (a : C → Ro → M Ro) (b : Ro → M Res) (ρ : Ro) : M Res := (its ρ).bind fun ds => forL a b ds ρ
theorem rs_for {wi : TI} {g : TG} {tb : TS} {its : Ro → M (List PyData)} {a : C → Ro → M Ro} {b : Ro → M Res} {sl : List Nat} (hi : RI K true wi its) (hg : RG K g a sl) (hb : RS K tb b) : RS K (tFor wi g tb) (mFor its a b) := by
  intro tp He Hq ρ σ H D r h
  refine hi tp He Hq ρ σ H _ r (wp0_mono (fun ds hd => ?_) (wp0_bind.mp h))
  intro J H1 pa g1 t1 f w np of
  obtain ⟨Hq2, q1, r2, w2, _⟩ := (r.go g1 t1).more (of rfl) np w
  exact for_go hg hb r2 f w2 np (wp0_mono (fun _ q => q.mono q1) hd)
/-- over a name; a list of one's own is no longer changed from there on -/
def mForV (i : Nat) (a : C → Ro → M Ro) (b : Ro → M Res) (ρ : Ro) : M Res := match ρ[i]? with
  | some (some (.own (.lst ds))) => forL a b ds (ρ.set i (some (.bor (.lst ds))))
  | some (some c) => (itVs c).bind fun ds => forL a b ds ρ
  | _ => .fail
theorem Rel.forget {i : Nat} (r : Rel tp K He Hq H σ ρ) : Rel tp K He Hq H σ (ρ.set i none) := by
  have old : ∀ {j : Nat} {c : C}, (ρ.set i none)[j]? = some (some c) → i ≠ j ∧ ρ[j]? = some (some c) := fun {j c} e => by
    by_cases hij : i = j
    · subst hij
      have hl : i < ρ.length := by
        have := (List.getElem?_eq_some_iff.mp e).1
        rwa [List.length_set] at this
      rw [List.getElem?_set_self hl] at e
      cases e
    · rw [List.getElem?_set_ne hij] at e
      exact ⟨hij, e⟩
  exact ⟨by rw [List.length_set]; exact r.len, fun j c e => r.at_ j c (old e).2, fun j k a o o' e1 e2 => r.dist j k a o o' (old e1).2 (old e2).2, r.sub, r.gr, r.tok, r.he⟩
theorem Rel.forgot {i : Nat} {j : Nat} {c : C} (e : (ρ.set i none)[j]? = some (some c)) : i ≠ j ∧ ρ[j]? = some (some c) := by
  by_cases hij : i = j
  · subst hij
    have hl : i < ρ.length := by
      have := (List.getElem?_eq_some_iff.mp e).1
      rwa [List.length_set] at this
    rw [List.getElem?_set_self hl] at e
    cases e
  · rw [List.getElem?_set_ne hij] at e
    exact ⟨hij, e⟩
theorem Rel.freeze {i : Nat} {ds : List PyData} (r : Rel tp K He Hq H σ ρ) (e : ρ[i]? = some (some (.own (.lst ds)))) : ∃ Hq2 a, GrT tp Hq Hq2 ∧ Rel tp K He Hq2 H σ (ρ.set i (some (.bor (.lst ds)))) ∧ σ[i]? = some (some (.ref a)) ∧ Wk K Hq2 (Itl K a) [a] ds ∧ tp.map (·.1) ≠ some a ∧ lfAll ds = true ∧ ∃ vs, SqL K H a vs := by
  obtain ⟨v, h1, a, e2, f, n, vs, q1, q2, q3⟩ := r.at_ i _ e
  subst e2
  have nown : ∀ (j : Nat) (o : PO), (ρ.set i none)[j]? = some (some (.own o)) → σ[j]? ≠ some (some (.ref a)) := fun j o ej hs => by
    obtain ⟨n1, e'⟩ := Rel.forgot ej
    exact n1 (r.dist i j a _ _ e e' h1 hs)
  have w : Wk K H (Itl K a) [a] ds := wk_list (.inl q1) q2 q3
  have np : ∀ p ∈ [a], tp.map (·.1) ≠ some p := fun p m => by
    have : p = a := by simpa using m
    subst this
    exact n.ne
  obtain ⟨Hq2, g2, r2, w2, im, eqs⟩ := (r.forget (i := i)).more (pa := [a]) (fun p j o m ej => by
    have : p = a := by simpa using m
    subst this
    exact nown j o ej) np w
  have ea : Hq2 a = some (.lst vs) := (eqs a n.ne nown).trans q1
  have r3 := r2.put (i := i) (v := .ref a) (c := .bor (.lst ds)) ⟨a, rfl, vs, ⟨.inl ea, n.ne⟩, q2.imlf im ds _ q3, q3⟩ (fun _ _ z => by cases z)
  rw [List.set_set] at r3
  have es : σ.set i (some (.ref a)) = σ := by
    refine List.ext_getElem? fun j => ?_
    by_cases hij : i = j
    · subst hij
      rw [List.getElem?_set_self (List.getElem?_eq_some_iff.mp h1).1, h1]
    · rw [List.getElem?_set_ne hij]
  rw [es] at r3
  exact ⟨Hq2, a, g2, r3, h1, w2, n.ne, q3, vs, SqL.of q1⟩
theorem rs_forV {i : Nat} {g : TG} {tb : TS} {a : C → Ro → M Ro} {b : Ro → M Res} {sl : List Nat} (hg : RG K g a sl) (hb : RS K tb b) : RS K (tFor (iSeq K (tVar i)) g tb) (mForV i a b) := by
  intro tp He Hq ρ σ H D r h
  unfold mForV at h
  split at h
  · rename_i ds e
    obtain ⟨Hq2, p, g2, r2, hs, w, np, f, vs, sq⟩ := r.freeze e
    refine ⟨_, hs, .inl ⟨p, rfl, ⟨vs, sq⟩, for_go hg hb r2 f w (fun q m => ?_) (wp0_mono (fun _ q => q.mono g2) h)⟩⟩
    have : q = p := by simpa using m
    subst this
    exact np
  · rename_i c n e
    refine rs_for (ri_var (i := i)) hg hb tp He Hq ρ σ H D r ?_
    unfold mFor gItV
    rw [e]
    exact h
  · exact h.elim
/-! ### while -/
def whlL (gc : Ro → M Bool) (b : Ro → M Res) : Nat → Ro → M Res
  | 0, _ => .fail
  | n + 1, ρ => (gc ρ).bind fun c => if c = true then (b ρ).bind (fun r => match r with
    | .nx ρ' => whlL gc b n ρ'
    | .ct ρ' => whlL gc b n ρ'
    | .bk ρ' => .ret (.nx ρ')
    | .rt c => .ret (.rt c)) else .ret (.nx ρ)
/-- fuel: a bound of the turns and one more, by what the slots hold ahead of the loop -/
def mWhile (fuel : Ro → Nat) (gc : Ro → M Bool) (b : Ro → M Res) (ρ : Ro) : M Res := whlL gc b (fuel ρ) ρ
theorem rs_while {c : TT} {tb : TS} {gc : Ro → M Bool} {b : Ro → M Res} {fuel : Ro → Nat} (hc : RT K c gc) (hb : RS K tb b) : RS K (tWhile c tb) (mWhile fuel gc b) := by
  intro tp He Hq ρ σ H D r h
  refine ⟨fun m σ H => ∃ ρ' Hq', GrT tp Hq Hq' ∧ Rel tp K He Hq' H σ ρ' ∧ wp0 (whlL gc b m ρ') (PostS tp K He Hq' D), ⟨fuel ρ, ρ, Hq, .refl, r, h⟩, ?_⟩
  rintro m σ' H' ⟨ρ', Hq', g', r', h'⟩
  cases m with
  | zero => exact h'.elim
  | succ m =>
    refine hc tp He Hq' ρ' σ' H' _ r' (wp0_mono (fun k hk => ?_) (wp0_bind.mp (show wp0 ((gc ρ').bind _) _ from h')))
    intro H1 g1 t1
    cases k with
    | true =>
      rw [if_pos rfl] at hk ⊢
      refine ⟨fun σ2 H2 => ∃ ρ2 Hq2, GrT tp Hq Hq2 ∧ Rel tp K He Hq2 H2 σ2 ρ2 ∧ wp0 (whlL gc b m ρ2) (PostS tp K He Hq2 D), fun σ2 H2 n => ⟨m, Nat.lt_succ_self m, n⟩, ?_⟩
      refine hb tp He Hq' ρ' σ' H1 _ (r'.go g1 t1) (wp0_mono (fun q hq => ?_) (wp0_bind.mp hk))
      cases q with
      | nx ρ2 => exact fun σ2 H2 Hq2 g2 r2 => ⟨ρ2, Hq2, g'.trans g2, r2, wp0_mono (fun _ hq => hq.mono g2) hq⟩
      | ct ρ2 => exact fun σ2 H2 Hq2 g2 r2 => ⟨ρ2, Hq2, g'.trans g2, r2, wp0_mono (fun _ hq => hq.mono g2) hq⟩
      | bk ρ2 => exact hq
      | rt c => exact hq
    | false =>
      rw [if_neg Bool.false_ne_true] at hk ⊢
      exact hk σ' H1 Hq' .refl (r'.go g1 t1)
end
end Cs

set_option maxRecDepth 100000
set_option maxHeartbeats 4000000
/-! comprehensions, lists that change, defs -/
namespace Cs
open PySem PySem.Spec PyProof.Rows L2
section
variable {tp : Option (Addr × Addr)} {K : PySem.W.Frag} [WP K] {H H' H'' H0 H1 He : Hp} {Hq : Hp} {σ : L2.St} {ρ : Ro}
/-! ### [e for x in xs if c] -/
def wipeR (ρ : Ro) : List Nat → Ro
  | [] => ρ
  | v :: vs => (wipeR ρ vs).set v none
theorem Rel.set_none {i : Nat} (r : Rel tp K He Hq H σ ρ) : Rel tp K He Hq H (σ.set i none) (ρ.set i none) := by
  refine ⟨by rw [List.length_set, List.length_set]; exact r.len, fun j c e => ?_, fun j k a o o' e1 e2 e3 e4 => ?_, r.sub, r.gr, r.tok, r.he⟩
  · obtain ⟨n, e'⟩ := Rel.forgot e
    obtain ⟨v, h1, h2⟩ := r.at_ j c e'
    exact ⟨v, by rw [List.getElem?_set_ne n]; exact h1, h2⟩
  · obtain ⟨n1, e1'⟩ := Rel.forgot e1
    obtain ⟨n2, e2'⟩ := Rel.forgot e2
    rw [List.getElem?_set_ne n1] at e3
    rw [List.getElem?_set_ne n2] at e4
    exact r.dist j k a o o' e1' e2' e3 e4
theorem Rel.wipe (r : Rel tp K He Hq H σ ρ) : ∀ vs : List Nat, Rel tp K He Hq H (L2.wipe σ vs) (wipeR ρ vs)
  | [] => r
  | v :: vs => by
    unfold L2.wipe wipeR
    exact (Rel.wipe r vs).set_none
theorem wipe_in {σ : L2.St} {i : Nat} : ∀ {vs : List Nat}, i ∈ vs → (L2.wipe σ vs)[i]? = if i < σ.length then some none else none
  | [], h => by simp at h
  | v :: vs, h => by
    unfold L2.wipe
    by_cases hv : v = i
    · subst hv
      by_cases hl : v < σ.length
      · rw [if_pos hl, List.getElem?_set_self (by rw [wipe_length]; exact hl)]
      · rw [if_neg hl]
        exact List.getElem?_eq_none_iff.mpr (by rw [List.length_set, wipe_length]; omega)
    · rw [List.getElem?_set_ne hv]
      exact wipe_in (by rcases List.mem_cons.mp h with z | z; exact absurd z.symm hv; exact z)
theorem wipe_off {σ σ' : L2.St} {sl vs : List Nat} (o : Off sl (L2.wipe σ vs) σ') (h : ∀ j ∈ sl, j ∈ vs) : L2.wipe σ' vs = L2.wipe σ vs := by
  have hl : σ'.length = σ.length := o.1.trans (wipe_length σ vs)
  refine List.ext_getElem? fun i => ?_
  by_cases hi : i ∈ vs
  · rw [wipe_in hi, wipe_in hi, hl]
  · rw [wipe_out hi, o.2 i (fun z => hi (h i z))]
def lcL (a : C → Ro → M Ro) (c : Ro → M Bool) (e : Ro → M C) : List PyData → Ro → List PyData → M C
  | [], _, acc => .ret (.own (.lst acc))
  | d :: ds, ρ, acc => (a (.val d) ρ).bind fun ρ1 => (c ρ1).bind fun b => if b = true then (e ρ1).bind (fun x => match x with
    | .val y => lcL a c e ds ρ (acc ++ [y])
    | _ => .fail) else lcL a c e ds ρ acc
def gLc (its : Ro → M (List PyData)) (a : C → Ro → M Ro) (c : Ro → M Bool) (e : Ro → M C) (vs : List Nat) (ρ : Ro) : M C := (its ρ).bind fun ds => if lenOk ds.length = true then lcL a c e ds (wipeR ρ vs) [] else .fail
def gYes (_ : Ro) : M Bool := .ret true
theorem rt_yes : RT K tYes gYes := fun tp He Hq ρ σ H Q r h => h H .refl r.tok
theorem re_lc {wi : TI} {g : TG} {tt : TT} {te : TE} {its : Ro → M (List PyData)} {a : C → Ro → M Ro} {c : Ro → M Bool} {e : Ro → M C} {sl vs : List Nat} {s : Bool} (hi : RI K s wi its) (hg : RG K g a sl) (hc : RT K tt c) (he : RE K te e)
    (hs : ∀ j ∈ sl, j ∈ vs) : RE K (tLc wi g tt te vs) (gLc its a c e vs) := by
  intro tp He Hq ρ σ H Q r h
  refine hi tp He Hq ρ σ H _ r (wp0_mono (fun ds hd => ?_) (wp0_bind.mp h))
  intro J H1 pa g1 t1 f w np _ D hD
  by_cases hz : lenOk ds.length = true
  case neg =>
    rw [if_neg hz] at hd
    exact hd.elim
  rw [if_pos hz] at hd
  have hz' : ds.length ≤ sizeLine := lenOk_le hz
  have r1 := r.go g1 t1
  have tD : TNe tp D := t1.tne hD
  have upG : ∀ {H2 : Hp} {o : HO}, GrT tp H1 H2 → GrT tp H1 (upd H2 D o) := fun {H2 o} g b u e n => by
    have hne : b ≠ D := fun z => by subst z; rw [hD] at e; cases e
    rw [upd_ne hne]
    exact g b u e n
  have upT : ∀ {H2 : Hp} {o : HO}, TOk tp H2 → TOk tp (upd H2 D o) := fun {H2 o} t a l e => (t a l e).upd (tD a l e).1 (tD a l e).2
  refine ⟨fun i m H' => m = ds.length - i ∧ i ≤ ds.length ∧ ∃ acc vsa, H' D = some (.lst vsa) ∧ VlAll K H' vsa acc ∧ lfAll acc = true ∧ acc.length ≤ i ∧ GrT tp H1 H' ∧ TOk tp H' ∧ wp0 (lcL a c e (ds.drop i) (wipeR ρ vs) acc) (Post tp K H Q),
    ⟨ds.length, rfl, Nat.zero_le _, [], [], upd_same, .nil, rfl, Nat.le_refl _, upG .refl, upT t1, hd⟩, ?_⟩
  rintro i m H' ⟨rfl, hi, acc, vsa, eD, hda, fa, hl, g', t', h'⟩
  obtain ⟨st, go⟩ := w H' (g'.im t1) (fun p hp o e => g' p o e (np p hp))
  by_cases hlt : i < ds.length
  · obtain ⟨d, hd'⟩ : ∃ d, ds[i]? = some d := ⟨ds[i], List.getElem?_eq_getElem hlt⟩
    obtain ⟨go1, yl⟩ := go i d hd'
    have ed : ds.drop i = d :: ds.drop (i + 1) := by
      rw [List.drop_eq_getElem_cons hlt]
      have : ds[i] = d := by rw [List.getElem?_eq_getElem hlt] at hd'; exact Option.some.inj hd'
      rw [this]
    rw [ed] at h'
    refine .inr ⟨go1, fun H2 => ∃ acc vsa, H2 D = some (.lst vsa) ∧ VlAll K H2 vsa acc ∧ lfAll acc = true ∧ acc.length ≤ i + 1 ∧ GrT tp H1 H2 ∧ TOk tp H2 ∧ wp0 (lcL a c e (ds.drop (i + 1)) (wipeR ρ vs) acc) (Post tp K H Q),
      fun H2 ⟨acc, vsa, q⟩ => ⟨ds.length - (i + 1), by omega, rfl, hlt, acc, vsa, q⟩, fun x H2 y => ?_⟩
    obtain ⟨sm, dp⟩ := yl x H2 y
    have rw' := ((r1.go g' t').wipe vs)
    refine hg tp He Hq _ _ H' H2 x (.val d) _ rw' (.of sm) (t'.same sm) ⟨dp, lfAll_get f hd'⟩ (wp0_mono (fun ρ1 h1 => ?_) (wp0_bind.mp (show wp0 ((a (.val d) (wipeR ρ vs)).bind _) _ from h')))
    intro σ2 off r2
    refine ⟨wipe_off off hs, ?_⟩
    refine hc tp He Hq ρ1 σ2 H2 _ r2 (wp0_mono (fun b hb => ?_) (wp0_bind.mp h1))
    intro H3 g3 t3
    have g13 : GrT tp H1 H3 := (g'.trans (.of sm)).trans g3
    have eD3 : H3 D = some (.lst vsa) := g3 D _ (sm D _ eD) tD.ne
    have im3 : Im H' H3 := (Im.same sm).trans (g3.im (t'.same sm))
    cases b with
    | true =>
      rw [if_pos rfl] at hb ⊢
      refine he tp He Hq ρ1 σ2 H3 _ (r2.go g3 t3) (wp0_mono (fun z hz => ?_) (wp0_bind.mp hb))
      intro v H4 g4 t4 rc
      have eD4 : H4 D = some (.lst vsa) := g4 D _ eD3 tD.ne
      have im4 : Im H' H4 := im3.trans (g4.im t3)
      cases z with
      | val y =>
        have hd4 := hda.imlf im4 acc _ fa
        refine ⟨vsa, eD4, ?_, acc ++ [y], vsa ++ [v], upd_same, ?_, lfAll_app fa (rfl), by rw [List.length_append]; simp; omega, upG (g13.trans g4), upT t4, hz⟩
        · rw [hd4.len]; omega
        · exact (hd4.app (.cons rc.1 .nil)).imlf (Im.set eD4) _ _ (lfAll_app fa (rfl))
      | own o => exact hz.elim
      | bor o => exact hz.elim
      | tape => exact hz.elim
    | false =>
      rw [if_neg Bool.false_ne_true] at hb ⊢
      exact ⟨acc, vsa, eD3, hda.imlf im3 acc _ fa, fa, by omega, g13, t3, hb⟩
  · have e1 : i = ds.length := by omega
    subst e1
    rw [List.drop_length] at h'
    exact .inl ⟨st, (show Post tp K H Q (.own (.lst acc)) from h') _ H' (g1.trans g') t' ⟨D, rfl, g1.free t1 hD, tD, vsa, eD, hda, fa⟩⟩
/-! ### a list of one's own, changed -/
def mApp (i : Nat) (g : Ro → M C) (ρ : Ro) : M Res := match ρ[i]? with
  | some (some (.own (.lst ds))) => (g ρ).bind fun c => (match c with
    | .val d => if lenOk (ds.length + 1) = true then .ret (.nx (setOwn i (ds ++ [d]) ρ)) else .fail
    | _ => .fail)
  | _ => .fail
theorem rs_app {i : Nat} {te : TE} {g : Ro → M C} (h1 : RE K te g) : RS K (tDrop (tBM K "list" rAppend (tVar i) (tCons te tNil))) (mApp i g) := by
  intro tp He Hq ρ σ H D r h
  unfold mApp at h
  split at h
  · rename_i ds e
    obtain ⟨a, vs, hs, hl, hd, hf, _⟩ := r.own (vs' := []) (ds' := []) e
    refine ⟨_, hs, .inl ⟨rfl, vs, SqL.of hl⟩, h1 tp He Hq ρ σ H _ r (wp0_mono (fun c hc => ?_) (wp0_bind.mp h))⟩
    intro x H1 g1 t1 rx
    split at hc
    · rename_i d
      obtain ⟨a', vs', hs', hl', hd', hf', up⟩ := (r.go g1 t1).own (vs' := []) (ds' := []) e
      split at hc
      · rename_i l
        refine ⟨a', vs', x, ?_, rfl, hl', by rw [hd'.len]; have := lenOk_le l; omega, ?_⟩
        · rw [hs] at hs'; cases hs'; rfl
        · exact hc σ _ Hq .refl (up _ _ (hd'.app (.cons rx.1 .nil)) (lfAll_app hf' (rfl)))
      · exact hc.elim
    · exact hc.elim
  · exact h.elim
/-- xs[i] = e -/
def mSetAt (i : Nat) (g gi : Ro → M C) (ρ : Ro) : M Res := match ρ[i]? with
  | some (some (.own (.lst ds))) => (g ρ).bind fun c => (gi ρ).bind fun k => (match c, k with
    | .val d, .val (.int j) => (match ixN ds.length j with
      | some n => .ret (.nx (setOwn i (ds.set n d) ρ))
      | none => .fail)
    | _, _ => .fail)
  | _ => .fail
theorem rs_setAt {i : Nat} {te ti : TE} {g gi : Ro → M C} (h1 : RE K te g) (h2 : RE K ti gi) : RS K (tAsg te (gSub (tVar i) ti rSetL)) (mSetAt i g gi) := by
  intro tp He Hq ρ σ H D r h
  unfold mSetAt at h
  split at h
  · rename_i ds e
    refine h1 tp He Hq ρ σ H _ r (wp0_mono (fun c hc => ?_) (wp0_bind.mp h))
    intro x H1 g1 t1 rx
    have r1 := r.go g1 t1
    obtain ⟨a, vs, hs, hl, hd, hf, _⟩ := r1.own (vs' := []) (ds' := []) e
    refine ⟨_, hs, h2 tp He Hq ρ σ H1 _ r1 (wp0_mono (fun k hk => ?_) (wp0_bind.mp hc))⟩
    intro y H2 g2 t2 ry
    split at hk
    · rename_i d j
      cases ry.int
      obtain ⟨a', vs', hs', hl', hd', hf', up⟩ := (r1.go g2 t2).own (vs' := []) (ds' := []) e
      have rx2 := rx.gr g2 t1
      split at hk
      · rename_i n en
        refine ⟨a', vs', j, n, ?_, rfl, hl', by rw [hd'.len]; exact en, ?_⟩
        · rw [hs] at hs'; cases hs'; rfl
        · exact hk σ _ Hq .refl (up _ _ (hd'.set n rx2.1) (lfAll_set n hf' rx2.2))
      · exact hk.elim
    · exact hk.elim
  · exact h.elim
/-- xs.insert(i, e), dropped -/
def rIns : V → List V → Hp → VK → Prop := fun x vs H Q => ∃ (l : Addr) (xs : List V) (i : Int) (y : V), x = .ref l ∧ vs = [.int i, y] ∧ H l = some (.lst xs) ∧ xs.length < sizeLine ∧ 0 ≤ i ∧ i < 2 ^ 63 ∧
    Q .non (upd H l (.lst (xs.take i.toNat ++ [y] ++ xs.drop i.toNat)))
theorem mt_ins {X : Cx} : MtR X "list.insert" rIns := mt_insert
def mIns (i : Nat) (gs : Ro → M (List C)) (ρ : Ro) : M Res := match ρ[i]? with
  | some (some (.own (.lst ds))) => (gs ρ).bind fun cs => (match cs with
    | [.val (.int j), .val d] => if (decide (0 ≤ j) && (decide (j < 9223372036854775808) && lenOk (ds.length + 1))) = true then .ret (.nx (setOwn i (ds.take j.toNat ++ [d] ++ ds.drop j.toNat) ρ)) else .fail
    | _ => .fail)
  | _ => .fail
theorem rs_ins {i : Nat} {ta : TA} {gs : Ro → M (List C)} (h1 : RA K ta gs) : RS K (tDrop (tBM K "list" rIns (tVar i) ta)) (mIns i gs) := by
  intro tp He Hq ρ σ H D r h
  unfold mIns at h
  split at h
  · rename_i ds e
    obtain ⟨a, vs, hs, hl, hd, hf, _⟩ := r.own (vs' := []) (ds' := []) e
    refine ⟨_, hs, .inl ⟨rfl, vs, SqL.of hl⟩, h1 tp He Hq ρ σ H _ r (wp0_mono (fun cs hc => ?_) (wp0_bind.mp h))⟩
    intro xs H1 g1 t1 rx
    split at hc
    · rename_i j d
      obtain ⟨v, y, rfl, q1, q2⟩ := rx.two
      cases q1.int
      obtain ⟨a', vs', hs', hl', hd', hf', up⟩ := (r.go g1 t1).own (vs' := []) (ds' := []) e
      split at hc
      · rename_i l
        simp only [Bool.and_eq_true, decide_eq_true_eq] at l
        refine ⟨a', vs', j, y, ?_, rfl, hl', by rw [hd'.len]; have := lenOk_le l.2.2; omega, l.1, l.2.1, ?_⟩
        · rw [hs] at hs'; cases hs'; rfl
        · exact hc σ _ Hq .refl (up _ _ (((hd'.take _).app (.cons q2.1 .nil)).app (hd'.drop _)) (lfAll_app (lfAll_app (lfAll_take _ hf') (rfl)) (lfAll_drop _ hf')))
      · exact hc.elim
    · exact hc.elim
  · exact h.elim
/-- xs.pop(i), dropped -/
def mPop (i : Nat) (g : Ro → M C) (ρ : Ro) : M Res := match ρ[i]? with
  | some (some (.own (.lst ds))) => (g ρ).bind fun c => (match c with
    | .val (.int j) => if (decide (-9223372036854775808 ≤ j) && decide (j < 9223372036854775808)) = true then (match seqIndex? j ds.length with
      | some k => if k < ds.length then .ret (.nx (setOwn i (ds.eraseIdx k) ρ)) else .fail
      | none => .fail) else .fail
    | _ => .fail)
  | _ => .fail
theorem dp_erase : ∀ {vs : List V} {ds : List PyData} (k : Nat), VlAll K H vs ds → VlAll K H (vs.eraseIdx k) (ds.eraseIdx k)
  | _, _, _, .nil => .nil
  | _, _, 0, .cons h1 h2 => h2
  | _, _, k + 1, .cons h1 h2 => .cons h1 (dp_erase k h2)
theorem lf_erase {ds : List PyData} (k : Nat) (f : lfAll ds = true) : lfAll (ds.eraseIdx k) = true := lfAll_iff.mpr fun d m => lfAll_iff.mp f d (List.mem_of_mem_eraseIdx m)
theorem rs_pop {i : Nat} {te : TE} {g : Ro → M C} (h1 : RE K te g) : RS K (tDrop (tBM K "list" rPopAt (tVar i) (tCons te tNil))) (mPop i g) := by
  intro tp He Hq ρ σ H D r h
  unfold mPop at h
  split at h
  · rename_i ds e
    obtain ⟨a, vs, hs, hl, hd, hf, _⟩ := r.own (vs' := []) (ds' := []) e
    refine ⟨_, hs, .inl ⟨rfl, vs, SqL.of hl⟩, h1 tp He Hq ρ σ H _ r (wp0_mono (fun c hc => ?_) (wp0_bind.mp h))⟩
    intro x H1 g1 t1 rx
    split at hc
    · rename_i j
      cases rx.int
      obtain ⟨a', vs', hs', hl', hd', hf', up⟩ := (r.go g1 t1).own (vs' := []) (ds' := []) e
      split at hc
      · rename_i l
        simp only [Bool.and_eq_true, decide_eq_true_eq] at l
        split at hc
        · rename_i k ek
          split at hc
          · rename_i lk
            obtain ⟨y, hy⟩ : ∃ y, vs'[k]? = some y := ⟨vs'[k]'(by rw [hd'.len]; exact lk), List.getElem?_eq_getElem _⟩
            refine ⟨a', vs', j, k, y, ?_, rfl, hl', l.1, l.2, by rw [hd'.len]; exact ek, hy, ?_⟩
            · rw [hs] at hs'; cases hs'; rfl
            · exact hc σ _ Hq .refl (up _ _ (dp_erase k hd') (lf_erase k hf'))
          · exact hc.elim
        · exact hc.elim
      · exact hc.elim
    · exact hc.elim
  · exact h.elim
/-! ### defs -/
/-- arguments by slots: H0 is what the def leaves as it is; one's own lists may be handed over -/
def SRs (tp : Option (Addr × Addr)) (K : PySem.W.Frag) [WP K] (Hq H : Hp) : List V → List C → Prop
  | [], [] => True
  | v :: vs, c :: cs => SR tp K Hq H v c ∧ SRs tp K Hq H vs cs
  | _, _ => False
structure SpA (tp : Option (Addr × Addr)) (K : PySem.W.Frag) [WP K] (H0 H : Hp) (vs : List V) (cs : List C) : Prop where
  tok : TOk tp H
  gr : GrT tp H0 H
  he : ∀ (t l : Addr), tp = some (t, l) → H0 t = none ∨ ∃ xs, H0 t = some (.lst xs)
  at_ : SRs tp K H0 H vs cs
  dist : ∀ (i j : Nat) (a : Addr) (o o' : PO), cs[i]? = some (.own o) → cs[j]? = some (.own o') → vs[i]? = some (.ref a) → vs[j]? = some (.ref a) → i = j
def spU (K : PySem.W.Frag) [WP K] (f : List C → M C) : Sp := fun vs H Q _ => ∃ tp cs H0, SpA tp K H0 H vs cs ∧ wp0 (f cs) (Post tp K H0 Q)
theorem RCs.lend : ∀ {vs : List V} {cs : List C}, RCs tp K H0 H vs cs → RCs tp K H1 H vs (cs.map C.lend)
  | [], [], _ => trivial
  | v :: vs, c :: cs, h => ⟨h.1.lend, RCs.lend h.2⟩
  | [], _ :: _, h => h.elim
  | _ :: _, [], h => h.elim
theorem RCs.len : ∀ {vs : List V} {cs : List C}, RCs tp K H0 H vs cs → vs.length = cs.length
  | [], [], _ => rfl
  | v :: vs, c :: cs, h => by rw [List.length_cons, List.length_cons, RCs.len h.2]
  | [], _ :: _, h => h.elim
  | _ :: _, [], h => h.elim
theorem RCs.get : ∀ {vs : List V} {cs : List C} {i : Nat} {c : C}, RCs tp K H0 H vs cs → cs[i]? = some c → ∃ v, vs[i]? = some v ∧ RC tp K H0 H v c
  | [], [], _, _, _, e => by simp at e
  | v :: vs, c :: cs, 0, _, h, e => by simp at e; subst e; exact ⟨v, rfl, h.1⟩
  | v :: vs, c :: cs, i + 1, _, h, e => by
    obtain ⟨u, h1, h2⟩ := RCs.get (i := i) h.2 (by simpa using e)
    exact ⟨u, by simpa using h1, h2⟩
  | [], _ :: _, _, _, h, _ => h.elim
  | _ :: _, [], _, _, h, _ => h.elim
theorem SRs.len : ∀ {vs : List V} {cs : List C}, SRs tp K Hq H vs cs → vs.length = cs.length
  | [], [], _ => rfl
  | v :: vs, c :: cs, h => by rw [List.length_cons, List.length_cons, SRs.len h.2]
  | [], _ :: _, h => h.elim
  | _ :: _, [], h => h.elim
theorem SRs.get : ∀ {vs : List V} {cs : List C} {i : Nat} {c : C}, SRs tp K Hq H vs cs → cs[i]? = some c → ∃ v, vs[i]? = some v ∧ SR tp K Hq H v c
  | [], [], _, _, _, e => by simp at e
  | v :: vs, c :: cs, 0, _, h, e => by simp at e; subst e; exact ⟨v, rfl, h.1⟩
  | v :: vs, c :: cs, i + 1, _, h, e => by
    obtain ⟨u, h1, h2⟩ := SRs.get (i := i) h.2 (by simpa using e)
    exact ⟨u, by simpa using h1, h2⟩
  | [], _ :: _, _, _, h, _ => h.elim
  | _ :: _, [], _, _, h, _ => h.elim
theorem RC.slot {v : V} {c : C} (h : RC tp K H H v c) : SR tp K H H v c := by
  cases c with
  | val d => exact h
  | own o => exact h
  | bor o => exact h
  | tape => exact h
theorem RCs.slots : ∀ {vs : List V} {cs : List C}, RCs tp K H H vs cs → SRs tp K H H vs cs
  | [], [], _ => trivial
  | v :: vs, c :: cs, h => ⟨h.1.slot, RCs.slots h.2⟩
  | [], _ :: _, h => h.elim
  | _ :: _, [], h => h.elim
theorem SpA.lent {vs : List V} {cs : List C} (t : TOk tp H) (rc : RCs tp K H H vs cs) (no : ∀ c ∈ cs, ∀ o, c ≠ .own o) : SpA tp K H H vs cs :=
  ⟨t, .refl, fun a l e => .inr (t a l e).list, rc.slots, fun i _ _ o _ e1 => absurd rfl (no _ (List.mem_of_getElem? e1) o)⟩
def gFn (f : List C → M C) (gs : Ro → M (List C)) (ρ : Ro) : M C := (gs ρ).bind fun cs => f (cs.map C.lend)
theorem re_fn {f : List C → M C} {t : TA} {gs : Ro → M (List C)} (h1 : RA K t gs) : RE K (tFn (spU K f) t) (gFn f gs) := by
  intro tp He Hq ρ σ H Q r h
  refine h1 tp He Hq ρ σ H _ r (wp0_mono (fun cs hc => ?_) (wp0_bind.mp h))
  intro vs H1 g1 t1 rx
  refine ⟨tp, cs.map C.lend, H1, SpA.lent t1 rx.lend fun c m o z => ?_, wp0_mono (fun c hc => hc.after g1 t1) hc⟩
  obtain ⟨c', _, e⟩ := List.mem_map.mp m
  subst z
  cases c' <;> cases e
/-- a drawn number -/
def drawC : List C → M C
  | [.tape, .val (.int m)] => if decide (m ≤ 1000000000) = true then .draw m fun v => .ret (.val (.int v)) else .fail
  | _ => .fail
theorem re_draw {t : TA} {gs : Ro → M (List C)} (h1 : RA K t gs) : RE K (tFn (sp_law_draw K) t) (gCall drawC gs) := by
  intro tp He Hq ρ σ H Q r h
  refine h1 tp He Hq ρ σ H _ r (wp0_mono (fun cs hc => ?_) (wp0_bind.mp h))
  intro vs H1 g1 t1 rx
  unfold drawC at hc
  split at hc
  · rename_i m
    obtain ⟨v, w, rfl, q1, q2⟩ := rx.two
    cases q2.int
    obtain ⟨t, l, rfl, rfl⟩ := q1
    split at hc
    · rename_i lm
      refine ⟨t, l, m, rfl, t1 t l rfl, of_decide_eq_true lm, fun v H' T al h0 h2 => hc v h0 h2 _ H' (g1.trans fun b o e n => ?_) (fun t' l' e => by cases e; exact T) ⟨.int v, rfl⟩⟩
      rw [al b (fun z => n (by simp [z]))]
      exact e
    · exact hc.elim
  · exact hc.elim
def Res.out : Res → M C
  | .rt c => .ret c
  | .nx _ => .ret (.val .none)
  | _ => .fail
/-- a def: n parameters, k further names -/
def fnU (n k : Nat) (m : Ro → M Res) (cs : List C) : M C := if cs.length = n then (m (cs.map some ++ List.replicate k none)).bind Res.out else .fail
theorem start_rel {vs : List V} {cs : List C} {N : List Str} {k : Nat} (S : SpA tp K H0 H vs cs) (hN : N.length - vs.length = k) :
    Rel tp K H0 H0 H (L2.start N vs) (cs.map some ++ List.replicate k none) := by
  have hl := S.at_.len
  have at1 : ∀ {i : Nat} {c : C}, (cs.map some ++ List.replicate k none)[i]? = some (some c) → cs[i]? = some c := fun {i c} e => by
    by_cases hi : i < cs.length
    · rw [List.getElem?_append_left (by simpa using hi), List.getElem?_map] at e
      cases q : cs[i]? with
      | none => rw [q] at e; cases e
      | some c' => rw [q] at e; cases e; rfl
    · rw [List.getElem?_append_right (by simpa using hi), List.getElem?_replicate] at e
      split at e <;> cases e
  have st : ∀ {i : Nat} {v : V}, vs[i]? = some v → (L2.start N vs)[i]? = some (some v) := fun {i v} h1 => by
    unfold L2.start
    rw [List.getElem?_append_left (by simpa using (List.getElem?_eq_some_iff.mp h1).1), List.getElem?_map, h1]
    rfl
  refine ⟨?_, fun i c e => ?_, fun i j a o o' e1 e2 e3 e4 => ?_, .refl, S.gr, S.tok, S.he⟩
  · unfold L2.start
    simp only [List.length_append, List.length_map, List.length_replicate]
    omega
  · obtain ⟨v, h1, h2⟩ := S.at_.get (at1 e)
    exact ⟨v, st h1, h2⟩
  · obtain ⟨v, h1, _⟩ := S.at_.get (at1 e1)
    obtain ⟨u, h2, _⟩ := S.at_.get (at1 e2)
    have q1 := st h1
    have q2 := st h2
    rw [q1] at e3
    rw [q2] at e4
    cases e3
    cases e4
    exact S.dist i j a o o' (at1 e1) (at1 e2) h1 h2
theorem Df.uni {P : Program} {w : World} {mg : Str → Option Value} {base : Heap} {x : Str} {st : Stmt} {N ps : List Str} {k n : Nat} {m : Ro → M Res} (A : At K mg x st)
    (bd : ∀ (kV doc pm : Value) (an : Option Addr) (cdv ct : Value) (us : List Value), us.length = ps.length → bindArgs (PySem.W.fnOf x x (defArgs st) (defBody st) (defScope st) .none kV doc pm an cdv ct) ⟨us, []⟩ = pure (ps.zip us))
    (S : FnScope N ps (defScope st)) (hn : N.length - ps.length = n)
    (body : ∀ (cdv : Value) (A : Around) (out : List Env) (f : Addr) (s : Shared) (H : Hp) (E : XK), Room k (A.deeper (envOfC x (defScope st) s.heap.objs.size f cdv)) → A.guards = some [] →
      ∃ t, PSs (cxG P w K mg base N x (defScope st) f cdv A out s H E) (defBody st) t ∧ RS K t m) :
    Df P w K mg base (k + 1) x ps (spU K (fnU ps.length n m)) := by
  refine Df.of A bd S (fun vs H Q E h => ?_) (fun cdv A out f s H vs Q E hr hg h => ?_)
  · obtain ⟨tp, cs, H0, S0, h⟩ := h
    unfold fnU at h
    split at h
    · rename_i e
      rw [S0.at_.len, e]
    · exact h.elim
  · obtain ⟨tp, cs, H0, S0, h⟩ := h
    obtain ⟨t', h1, h2⟩ := body cdv A out f s H E hr hg
    refine ⟨t', h1, ?_⟩
    unfold fnU at h
    split at h
    · rename_i e
      refine h2 tp H0 H0 _ _ H _ (start_rel S0 (by rw [S0.at_.len, e]; exact hn)) (wp0_mono (fun q hq => ?_) (wp0_bind.mp h))
      cases q with
      | nx ρ' => exact fun σ' H' Hq' g' r' => hq .non H' (r'.sub.trans r'.gr) r'.tok ⟨.non, rfl⟩
      | rt c => exact hq
      | bk _ => exact hq.elim
      | ct _ => exact hq.elim
    · exact h.elim
/-- the law's own def: the tape is made, then the rest runs from it -/
theorem law_rel {a t l : Addr} {ns : List Int} {k : Nat} (T : TapeAt H t l) (g : Same H0 H) (n : H0 t = none) : Rel (some (t, l)) K H0 H0 H ([some (.ref a), some (.ref t)] ++ List.replicate k none) ([none, some .tape] ++ List.replicate k none) := by
  have at1 : ∀ {i : Nat} {c : C}, (([none, some .tape] : Ro) ++ List.replicate k none)[i]? = some (some c) → i = 1 ∧ c = .tape := fun {i c} e => by
    match i, e with
    | 0, e => cases e
    | 1, e => cases e; exact ⟨rfl, rfl⟩
    | i + 2, e =>
      rw [List.getElem?_append_right (by simp), List.getElem?_replicate] at e
      split at e <;> cases e
  refine ⟨by simp, fun i c e => ?_, fun i j b o o' e1 => ?_, .refl, .of g, fun t' l' e => by cases e; exact T, fun t' l' e => by cases e; exact .inl n⟩
  · obtain ⟨rfl, rfl⟩ := at1 e
    exact ⟨.ref t, rfl, t, l, rfl, rfl⟩
  · obtain ⟨_, z⟩ := at1 e1
    cases z
theorem law_go {t : TS} {m : Ro → M Res} {H : Hp} {a : Addr} {k : Nat} {D : Ends} {ns : List Int} (h : RS K t m) (hS : SqL K H a (ns.map V.int)) (hl : ns.length ≤ 63)
    (pure_ : wp0 (m ([none, some .tape] ++ List.replicate k none)) fun r => r = .rt (.val (.bool true))) (q : ∀ H', D.rt (.bl true) H') :
    tSeq (tAsg (tFn (sp_law_tape K) (tCons (tVar 0) tNil)) (gName 1)) t D ([some (.ref a), none] ++ List.replicate k none) H := by
  refine ⟨_, rfl, a, ns, rfl, hS, hl, fun tt l H1 sm T nt nl => ?_⟩
  refine h (some (tt, l)) H H _ _ H1 D (law_rel (ns := ns) T sm nt) (wp0_mono (fun r e => ?_) pure_)
  subst e
  intro v H' _ _ rc
  cases rc.bl
  exact q H'
end
end Cs
namespace Cs
open PySem PySem.Spec PyProof.Rows L2
theorem u65 {k : Nat} {A : Around} (r : Room k A) : A.units + 65 < cLine := by have := r.un; omega
end Cs

set_option maxRecDepth 100000
set_option maxHeartbeats 4000000
/-! isinstance, is of bools, list(range ..), reversed -/
namespace Cs
open PySem PySem.Spec PyProof.Rows L2
section
variable {tp : Option (Addr × Addr)} {K : PySem.W.Frag} [WP K] {H H' H'' H0 H1 He : Hp} {Hq : Hp} {σ : L2.St} {ρ : Ro}
theorem isiK (K : PySem.W.Frag) {X : Cx} (h : X.K = K := by rfl) : CallR X (.builtin "isinstance") (rIsi K) := h ▸ call_isi
def tyD : PyData → Option String
  | .none => some "NoneType"
  | .bool _ => some "bool"
  | .int _ => some "int"
  | .str _ => some "str"
  | _ => none
def isiT (T : String) : Option String → M C
  | some s => (match kitB s T with
    | some b => .ret (.val (.bool b))
    | none => .fail)
  | none => .fail
def oIsi (T : String) : C → M C
  | .val d => isiT T (tyD d)
  | _ => .fail
theorem kit_bool_int : kitB "bool" "int" = some true := by decide +kernel
theorem kit_int_int : kitB "int" "int" = some true := by decide +kernel
theorem kit_int_bool : kitB "int" "bool" = some false := by decide +kernel
theorem kit_bool_bool : kitB "bool" "bool" = some true := by decide +kernel
theorem kit_none_int : kitB "NoneType" "int" = some false := by decide +kernel
theorem kit_str_str : kitB "str" "str" = some true := by decide +kernel
theorem kit_none_bool : kitB "NoneType" "bool" = some false := by decide +kernel
theorem re_isi {T : String} {ta : TE} {g : Ro → M C} (h1 : RE K ta g) : RE K (tCB (rIsi K) (tCons ta (tCons (tC (.ty T)) tNil))) (gUn (oIsi T) g) := by
  intro tp He Hq ρ σ H Q r h
  refine h1 tp He Hq ρ σ H _ r (wp0_mono (fun c hc => ?_) (wp0_bind.mp h))
  intro x H1 g1 t1 rx
  cases c with
  | val d =>
    have key : ∀ {s : String}, TyOf K H1 x (.type s) → wp0 (isiT T (some s)) (Post tp K H Q) → rIsi K [x, .ty T] H1 Q := fun {s} ty h => by
      unfold isiT at h
      dsimp only at h
      split at h
      · rename_i b e
        exact ⟨x, .ty T, .type s, .type T, b, rfl, .ty T, .base ty, kit_ty e, Post.bl h g1 t1⟩
      · exact h.elim
    obtain ⟨hd, _⟩ := rx
    cases hd with
    | non => exact key .non hc
    | bl b => exact key (.bl b) hc
    | int i => exact key (.int i) hc
    | str s => exact key (.str s) hc
    | lst _ _ => exact hc.elim
    | tup _ _ => exact hc.elim
  | own o => exact hc.elim
  | bor o => exact hc.elim
  | tape => exact hc.elim
/-! is -/
def rIsU (n : Bool) : R2 := fun x y H Q => (y = .non ∧ Q (.bl (n ^^ decide (x = .non))) H) ∨ ∃ a b, x = .bl a ∧ y = .bl b ∧ Q (.bl (n ^^ decide (a = b))) H
theorem opIs {X : Cx} : OpR X (compareOp .Is) (rIsU false) := by
  intro pins s σ H x y v u Q I rx ry h
  rcases h with ⟨e, q⟩ | ⟨a, b, e1, e2, q⟩
  · rw [Bool.false_xor] at q
    exact op_isN pins s σ H x y v u Q I rx ry ⟨e, q⟩
  · rw [Bool.false_xor] at q
    exact op_is_bl pins s σ H x y v u Q I rx ry ⟨a, b, e1, e2, q⟩
theorem opIsNot {X : Cx} : OpR X (compareOp .IsNot) (rIsU true) := by
  intro pins s σ H x y v u Q I rx ry h
  rcases h with ⟨e, q⟩ | ⟨a, b, e1, e2, q⟩
  · rw [Bool.true_xor] at q
    exact op_notN pins s σ H x y v u Q I rx ry ⟨e, q⟩
  · rw [Bool.true_xor] at q
    exact op_isnot_bl pins s σ H x y v u Q I rx ry ⟨a, b, e1, e2, q⟩
def oIsX (n : Bool) : C → C → M C
  | a, .val .none => .ret (.val (.bool (n ^^ a.isN)))
  | .val (.bool a), .val (.bool b) => .ret (.val (.bool (n ^^ decide (a = b))))
  | _, _ => .fail
theorem os_isX {n : Bool} : OpS K (rIsU n) (oIsX n) := by
  intro tp H0 H x y cx cy Q g t rx ry h
  unfold oIsX at h
  split at h
  · cases ry.non
    exact .inl ⟨rfl, by rw [rx.isN]; exact Post.bl h g t⟩
  · rename_i a b
    cases rx.bl; cases ry.bl
    exact .inr ⟨a, b, rfl, rfl, Post.bl h g t⟩
  · exact h.elim
/-! list(range(..)), tuple(range(..)) -/
def RR (K : PySem.W.Frag) [WP K] (t : L2.St → Hp → (Int → Int → Hp → Prop) → Prop) (g : Ro → M (Int × Int)) : Prop := ∀ tp He Hq ρ σ H (Q : Int → Int → Hp → Prop), Rel tp K He Hq H σ ρ → wp0 (g ρ) (fun p => ∀ H', GrT tp H H' → TOk tp H' → Q p.1 p.2 H') → t σ H Q
def gR1 (g : Ro → M C) (ρ : Ro) : M (Int × Int) := (g ρ).bind fun c => match c with
  | .val (.int j) => .ret (0, j)
  | _ => .fail
theorem rr_1 {ta : TE} {g : Ro → M C} (h1 : RE K ta g) : RR K (tRg1 ta) (gR1 g) := by
  intro tp He Hq ρ σ H Q r h
  refine h1 tp He Hq ρ σ H _ r (wp0_mono (fun c hc => ?_) (wp0_bind.mp h))
  intro x H1 g1 t1 rx
  split at hc
  · cases rx.int
    exact ⟨_, rfl, hc H1 g1 t1⟩
  · exact hc.elim
def gR2 (g1 g2 : Ro → M C) (ρ : Ro) : M (Int × Int) := (g1 ρ).bind fun c => (g2 ρ).bind fun d => match c, d with
  | .val (.int i), .val (.int j) => .ret (i, j)
  | _, _ => .fail
theorem rr_2 {ta tb : TE} {g1 g2 : Ro → M C} (h1 : RE K ta g1) (h2 : RE K tb g2) : RR K (tRg2 ta tb) (gR2 g1 g2) := by
  intro tp He Hq ρ σ H Q r h
  refine h1 tp He Hq ρ σ H _ r (wp0_mono (fun c hc => ?_) (wp0_bind.mp h))
  intro x H1 e1 t1 rx
  refine h2 tp He Hq ρ σ H1 _ (r.go e1 t1) (wp0_mono (fun d hd => ?_) (wp0_bind.mp hc))
  intro y H2 e2 t2 ry
  split at hd
  · cases rx.int; cases ry.int
    exact ⟨_, _, rfl, rfl, hd H2 (e1.trans e2) t2⟩
  · exact hd.elim
theorem dp_rgV (a b : Int) : VlAll K H (rgV a b) (rngD a 1 (b - a).toNat) := by
  unfold rgV rngD
  generalize List.range (b - a).toNat = l
  induction l with
  | nil => exact .nil
  | cons i l ih =>
    rw [List.map_cons, List.map_cons, Int.mul_one]
    exact .cons (.int _) ih
def rgOk (a b : Int) : Bool := rngOk a && (rngOk b && lenOk (b - a).toNat)
theorem rgOk_of {a b : Int} (h : rgOk a b = true) : RgOk a b := by
  simp only [rgOk, Bool.and_eq_true] at h
  obtain ⟨h1, h2⟩ := rngOk_of h.1
  obtain ⟨h3, h4⟩ := rngOk_of h.2.1
  exact ⟨h1, h2, h3, h4, by have := of_decide_eq_true h.2.2; omega⟩
def gLstRg (g : Ro → M (Int × Int)) (ρ : Ro) : M C := (g ρ).bind fun p => if rgOk p.1 p.2 = true then .ret (.own (.lst (rngD p.1 1 (p.2 - p.1).toNat))) else .fail
def gTupRg (g : Ro → M (Int × Int)) (ρ : Ro) : M C := (g ρ).bind fun p => if rgOk p.1 p.2 = true then .ret (.val (.tuple (rngD p.1 1 (p.2 - p.1).toNat))) else .fail
theorem re_lstRg {te : L2.St → Hp → (Int → Int → Hp → Prop) → Prop} {g : Ro → M (Int × Int)} (h1 : RR K te g) : RE K (tLstRg te) (gLstRg g) := by
  intro tp He Hq ρ σ H Q r h
  refine h1 tp He Hq ρ σ H _ r (wp0_mono (fun p hp => ?_) (wp0_bind.mp h))
  intro H1 g1 t1
  split at hp
  · rename_i l
    exact ⟨rgOk_of l, fun q hq => Post.lst hp g1 t1 hq (dp_rgV _ _) (lf_rng _ _ _)⟩
  · exact hp.elim
theorem re_tupRg {te : L2.St → Hp → (Int → Int → Hp → Prop) → Prop} {g : Ro → M (Int × Int)} (h1 : RR K te g) : RE K (tTupRg te) (gTupRg g) := by
  intro tp He Hq ρ σ H Q r h
  refine h1 tp He Hq ρ σ H _ r (wp0_mono (fun p hp => ?_) (wp0_bind.mp h))
  intro H1 g1 t1
  split at hp
  · rename_i l
    exact ⟨rgOk_of l, fun q hq => Post.tup hp g1 t1 hq (dp_rgV _ _) (lf_rng _ _ _)⟩
  · exact hp.elim
/-! range(a, b, c) -/
def rg3N (i j c : Int) : Nat := ((j - i + c - 1) / c).toNat
end
end Cs

set_option maxRecDepth 100000
set_option maxHeartbeats 4000000
/-! reckoning with plain programs -/
namespace Cs
open PySem PySem.Spec PyProof.Rows L2
variable {α β γ : Type}
@[irreducible] def wp (m : M α) (Q : α → Prop) : Prop := wp0 m Q
theorem wp_def {m : M α} {Q : α → Prop} : wp m Q = wp0 m Q := by unfold wp; rfl
theorem wp_out {m : M α} {Q : α → Prop} (h : wp m Q) : wp0 m Q := by rw [← wp_def]; exact h
theorem wp_mono {Q Q' : α → Prop} (h : ∀ a, Q a → Q' a) {m : M α} : wp m Q → wp m Q' := by rw [wp_def, wp_def]; exact wp0_mono h
theorem wp_bind {f : α → M β} {Q : β → Prop} {m : M α} : wp (m.bind f) Q ↔ wp m fun a => wp (f a) Q := by simp only [wp_def]; exact wp0_bind
theorem wp_failE {Q : α → Prop} : wp (.fail : M α) Q = False := by rw [wp_def]; rfl
theorem wp_retE {a : α} {Q : α → Prop} : wp (.ret a) Q = Q a := by rw [wp_def]; rfl
theorem wp_drawE {m : Int} {k : Int → M α} {Q : α → Prop} : wp (.draw m k) Q = ∀ v, 0 ≤ v → v < max m 1 → wp (k v) Q := by simp only [wp_def]; rfl
theorem wp_bindE {m : M α} {f : α → M β} {Q : β → Prop} : wp (m.bind f) Q = wp m fun a => wp (f a) Q := propext wp_bind
theorem wp_anyE {p : PyData → Prop} {k : PyData → M α} {Q : α → Prop} : wp (.any p k) Q = ∀ d, p d → wp (k d) Q := by simp only [wp_def]; rfl
theorem anyB (p : PyData → Prop) (k : PyData → M α) (f : α → M β) : (M.any p k).bind f = .any p fun v => (k v).bind f := (rfl)
theorem bind_bind (m : M α) (f : α → M β) (g : β → M γ) : (m.bind f).bind g = m.bind fun a => (f a).bind g := M.bind_assoc f g m
theorem retB (a : α) (f : α → M β) : (M.ret a).bind f = f a := (rfl)
theorem bindR (m : M α) : (m.bind fun a => .ret a) = m := by
  induction m with
  | ret a => rfl
  | fail => rfl
  | draw m k ih => exact congrArg (M.draw m) (funext ih)
  | any p k ih => exact congrArg (M.any p) (funext ih)
theorem failB (f : α → M β) : (M.fail : M α).bind f = .fail := (rfl)
theorem drawB (m : Int) (k : Int → M α) (f : α → M β) : (M.draw m k).bind f = .draw m fun v => (k v).bind f := (rfl)
/- only what is run next is looked at -/
theorem bind_cg {m m' : M α} {f : α → M β} (h : m = m') : m.bind f = m'.bind f := by rw [h]
theorem wp_cg {m m' : M α} {Q : α → Prop} (h : m = m') : wp m Q = wp m' Q := by rw [h]
theorem draw_cg {m m' : Int} {k : Int → M α} (h : m = m') : M.draw m k = M.draw m' k := by rw [h]
theorem ite_cg {c c' : Prop} [Decidable c] [Decidable c'] {x y : M α} (h : c = c') : (if c then x else y) = if c' then x else y := by
  by_cases hc : c
  · rw [if_pos hc, if_pos (h ▸ hc)]
  · rw [if_neg hc, if_neg (h ▸ hc)]
theorem wp_call {m : M α} {k : α → M β} {Q : β → Prop} (P : α → Prop) (h : wp m P) (q : ∀ a, P a → wp (k a) Q) : wp (m.bind k) Q := wp_bind.mpr (wp_mono q h)
theorem wp_eq {m : M α} {k : α → M β} {Q : β → Prop} {a : α} (h : wp m fun x => x = a) (q : wp (k a) Q) : wp (m.bind k) Q := wp_call _ h fun x e => e ▸ q
theorem wp_ite {c : Prop} [Decidable c] {a b : M α} {Q : α → Prop} (h1 : c → wp a Q) (h2 : ¬c → wp b Q) : wp (if c then a else b) Q := by
  by_cases hc : c
  · rw [if_pos hc]; exact h1 hc
  · rw [if_neg hc]; exact h2 hc
theorem iteB {c : Prop} [Decidable c] {a b : M α} {k : α → M β} : (if c then a else b).bind k = if c then a.bind k else b.bind k := by split <;> rfl
/-! ### the programs' parts, step by step -/
variable {ρ : Ro} {g ga gb gc : Ro → M C}
def kSeq (n : Ro → M Res) : Res → M Res
  | .nx ρ' => n ρ'
  | r => .ret r
theorem kSeq_nx {n : Ro → M Res} : kSeq n (.nx ρ) = n ρ := (rfl)
theorem kSeq_rt {n : Ro → M Res} {c : C} : kSeq n (.rt c) = .ret (.rt c) := (rfl)
theorem kSeq_bk {n : Ro → M Res} : kSeq n (.bk ρ) = .ret (.bk ρ) := (rfl)
theorem kSeq_ct {n : Ro → M Res} : kSeq n (.ct ρ) = .ret (.ct ρ) := (rfl)
theorem mSeq_eq {m n : Ro → M Res} : mSeq m n ρ = (m ρ).bind (kSeq n) := by
  unfold mSeq
  congr 1
theorem mNext_eq : mNext ρ = .ret (.nx ρ) := (rfl)
theorem mBreak_eq : mBreak ρ = .ret (.bk ρ) := (rfl)
theorem mCont_eq : mCont ρ = .ret (.ct ρ) := (rfl)
theorem mDrop_eq : mDrop g ρ = (g ρ).bind fun _ => .ret (.nx ρ) := (rfl)
theorem mRet_eq : mRet g ρ = (g ρ).bind fun c => .ret (.rt c) := (rfl)
theorem mRetN_eq : mRetN ρ = .ret (.rt (.val .none)) := (rfl)
theorem mAsg_eq {a : C → Ro → M Ro} : mAsg g a ρ = (g ρ).bind fun c => (a c ρ).bind fun ρ' => .ret (.nx ρ') := (rfl)
theorem mIf_eq {t : Ro → M Bool} {m n : Ro → M Res} : mIf t m n ρ = (t ρ).bind fun b => if b = true then m ρ else n ρ := (rfl)
/-! names -/
def gAt : Option (Option C) → M C
  | some (some (.own o)) => .ret (.bor o)
  | some (some c) => .ret c
  | _ => .fail
theorem gVar_eq {i : Nat} : gVar i ρ = gAt ρ[i]? := (rfl)
theorem gAt_v {d : PyData} : gAt (some (some (.val d))) = .ret (.val d) := (rfl)
theorem gAt_o {o : PO} : gAt (some (some (.own o))) = .ret (.bor o) := (rfl)
theorem gAt_b {o : PO} : gAt (some (some (.bor o))) = .ret (.bor o) := (rfl)
theorem gAt_t : gAt (some (some .tape)) = .ret .tape := (rfl)
def rAt : Option (Option C) → M Res
  | some (some c) => .ret (.rt c)
  | _ => .fail
theorem mRetV_eq {i : Nat} : mRetV i ρ = rAt ρ[i]? := (rfl)
theorem rAt_s {c : C} : rAt (some (some c)) = .ret (.rt c) := (rfl)
def aAt (ρ : Ro) (i : Nat) (c : C) : Option (Option C) → M Ro
  | some _ => (match c with
    | .val d => .ret (ρ.set i (some (.val d)))
    | .own o => .ret (ρ.set i (some (.own o)))
    | _ => .fail)
  | none => .fail
theorem asgR_eq {i : Nat} {c : C} : asgR i c ρ = aAt ρ i c ρ[i]? := (rfl)
theorem aAt_v {i : Nat} {d : PyData} {x : Option C} : aAt ρ i (.val d) (some x) = .ret (ρ.set i (some (.val d))) := (rfl)
theorem aAt_o {i : Nat} {d : PO} {x : Option C} : aAt ρ i (.own d) (some x) = .ret (ρ.set i (some (.own d))) := (rfl)
theorem get_0 {x : Option C} : (x :: ρ)[0]? = some x := (rfl)
theorem get_s {x : Option C} {i : Nat} : (x :: ρ)[i + 1]? = ρ[i]? := (rfl)
theorem set_0' {x y : Option C} : List.set (x :: ρ) 0 y = y :: ρ := (rfl)
theorem set_s' {x y : Option C} {i : Nat} : List.set (x :: ρ) (i + 1) y = x :: List.set ρ i y := (rfl)
/-! targets -/
theorem aNil_eq : aNil [] ρ = .ret ρ := (rfl)
theorem aCons_eq {a : C → Ro → M Ro} {as : List PyData → Ro → M Ro} {d : PyData} {ds : List PyData} : aCons a as (d :: ds) ρ = (a (.val d) ρ).bind fun ρ' => as ds ρ' := (rfl)
theorem aTup_eq {n : Nat} {as : List PyData → Ro → M Ro} {ds : List PyData} : aTup n as (.val (.tuple ds)) ρ = if ds.length = n then as ds ρ else .fail := (rfl)
def kPar (i j : Nat) (ρ : Ro) : List C → M Res
  | [c, d] => (asgR i c ρ).bind fun ρ1 => (match d with
    | .own _ => (.fail : M Res)
    | d => (asgR j d ρ1).bind fun ρ2 => .ret (.nx ρ2))
  | _ => .fail
theorem mPar_eq {i j : Nat} {gs : Ro → M (List C)} : mPar i j gs ρ = (gs ρ).bind (kPar i j ρ) := by
  unfold mPar
  congr 1
theorem kPar_v {i j : Nat} {c : C} {d : PyData} : kPar i j ρ [c, .val d] = (asgR i c ρ).bind fun ρ1 => (asgR j (.val d) ρ1).bind fun ρ2 => .ret (.nx ρ2) := (rfl)
/-! expressions -/
theorem gC_eq {d : PyData} : gC d ρ = .ret (.val d) := (rfl)
theorem gaNil_eq : gaNil ρ = .ret [] := (rfl)
theorem gaCons_eq {gs : Ro → M (List C)} : gaCons g gs ρ = (g ρ).bind fun c => (gs ρ).bind fun cs => .ret (c :: cs) := (rfl)
theorem gTupE_eq {gs : Ro → M (List C)} : gTupE gs ρ = (gs ρ).bind oTup := (rfl)
theorem gLst_eq {gs : Ro → M (List C)} : gLst gs ρ = (gs ρ).bind oLst := (rfl)
theorem gOp_eq {op : C → C → M C} : gOp op ga gb ρ = (ga ρ).bind fun a => (gb ρ).bind fun b => op a b := (rfl)
theorem gUn_eq {op : C → M C} : gUn op ga ρ = (ga ρ).bind op := (rfl)
theorem gCall_eq {op : List C → M C} {gs : Ro → M (List C)} : gCall op gs ρ = (gs ρ).bind op := (rfl)
theorem gFn_eq {f : List C → M C} {gs : Ro → M (List C)} : gFn f gs ρ = (gs ρ).bind fun cs => f (cs.map C.lend) := (rfl)
theorem map_nilC : List.map C.lend [] = [] := (rfl)
theorem map_consC {c : C} {cs : List C} : List.map C.lend (c :: cs) = c.lend :: List.map C.lend cs := (rfl)
theorem lend_v {d : PyData} : C.lend (.val d) = .val d := (rfl)
theorem lend_o {d : PO} : C.lend (.own d) = .bor d := (rfl)
theorem lend_b {d : PO} : C.lend (.bor d) = .bor d := (rfl)
theorem lend_t : C.lend .tape = .tape := (rfl)
theorem gTru_eq : gTru g ρ = (g ρ).bind oTru := (rfl)
theorem gTest_eq : gTest g ρ = (g ρ).bind oBl := (rfl)
theorem oBl_b {b : Bool} : oBl (.val (.bool b)) = .ret b := (rfl)
theorem oTru_v {d : PyData} : oTru (.val d) = truD d := (rfl)
theorem oTru_o {ds : List PyData} : oTru (.own (.lst ds)) = .ret (!ds.isEmpty) := (rfl)
theorem oTru_b {ds : List PyData} : oTru (.bor (.lst ds)) = .ret (!ds.isEmpty) := (rfl)
theorem truD_n : truD .none = .ret false := (rfl)
theorem truD_b {b : Bool} : truD (.bool b) = .ret b := (rfl)
theorem truD_i {i : Int} : truD (.int i) = .ret (i != 0) := (rfl)
theorem truD_t {ds : List PyData} : truD (.tuple ds) = .ret (!ds.isEmpty) := (rfl)
/-- b and m, a test; m is looked at -/
def mAnd (b : Bool) (m : M Bool) : M Bool := if b = true then m else .ret false
def mOr (b : Bool) (m : M Bool) : M Bool := if b = true then .ret true else m
theorem mAnd_r {b c : Bool} : mAnd b (.ret c) = .ret (b && c) := by cases b <;> rfl
theorem mOr_r {b c : Bool} : mOr b (.ret c) = .ret (b || c) := by cases b <;> rfl
theorem mAnd_t {m : M Bool} : mAnd true m = m := (rfl)
theorem mAnd_f {m : M Bool} : mAnd false m = .ret false := (rfl)
theorem mOr_t {m : M Bool} : mOr true m = .ret true := (rfl)
theorem mOr_f {m : M Bool} : mOr false m = m := (rfl)
theorem mAnd_ite {b : Bool} {m : M Bool} : mAnd b m = if b = true then m else .ret false := (rfl)
theorem mOr_ite {b : Bool} {m : M Bool} : mOr b m = if b = true then .ret true else m := (rfl)
theorem gAnd_eq {g1 g2 : Ro → M Bool} : gAnd g1 g2 ρ = (g1 ρ).bind fun b => mAnd b (g2 ρ) := (rfl)
theorem gOr_eq {g1 g2 : Ro → M Bool} : gOr g1 g2 ρ = (g1 ρ).bind fun b => mOr b (g2 ρ) := (rfl)
theorem gNot_eq {g1 : Ro → M Bool} : gNot g1 ρ = (g1 ρ).bind fun b => .ret (!b) := (rfl)
/-- as values -/
def mAndC (b : Bool) (m : M C) (c : C) : M C := if b = true then m else .ret c
def mOrC (b : Bool) (m : M C) (c : C) : M C := if b = true then .ret c else m
theorem mAndC_r {b q : Bool} : mAndC b (.ret (.val (.bool q))) (.val (.bool b)) = .ret (.val (.bool (b && q))) := by cases b <;> rfl
theorem mAndC_f {b q : Bool} : mAndC b (.ret (.val (.bool q))) (.val (.bool false)) = .ret (.val (.bool (b && q))) := by cases b <;> rfl
theorem mOrC_r {b q : Bool} : mOrC b (.ret (.val (.bool q))) (.val (.bool b)) = .ret (.val (.bool (b || q))) := by cases b <;> rfl
theorem mAndC_ite {b : Bool} {m : M C} {c : C} : mAndC b m c = if b = true then m else .ret c := (rfl)
theorem mOrC_ite {b : Bool} {m : M C} {c : C} : mOrC b m c = if b = true then .ret c else m := (rfl)
theorem gAndT_eq {g1 g2 : Ro → M C} : gAndT g1 g2 ρ = (g1 ρ).bind fun c => (oTru c).bind fun b => mAndC b (g2 ρ) c := (rfl)
theorem gOrT_eq {g1 g2 : Ro → M C} : gOrT g1 g2 ρ = (g1 ρ).bind fun c => (oTru c).bind fun b => mOrC b (g2 ρ) c := (rfl)
theorem gNotT_eq {g1 : Ro → M C} : gNotT g1 ρ = (g1 ρ).bind fun c => (oTru c).bind fun b => .ret (.val (.bool (!b))) := (rfl)
theorem gIfE_eq {t : Ro → M Bool} {g1 g2 : Ro → M C} : gIfE t g1 g2 ρ = (t ρ).bind fun b => if b = true then g1 ρ else g2 ρ := (rfl)
theorem gChain_eq {o1 o2 : C → C → M C} : gChain o1 o2 ga gb gc ρ = (ga ρ).bind fun a => (gb ρ).bind fun b => (o1 a.lend b.lend).bind fun r => (oBl r).bind fun k => mAndC k ((gc ρ).bind fun c => o2 b c) (.val (.bool false)) := (rfl)
theorem gNo_eq : gNo ρ = .ret none := (rfl)
theorem gSome_eq : gSome g ρ = (g ρ).bind oInt? := (rfl)
theorem oInt?_i {i : Int} : oInt? (.val (.int i)) = .ret (some i) := (rfl)
theorem gSl_eq {l u : Ro → M (Option Int)} : gSl g l u ρ = (g ρ).bind fun c => (l ρ).bind fun lo => (u ρ).bind fun hi => oSl c lo hi := (rfl)
theorem oSl_t {ds : List PyData} {lo hi : Option Int} : oSl (.val (.tuple ds)) lo hi = .ret (.val (.tuple (cutD ds lo hi))) := (rfl)
theorem oSl_b {ds : List PyData} {lo hi : Option Int} : oSl (.bor (.lst ds)) lo hi = .ret (.own (.lst (cutD ds lo hi))) := (rfl)
def kSl2 (lo : Option Int) : C → M C
  | .val (.tuple ds) => .ret (.val (.tuple (ev (ds.drop (HT.sIx ds.length 0 lo)))))
  | _ => .fail
theorem gSl2_eq {l : Ro → M (Option Int)} : gSl2 g l ρ = (g ρ).bind fun c => (l ρ).bind fun lo => kSl2 lo c := by
  unfold gSl2
  congr 1
theorem kSl2_t {lo : Option Int} {ds : List PyData} : kSl2 lo (.val (.tuple ds)) = .ret (.val (.tuple (ev (ds.drop (HT.sIx ds.length 0 lo))))) := (rfl)
theorem gIt_eq : gIt g ρ = (g ρ).bind itD := (rfl)
def kItV (s : Bool) : Option (Option C) → M (List PyData)
  | some (some c) => if s = true then itVs c else itV c
  | _ => .fail
theorem gItV_eq {s : Bool} {i : Nat} : gItV s i ρ = kItV s ρ[i]? := (rfl)
theorem kItV_v {s : Bool} {d : PyData} : kItV s (some (some (.val d))) = itV (.val d) := by cases s <;> cases d <;> rfl
theorem kItV_b {s : Bool} {d : PO} : kItV s (some (some (.bor d))) = itV (.bor d) := by cases s <;> cases d <;> rfl
theorem kItV_o {d : PO} : kItV false (some (some (.own d))) = itV (.own d) := (rfl)
theorem itV_t {ds : List PyData} : itV (.val (.tuple ds)) = .ret ds := (rfl)
theorem itV_s {z : Str} : itV (.val (.str z)) = .ret (signsD z) := (rfl)
theorem itV_b {ds : List PyData} : itV (.bor (.lst ds)) = .ret ds := (rfl)
theorem itV_o {ds : List PyData} : itV (.own (.lst ds)) = .ret ds := (rfl)
theorem itD_t {ds : List PyData} : itD (.val (.tuple ds)) = .ret ds := (rfl)
theorem itD_s {z : Str} : itD (.val (.str z)) = .ret (signsD z) := (rfl)
theorem itD_o {ds : List PyData} : itD (.own (.lst ds)) = .ret ds := (rfl)
theorem gItR1_eq {gs : Ro → M (List C)} : gItR1 gs ρ = (gs ρ).bind itR1 := (rfl)
theorem gItR2_eq {gs : Ro → M (List C)} : gItR2 gs ρ = (gs ρ).bind itR2 := (rfl)
theorem itR1_i {j : Int} : itR1 [.val (.int j)] = if rngOk j = true then .ret (rngD 0 1 j.toNat) else .fail := (rfl)
theorem itR2_i {i j : Int} : itR2 [.val (.int i), .val (.int j)] = if (rngOk i && rngOk j) = true then .ret (rngD i 1 (j - i).toNat) else .fail := (rfl)
theorem gLc_eq {its : Ro → M (List PyData)} {a : C → Ro → M Ro} {c : Ro → M Bool} {e : Ro → M C} {vs : List Nat} : gLc its a c e vs ρ = (its ρ).bind fun ds => if lenOk ds.length = true then lcL a c e ds (wipeR ρ vs) [] else .fail := (rfl)
theorem wipe_n : wipeR ρ [] = ρ := (rfl)
theorem wipe_c {i : Nat} {vs : List Nat} : wipeR ρ (i :: vs) = (wipeR ρ vs).set i none := (rfl)
theorem gYes_eq : gYes ρ = .ret true := (rfl)
def kR1 : C → M (Int × Int)
  | .val (.int j) => .ret (0, j)
  | _ => .fail
theorem gR1_eq : gR1 g ρ = (g ρ).bind kR1 := by
  unfold gR1
  congr 1
theorem kR1_i {j : Int} : kR1 (.val (.int j)) = .ret (0, j) := (rfl)
def kR2 : C → C → M (Int × Int)
  | .val (.int i), .val (.int j) => .ret (i, j)
  | _, _ => .fail
theorem gR2_eq : gR2 ga gb ρ = (ga ρ).bind fun c => (gb ρ).bind fun d => kR2 c d := by
  unfold gR2
  congr 1
theorem kR2_i {i j : Int} : kR2 (.val (.int i)) (.val (.int j)) = .ret (i, j) := (rfl)
theorem gLstRg_eq {q : Ro → M (Int × Int)} : gLstRg q ρ = (q ρ).bind fun p => if rgOk p.1 p.2 = true then .ret (.own (.lst (rngD p.1 1 (p.2 - p.1).toNat))) else .fail := (rfl)
theorem gTupRg_eq {q : Ro → M (Int × Int)} : gTupRg q ρ = (q ρ).bind fun p => if rgOk p.1 p.2 = true then .ret (.val (.tuple (rngD p.1 1 (p.2 - p.1).toNat))) else .fail := (rfl)
/-! loops -/
theorem mFor_eq {its : Ro → M (List PyData)} {a : C → Ro → M Ro} {b : Ro → M Res} : mFor its a b ρ = (its ρ).bind fun ds => forL a b ds ρ := (rfl)
def kForV (ρ : Ro) (i : Nat) (a : C → Ro → M Ro) (b : Ro → M Res) : Option (Option C) → M Res
  | some (some (.own (.lst ds))) => forL a b ds (ρ.set i (some (.bor (.lst ds))))
  | some (some c) => (itVs c).bind fun ds => forL a b ds ρ
  | _ => .fail
theorem mForV_eq {i : Nat} {a : C → Ro → M Ro} {b : Ro → M Res} : mForV i a b ρ = kForV ρ i a b ρ[i]? := (rfl)
theorem kForV_o {i : Nat} {a : C → Ro → M Ro} {b : Ro → M Res} {ds : List PyData} : kForV ρ i a b (some (some (.own (.lst ds)))) = forL a b ds (ρ.set i (some (.bor (.lst ds)))) := (rfl)
theorem kForV_b {i : Nat} {a : C → Ro → M Ro} {b : Ro → M Res} {ds : List PyData} : kForV ρ i a b (some (some (.bor (.lst ds)))) = forL a b ds ρ := (rfl)
theorem kForV_t {i : Nat} {a : C → Ro → M Ro} {b : Ro → M Res} {ds : List PyData} : kForV ρ i a b (some (some (.val (.tuple ds)))) = forL a b ds ρ := (rfl)
theorem kForV_s {i : Nat} {a : C → Ro → M Ro} {b : Ro → M Res} {z : Str} : kForV ρ i a b (some (some (.val (.str z)))) = forL a b (signsD z) ρ := (rfl)
def kFor (a : C → Ro → M Ro) (b : Ro → M Res) (ds : List PyData) : Res → M Res
  | .nx ρ' => forL a b ds ρ'
  | .ct ρ' => forL a b ds ρ'
  | .bk ρ' => .ret (.nx ρ')
  | .rt c => .ret (.rt c)
theorem kFor_nx {a : C → Ro → M Ro} {b : Ro → M Res} {ds : List PyData} : kFor a b ds (.nx ρ) = forL a b ds ρ := (rfl)
theorem kFor_ct {a : C → Ro → M Ro} {b : Ro → M Res} {ds : List PyData} : kFor a b ds (.ct ρ) = forL a b ds ρ := (rfl)
theorem kFor_bk {a : C → Ro → M Ro} {b : Ro → M Res} {ds : List PyData} : kFor a b ds (.bk ρ) = .ret (.nx ρ) := (rfl)
theorem kFor_rt {a : C → Ro → M Ro} {b : Ro → M Res} {ds : List PyData} {c : C} : kFor a b ds (.rt c) = .ret (.rt c) := (rfl)
theorem forL_nil {a : C → Ro → M Ro} {b : Ro → M Res} : forL a b [] ρ = .ret (.nx ρ) := (rfl)
theorem forL_cons {a : C → Ro → M Ro} {b : Ro → M Res} {d : PyData} {ds : List PyData} : forL a b (d :: ds) ρ = (a (.val d) ρ).bind fun ρ1 => (b ρ1).bind (kFor a b ds) := by
  show (a (.val d) ρ).bind _ = _
  congr 1
def ForPost (I : List PyData → Ro → Prop) (ds : List PyData) (Q : Res → Prop) : Res → Prop
  | .nx ρ' => I ds ρ'
  | .ct ρ' => I ds ρ'
  | .bk ρ' => Q (.nx ρ')
  | .rt c => Q (.rt c)
theorem ForPost_nx {I : List PyData → Ro → Prop} {ds : List PyData} {Q : Res → Prop} : ForPost I ds Q (.nx ρ) = I ds ρ := (rfl)
theorem ForPost_ct {I : List PyData → Ro → Prop} {ds : List PyData} {Q : Res → Prop} : ForPost I ds Q (.ct ρ) = I ds ρ := (rfl)
theorem ForPost_bk {I : List PyData → Ro → Prop} {ds : List PyData} {Q : Res → Prop} : ForPost I ds Q (.bk ρ) = Q (.nx ρ) := (rfl)
theorem ForPost_rt {I : List PyData → Ro → Prop} {ds : List PyData} {Q : Res → Prop} {c : C} : ForPost I ds Q (.rt c) = Q (.rt c) := (rfl)
theorem wp_for (I : List PyData → Ro → Prop) {a : C → Ro → M Ro} {b : Ro → M Res} {Q : Res → Prop} (hn : ∀ ρ, I [] ρ → Q (.nx ρ)) (hc : ∀ d ds ρ, I (d :: ds) ρ → wp ((a (.val d) ρ).bind b) (ForPost I ds Q)) : ∀ {ds : List PyData} {ρ : Ro}, I ds ρ → wp (forL a b ds ρ) Q
  | [], ρ, h => by rw [forL_nil, wp_retE]; exact hn ρ h
  | d :: ds, ρ, h => by
    rw [forL_cons, ← bind_bind]
    refine wp_call _ (hc d ds ρ h) fun r hr => ?_
    cases r with
    | nx ρ' => rw [kFor_nx]; exact wp_for I hn hc hr
    | ct ρ' => rw [kFor_ct]; exact wp_for I hn hc hr
    | bk ρ' => rw [kFor_bk, wp_retE]; exact hr
    | rt c => rw [kFor_rt, wp_retE]; exact hr
/-- a loop of n turns over a row of things -/
theorem wp_each {δ : Type} (enc : δ → PyData) (I : List δ → Ro → Prop) {a : C → Ro → M Ro} {b : Ro → M Res} {Q : Res → Prop} (hn : ∀ ρ, I [] ρ → Q (.nx ρ)) (hc : ∀ d ds ρ, I (d :: ds) ρ → wp ((a (.val (enc d)) ρ).bind b) (ForPost (fun es ρ => ∃ xs, es = xs.map enc ∧ I xs ρ) (ds.map enc) Q)) {ds : List δ} {ρ : Ro} (h : I ds ρ) : wp (forL a b (ds.map enc) ρ) Q := by
  apply wp_for (fun es ρ => ∃ xs, es = xs.map enc ∧ I xs ρ) ?A ?B ⟨ds, rfl, h⟩
  case A =>
    rintro ρ ⟨xs, e, h⟩
    cases xs with
    | nil => exact hn ρ h
    | cons _ _ => cases e
  case B =>
    rintro d es ρ ⟨xs, e, h⟩
    cases xs with
    | nil => cases e
    | cons x xs =>
      rw [List.map_cons] at e
      obtain ⟨e1, e2⟩ := List.cons.inj e
      subst e1; subst e2
      exact hc x xs ρ h
theorem wp_turns (I : Nat → Ro → Prop) {a : C → Ro → M Ro} {b : Ro → M Res} {Q : Res → Prop} {lo c : Int} {n : Nat} (hn : ∀ ρ, I n ρ → Q (.nx ρ)) (hc : ∀ (i : Nat) ds ρ, i < n → I i ρ → wp ((a (.val (.int (lo + (i : Nat) * c))) ρ).bind b) (ForPost (fun _ ρ => I (i + 1) ρ) ds Q)) {ρ : Ro} (h : I 0 ρ) : wp (forL a b (rngD lo c n) ρ) Q := by
  have key : ∀ (k i : Nat) (ρ : Ro), i + k = n → I i ρ → wp (forL a b ((List.range' i k).map fun i => .int (lo + (i : Nat) * c)) ρ) Q := by
    intro k
    induction k with
    | zero =>
      intro i ρ e h
      have e2 : i = n := by omega
      rw [List.range'_zero, List.map_nil, forL_nil, wp_retE]
      exact hn ρ (e2 ▸ h)
    | succ k ih =>
      intro i ρ e h
      rw [List.range'_succ, List.map_cons, forL_cons, ← bind_bind]
      refine wp_call _ (hc i [] ρ (by omega) h) fun r hr => ?_
      cases r with
      | nx ρ' => rw [kFor_nx]; exact ih (i + 1) ρ' (by omega) hr
      | ct ρ' => rw [kFor_ct]; exact ih (i + 1) ρ' (by omega) hr
      | bk ρ' => rw [kFor_bk, wp_retE]; exact hr
      | rt c => rw [kFor_rt, wp_retE]; exact hr
  unfold rngD
  rw [List.range_eq_range']
  exact key n 0 ρ (by omega) h
theorem forL_any {δ : Type} (enc : δ → PyData) (p : δ → Bool) (S : Ro → Prop) (c : C) {a : C → Ro → M Ro} {b : Ro → M Res} : ∀ (xs : List δ) (ρ : Ro), S ρ →
    (∀ x ∈ xs, ∀ ρ, S ρ → ∃ ρ1, a (.val (enc x)) ρ = .ret ρ1 ∧ (p x = true → b ρ1 = .ret (.rt c)) ∧ (p x = false → ∃ ρ2, S ρ2 ∧ b ρ1 = .ret (.nx ρ2))) →
    (xs.any p = true ∧ forL a b (xs.map enc) ρ = .ret (.rt c)) ∨ (xs.any p = false ∧ ∃ ρ', S ρ' ∧ forL a b (xs.map enc) ρ = .ret (.nx ρ'))
  | [], ρ, h, _ => .inr ⟨rfl, ρ, h, rfl⟩
  | x :: xs, ρ, h, st => by
    obtain ⟨ρ1, h1, h2, h3⟩ := st x List.mem_cons_self ρ h
    rw [List.map_cons, List.any_cons, forL_cons, h1, retB]
    cases hp : p x with
    | true => exact .inl ⟨rfl, by rw [h2 hp]; rfl⟩
    | false =>
      obtain ⟨ρ2, h4, h5⟩ := h3 hp
      rw [h5, retB, kFor_nx, Bool.false_or]
      exact forL_any enc p S c xs ρ2 h4 fun y hy => st y (List.mem_cons_of_mem _ hy)
/-! [e for x in xs if c] -/
def kLc (a : C → Ro → M Ro) (c : Ro → M Bool) (e : Ro → M C) (ds : List PyData) (ρ : Ro) (acc : List PyData) : C → M C
  | .val y => lcL a c e ds ρ (acc ++ [y])
  | _ => .fail
theorem kLc_v {a : C → Ro → M Ro} {c : Ro → M Bool} {e : Ro → M C} {ds acc : List PyData} {y : PyData} : kLc a c e ds ρ acc (.val y) = lcL a c e ds ρ (acc ++ [y]) := (rfl)
theorem lcL_nil {a : C → Ro → M Ro} {c : Ro → M Bool} {e : Ro → M C} {acc : List PyData} : lcL a c e [] ρ acc = .ret (.own (.lst acc)) := (rfl)
theorem lcL_cons {a : C → Ro → M Ro} {c : Ro → M Bool} {e : Ro → M C} {d : PyData} {ds acc : List PyData} : lcL a c e (d :: ds) ρ acc = (a (.val d) ρ).bind fun ρ1 => (c ρ1).bind fun b => if b = true then (e ρ1).bind (kLc a c e ds ρ acc) else lcL a c e ds ρ acc := by
  show (a (.val d) ρ).bind _ = _
  congr 1
/-- each thing x is kept if p x and gives f x -/
theorem lcL_fm {δ : Type} (enc : δ → PyData) (p : δ → Bool) (f : δ → PyData) {a : C → Ro → M Ro} {c : Ro → M Bool} {e : Ro → M C} : ∀ (xs : List δ) (acc : List PyData), (∀ x ∈ xs, ∃ ρ1, a (.val (enc x)) ρ = .ret ρ1 ∧ c ρ1 = .ret (p x) ∧ (p x = true → e ρ1 = .ret (.val (f x)))) →
    lcL a c e (xs.map enc) ρ acc = .ret (.own (.lst (acc ++ (xs.filter p).map f)))
  | [], acc, _ => by rw [List.map_nil, lcL_nil, List.filter_nil, List.map_nil, List.append_nil]
  | x :: xs, acc, h => by
    obtain ⟨ρ1, h1, h2, h3⟩ := h x List.mem_cons_self
    rw [List.map_cons, lcL_cons, h1, retB, h2, retB]
    by_cases hp : p x = true
    · rw [if_pos hp, h3 hp, retB, kLc_v, lcL_fm enc p f xs _ fun y hy => h y (List.mem_cons_of_mem _ hy), List.filter_cons_of_pos hp, List.map_cons, List.append_assoc]
      rfl
    · rw [if_neg hp, lcL_fm enc p f xs _ fun y hy => h y (List.mem_cons_of_mem _ hy), List.filter_cons_of_neg hp]
theorem lcL_map {δ : Type} (enc : δ → PyData) (f : δ → PyData) {a : C → Ro → M Ro} {c : Ro → M Bool} {e : Ro → M C} (xs : List δ) (acc : List PyData) (h : ∀ x ∈ xs, ∃ ρ1, a (.val (enc x)) ρ = .ret ρ1 ∧ c ρ1 = .ret true ∧ e ρ1 = .ret (.val (f x))) :
    lcL a c e (xs.map enc) ρ acc = .ret (.own (.lst (acc ++ xs.map f))) := by
  rw [lcL_fm enc (fun _ => true) f xs acc fun x hx => by
    obtain ⟨ρ1, h1, h2, h3⟩ := h x hx
    exact ⟨ρ1, h1, h2, fun _ => h3⟩]
  rw [List.filter_eq_self.mpr fun _ _ => rfl]
/-- the same, with draws -/
theorem wp_lc {δ : Type} (enc : δ → PyData) (P : List PyData → Prop) {a : C → Ro → M Ro} {c : Ro → M Bool} {e : Ro → M C} {Q : C → Prop} (hq : ∀ acc, P acc → Q (.own (.lst acc))) : ∀ (xs : List δ) (acc : List PyData), P acc →
    (∀ x ∈ xs, ∀ acc, P acc → wp ((a (.val (enc x)) ρ).bind fun ρ1 => (c ρ1).bind fun b => if b = true then (e ρ1).bind fun y => .ret (some y) else .ret none) fun o => (o = none ∧ P acc) ∨ ∃ y, o = some (.val y) ∧ P (acc ++ [y])) → wp (lcL a c e (xs.map enc) ρ acc) Q
  | [], acc, h, _ => by rw [List.map_nil, lcL_nil, wp_retE]; exact hq acc h
  | x :: xs, acc, h, st => by
    rw [List.map_cons, lcL_cons]
    have hx := st x List.mem_cons_self acc h
    rw [wp_bindE] at hx ⊢
    refine wp_mono (fun ρ1 h1 => ?_) hx
    rw [wp_bindE] at h1 ⊢
    refine wp_mono (fun b h2 => ?_) h1
    by_cases hb : b = true
    · rw [if_pos hb] at h2 ⊢
      rw [wp_bindE] at h2 ⊢
      refine wp_mono (fun y h3 => ?_) h2
      rw [wp_retE] at h3
      rcases h3 with ⟨z, _⟩ | ⟨y', e1, h4⟩
      · cases z
      · cases e1
        rw [kLc_v]
        exact wp_lc enc P hq xs _ h4 fun y hy => st y (List.mem_cons_of_mem _ hy)
    · rw [if_neg hb] at h2 ⊢
      rw [wp_retE] at h2
      rcases h2 with ⟨_, h4⟩ | ⟨y', e1, h4⟩
      · exact wp_lc enc P hq xs _ h4 fun y hy => st y (List.mem_cons_of_mem _ hy)
      · cases e1
/-! lists that change -/
def kApp (i : Nat) (ρ : Ro) (ds : List PyData) : C → M Res
  | .val d => if lenOk (ds.length + 1) = true then .ret (.nx (setOwn i (ds ++ [d]) ρ)) else .fail
  | _ => .fail
def appAt (i : Nat) (g : Ro → M C) (ρ : Ro) : Option (Option C) → M Res
  | some (some (.own (.lst ds))) => (g ρ).bind (kApp i ρ ds)
  | _ => .fail
theorem mApp_eq {i : Nat} : mApp i g ρ = appAt i g ρ ρ[i]? := by
  unfold mApp
  generalize ρ[i]? = o
  match o with
  | some (some (.own (.lst ds))) => congr 1
  | some (some (.own (.dT _))) => rfl
  | some (some (.own (.dK _))) => rfl
  | some (some (.own (.lT _))) => rfl
  | some (some (.own (.xo _))) => rfl
  | some (some (.val _)) => rfl
  | some (some (.bor _)) => rfl
  | some (some .tape) => rfl
  | some none => rfl
  | none => rfl
theorem appAt_o {i : Nat} {ds : List PyData} : appAt i g ρ (some (some (.own (.lst ds)))) = (g ρ).bind (kApp i ρ ds) := (rfl)
theorem kApp_v {i : Nat} {ds : List PyData} {d : PyData} : kApp i ρ ds (.val d) = if lenOk (ds.length + 1) = true then .ret (.nx (ρ.set i (some (.own (.lst (ds ++ [d])))))) else .fail := (rfl)
/-! defs -/
theorem fnU_eq {n k : Nat} {m : Ro → M Res} {cs : List C} : fnU n k m cs = if cs.length = n then (m (cs.map some ++ List.replicate k none)).bind Res.out else .fail := (rfl)
theorem fnU_0 {n k : Nat} {m : Ro → M Res} {cs : List C} (h : cs.length = n) : fnU n k m cs = (m (cs.map some ++ List.replicate k none)).bind Res.out := if_pos h
theorem rp_0 : (List.replicate 0 none : Ro) = [] := (rfl)
theorem rp_s {k : Nat} : (List.replicate (k + 1) none : Ro) = none :: List.replicate k none := (rfl)
theorem ap_n {r : Ro} : ([] : Ro) ++ r = r := (rfl)
theorem ap_c {x : Option C} {r s : Ro} : (x :: r) ++ s = x :: (r ++ s) := (rfl)
theorem ms_n : List.map some ([] : List C) = [] := (rfl)
theorem ms_c {c : C} {cs : List C} : List.map some (c :: cs) = some c :: List.map some cs := (rfl)
theorem out_rt {c : C} : Res.out (.rt c) = .ret c := (rfl)
theorem out_nx : Res.out (.nx ρ) = .ret (.val .none) := (rfl)
/-! ### operators at values -/
theorem oAdd_i {i j : Int} : oAdd (.val (.int i)) (.val (.int j)) = .ret (.val (.int (i + j))) := (rfl)
theorem oAdd_s {i j : Str} : oAdd (.val (.str i)) (.val (.str j)) = if lenOk (i.length + j.length) = true then .ret (.val (.str (i ++ j))) else .fail := (rfl)
theorem oAdd_t {i j : List PyData} : oAdd (.val (.tuple i)) (.val (.tuple j)) = if lenOk (i.length + j.length) = true then .ret (.val (.tuple (i ++ j))) else .fail := (rfl)
theorem oAdd_oo {i j : List PyData} : oAdd (.own (.lst i)) (.own (.lst j)) = if lenOk (i.length + j.length) = true then .ret (.own (.lst (i ++ j))) else .fail := (rfl)
theorem oAdd_bo {i j : List PyData} : oAdd (.bor (.lst i)) (.own (.lst j)) = if lenOk (i.length + j.length) = true then .ret (.own (.lst (i ++ j))) else .fail := (rfl)
theorem oAdd_bb {i j : List PyData} : oAdd (.bor (.lst i)) (.bor (.lst j)) = if lenOk (i.length + j.length) = true then .ret (.own (.lst (i ++ j))) else .fail := (rfl)
theorem oAdd_ob {i j : List PyData} : oAdd (.own (.lst i)) (.bor (.lst j)) = if lenOk (i.length + j.length) = true then .ret (.own (.lst (i ++ j))) else .fail := (rfl)
theorem oInt_v {f : Int → Int → PyData} {c : Int → Int → Bool} {i j : Int} : oInt f c (.val (.int i)) (.val (.int j)) = if c i j = true then .ret (.val (f i j)) else .fail := (rfl)
theorem oMul_i {i j : Int} : oMul (.val (.int i)) (.val (.int j)) = if cMul i j = true then .ret (.val (.int (i * j))) else .fail := (rfl)
theorem oNeg_i {i : Int} : oNeg (.val (.int i)) = .ret (.val (.int (-i))) := (rfl)
theorem oEqD_s {n : Bool} {i j : Str} : oEqD n (some (.str i)) (some (.str j)) = .ret (.val (.bool (n ^^ decide (i = j)))) := (rfl)
theorem oEqD_d {n : Bool} {d e : PyData} (h1 : SeqAt.shaped d = true) (h2 : SeqAt.shaped e = true) : oEqD n (some d) (some e) = .ret (.val (.bool (n ^^ PyData.eqv d e))) := by
  unfold oEqD
  split
  · rename_i i j e1 e2
    cases e1; cases e2
    simp only [PyData.eqv]
    rfl
  · rename_i d' e' _ e1 e2
    cases e1; cases e2
    rw [if_pos (by rw [h1, h2]; rfl)]
  · rename_i a b
    exact absurd rfl (b d e rfl)
theorem oEq_i {i j : Int} : oEq (.val (.int i)) (.val (.int j)) = .ret (.val (.bool (decide (i = j)))) := by
  show oEqD false (some (.int i)) (some (.int j)) = _
  rw [oEqD_d rfl rfl]
  simp only [PyData.eqv, Bool.false_xor]
  rfl
theorem oNe_i {i j : Int} : oNe (.val (.int i)) (.val (.int j)) = .ret (.val (.bool (!decide (i = j)))) := by
  show oEqD true (some (.int i)) (some (.int j)) = _
  rw [oEqD_d rfl rfl]
  simp only [PyData.eqv, Bool.true_xor]
  rfl
theorem oEq_b {i j : Bool} : oEq (.val (.bool i)) (.val (.bool j)) = .ret (.val (.bool (decide (i = j)))) := by
  show oEqD false (some (.bool i)) (some (.bool j)) = _
  rw [oEqD_d rfl rfl]
  cases i <;> cases j <;> rfl
theorem oNe_b {i j : Bool} : oNe (.val (.bool i)) (.val (.bool j)) = .ret (.val (.bool (!decide (i = j)))) := by
  show oEqD true (some (.bool i)) (some (.bool j)) = _
  rw [oEqD_d rfl rfl]
  cases i <;> cases j <;> rfl
theorem oEq_s {i j : Str} : oEq (.val (.str i)) (.val (.str j)) = .ret (.val (.bool (decide (i = j)))) := by
  show oEqD false (some (.str i)) (some (.str j)) = _
  rw [oEqD_s, Bool.false_xor]
theorem oNe_s {i j : Str} : oNe (.val (.str i)) (.val (.str j)) = .ret (.val (.bool (!decide (i = j)))) := by
  show oEqD true (some (.str i)) (some (.str j)) = _
  rw [oEqD_s, Bool.true_xor]
/-! subscripts -/
theorem oIx_t {ds : List PyData} {i : Int} : oIx (.val (.tuple ds)) (.val (.int i)) = atD ds i := (rfl)
theorem oIx_s {ds : Str} {i : Int} : oIx (.val (.str ds)) (.val (.int i)) = atS ds i := (rfl)
theorem oIx_o {ds : List PyData} {i : Int} : oIx (.own (.lst ds)) (.val (.int i)) = atD ds i := (rfl)
theorem oIx_b {ds : List PyData} {i : Int} : oIx (.bor (.lst ds)) (.val (.int i)) = atD ds i := (rfl)
theorem atD_get {ds : List PyData} {i : Nat} {d : PyData} (h : ds[i]? = some d) : atD ds (i : Int) = .ret (.val d) := by
  obtain ⟨hl, _⟩ := List.getElem?_eq_some_iff.mp h
  have : atI ds (i : Int) = some d := by
    unfold atI
    have e : ixN ds.length (i : Int) = some i := by
      unfold ixN
      simp only [Int.natCast_nonneg, Int.toNat_natCast, if_true]
      first
        | rfl
        | simp [hl]
        | (split <;> first | rfl | omega | simp_all)
    rw [e]
    exact h
  unfold atD
  rw [this]
theorem atD_int {ds : List PyData} {i : Int} {d : PyData} (h0 : 0 ≤ i) (h : ds[i.toNat]? = some d) : atD ds i = .ret (.val d) := by
  have := atD_get h
  rwa [Int.toNat_of_nonneg h0] at this
theorem atD_m1 {ds : List PyData} {d : PyData} (h : ds[ds.length - 1]? = some d) : atD ds (-1) = .ret (.val d) := by
  obtain ⟨hl, _⟩ := List.getElem?_eq_some_iff.mp h
  have : atI ds (-1) = some d := by
    unfold atI
    have e : ixN ds.length (-1) = some (ds.length - 1) := by
      unfold ixN
      have h1 : ¬ (0 : Int) ≤ -1 := by omega
      first
        | (rw [if_neg h1]; simp; omega)
        | (simp; omega)
        | (split <;> simp_all <;> omega)
    rw [e]
    exact h
  unfold atD
  rw [this]
section
variable {a0 a1 a2 a3 a4 a5 a6 a7 a8 a9 : PyData} {ds : List PyData}
theorem atD_0 : atD (a0 :: ds) 0 = .ret (.val a0) := atD_get (i := 0) rfl
theorem atD_1 : atD (a0 :: a1 :: ds) 1 = .ret (.val a1) := atD_get (i := 1) rfl
theorem atD_2 : atD (a0 :: a1 :: a2 :: ds) 2 = .ret (.val a2) := atD_get (i := 2) rfl
theorem atD_3 : atD (a0 :: a1 :: a2 :: a3 :: ds) 3 = .ret (.val a3) := atD_get (i := 3) rfl
theorem atD_4 : atD (a0 :: a1 :: a2 :: a3 :: a4 :: ds) 4 = .ret (.val a4) := atD_get (i := 4) rfl
theorem atD_5 : atD (a0 :: a1 :: a2 :: a3 :: a4 :: a5 :: ds) 5 = .ret (.val a5) := atD_get (i := 5) rfl
theorem atD_6 : atD (a0 :: a1 :: a2 :: a3 :: a4 :: a5 :: a6 :: ds) 6 = .ret (.val a6) := atD_get (i := 6) rfl
theorem atD_7 : atD (a0 :: a1 :: a2 :: a3 :: a4 :: a5 :: a6 :: a7 :: ds) 7 = .ret (.val a7) := atD_get (i := 7) rfl
theorem atD_8 : atD (a0 :: a1 :: a2 :: a3 :: a4 :: a5 :: a6 :: a7 :: a8 :: ds) 8 = .ret (.val a8) := atD_get (i := 8) rfl
end
/-! displays -/
theorem datas_n : datas [] = some [] := (rfl)
theorem datas_v {d : PyData} {cs : List C} : datas (.val d :: cs) = (datas cs).map (d :: ·) := (rfl)
theorem mp_some {δ ε : Type} {f : δ → ε} {x : δ} : Option.map f (some x) = some (f x) := (rfl)
def kTup : Option (List PyData) → M C
  | some ds => if lenOk ds.length = true then .ret (.val (.tuple ds)) else .fail
  | none => .fail
def kLst : Option (List PyData) → M C
  | some ds => if lenOk ds.length = true then .ret (.own (.lst ds)) else .fail
  | none => .fail
theorem oTup_eq {cs : List C} : oTup cs = kTup (datas cs) := (rfl)
theorem oLst_eq {cs : List C} : oLst cs = kLst (datas cs) := (rfl)
theorem kTup_s {ds : List PyData} : kTup (some ds) = if lenOk ds.length = true then .ret (.val (.tuple ds)) else .fail := (rfl)
theorem kLst_s {ds : List PyData} : kLst (some ds) = if lenOk ds.length = true then .ret (.own (.lst ds)) else .fail := (rfl)
theorem len_n : ([] : List PyData).length = 0 := (rfl)
theorem len_c {d : PyData} {ds : List PyData} : (d :: ds).length = ds.length + 1 := (rfl)
/-! built in -/
theorem o1_v {f : PyData → M C} {d : PyData} : o1 f [.val d] = f d := (rfl)
theorem o1_o {f : PyData → M C} {ds : List PyData} : o1 f [.own (.lst ds)] = f (.list ds) := (rfl)
theorem o1_b {f : PyData → M C} {ds : List PyData} : o1 f [.bor (.lst ds)] = f (.list ds) := (rfl)
theorem lenD_t {ds : List PyData} : lenD (.tuple ds) = .ret (.val (.int ds.length)) := (rfl)
theorem lenD_l {ds : List PyData} : lenD (.list ds) = .ret (.val (.int ds.length)) := (rfl)
theorem lenD_s {z : Str} : lenD (.str z) = if lenOk z.length = true then .ret (.val (.int z.length)) else .fail := (rfl)
theorem absD_i {i : Int} : absD (.int i) = .ret (.val (.int (i.natAbs : Int))) := by
  show M.ret (C.val (.int (if i < 0 then -i else i))) = _
  rw [show (if i < 0 then -i else i) = (i.natAbs : Int) by split <;> omega]
theorem intD_i {i : Int} : intD (.int i) = .ret (.val (.int i)) := (rfl)
theorem intD_b {b : Bool} : intD (.bool b) = .ret (.val (.int (if b then 1 else 0))) := (rfl)
theorem oMax2_i {i j : Int} : oMax2 [.val (.int i), .val (.int j)] = .ret (.val (.int (max i j))) := (rfl)
theorem oMin2_i {i j : Int} : oMin2 [.val (.int i), .val (.int j)] = .ret (.val (.int (min i j))) := (rfl)
theorem oGcd_i {i j : Int} : oGcd [.val (.int i), .val (.int j)] = .ret (.val (.int ((Nat.gcd i.natAbs j.natAbs : Nat) : Int))) := (rfl)
theorem oListC_t {ds : List PyData} : oListC [.val (.tuple ds)] = .ret (.own (.lst ds)) := (rfl)
theorem oListC_o {ds : List PyData} : oListC [.own (.lst ds)] = .ret (.own (.lst ds)) := (rfl)
theorem oListC_b {ds : List PyData} : oListC [.bor (.lst ds)] = .ret (.own (.lst ds)) := (rfl)
theorem oTupC_t {ds : List PyData} : oTupC [.val (.tuple ds)] = .ret (.val (.tuple ds)) := (rfl)
theorem oTupC_o {ds : List PyData} : oTupC [.own (.lst ds)] = .ret (.val (.tuple ds)) := (rfl)
theorem oTupC_b {ds : List PyData} : oTupC [.bor (.lst ds)] = .ret (.val (.tuple ds)) := (rfl)
theorem repr_ok {d : PyData} (h : RepOk d) : repD1 d = .ret (.val (.str d.shown)) := by
  refine if_pos ?_
  obtain ⟨h1, h2, h3⟩ := h
  unfold repOk
  rw [h1, decide_eq_true h2, decide_eq_true (by rw [show sizeLine = 16777216 by decide] at h3; exact h3)]
  rfl
theorem bigD_l {f : List Bool → Bool} {bs : List Bool} : bigD f (.list (bs.map .bool)) = .ret (.val (.bool (f bs))) := by
  unfold bigD
  dsimp only
  rw [blsOf_map]
theorem isi_bi : isiT "int" (some "bool") = .ret (.val (.bool true)) := by unfold isiT; dsimp only; rw [kit_bool_int]
theorem isi_ii : isiT "int" (some "int") = .ret (.val (.bool true)) := by unfold isiT; dsimp only; rw [kit_int_int]
theorem isi_ib : isiT "bool" (some "int") = .ret (.val (.bool false)) := by unfold isiT; dsimp only; rw [kit_int_bool]
theorem isi_bb : isiT "bool" (some "bool") = .ret (.val (.bool true)) := by unfold isiT; dsimp only; rw [kit_bool_bool]
theorem isi_ni : isiT "int" (some "NoneType") = .ret (.val (.bool false)) := by unfold isiT; dsimp only; rw [kit_none_int]
theorem isi_ss : isiT "str" (some "str") = .ret (.val (.bool true)) := by unfold isiT; dsimp only; rw [kit_str_str]
theorem isi_nb : isiT "bool" (some "NoneType") = .ret (.val (.bool false)) := by unfold isiT; dsimp only; rw [kit_none_bool]
theorem oIsi_v {T : String} {d : PyData} : oIsi T (.val d) = isiT T (tyD d) := (rfl)
theorem tyD_b {b : Bool} : tyD (.bool b) = some "bool" := (rfl)
theorem tyD_i {b : Int} : tyD (.int b) = some "int" := (rfl)
theorem tyD_s {b : Str} : tyD (.str b) = some "str" := (rfl)
theorem tyD_n : tyD .none = some "NoneType" := (rfl)
theorem oIsX_n {n : Bool} {a : C} : oIsX n a (.val .none) = .ret (.val (.bool (n ^^ a.isN))) := by
  cases a with
  | val d => cases d <;> rfl
  | own _ => rfl
  | bor _ => rfl
  | tape => rfl
theorem oIsX_b {n a b : Bool} : oIsX n (.val (.bool a)) (.val (.bool b)) = .ret (.val (.bool (n ^^ decide (a = b)))) := (rfl)
theorem isN_n : C.isN (.val .none) = true := (rfl)
theorem isN_i {i : Int} : C.isN (.val (.int i)) = false := (rfl)
theorem isN_b {i : Bool} : C.isN (.val (.bool i)) = false := (rfl)
theorem isN_s {i : Str} : C.isN (.val (.str i)) = false := (rfl)
theorem isN_t {i : List PyData} : C.isN (.val (.tuple i)) = false := (rfl)
/-! draws -/
theorem wp_drawn {m : Int} {k : C → M α} {Q : α → Prop} (hm : m ≤ 1000000000) (q : ∀ v, 0 ≤ v → v < max m 1 → wp (k (.val (.int v))) Q) : wp ((drawC [.tape, .val (.int m)]).bind k) Q := by
  have e : drawC [.tape, .val (.int m)] = .draw m fun v => .ret (.val (.int v)) := if_pos (decide_eq_true hm)
  rw [e, drawB, wp_drawE]
  exact q
/-- a drawn one out of a row -/
theorem wp_pick {ds : List PyData} {i : Int} {k : C → M α} {Q : α → Prop} (h0 : 0 ≤ i) (h1 : i < ds.length) (q : ∀ d, d ∈ ds → wp (k (.val d)) Q) : wp ((atD ds i).bind k) Q := by
  have hl : i.toNat < ds.length := by omega
  rw [atD_int h0 (List.getElem?_eq_getElem hl), retB]
  exact q _ (List.getElem_mem hl)
def rng (k : Int) (i : Int) : Bool := decide (-k ≤ i) && decide (i ≤ k)
def smB (k : Int) : PyData → Bool
  | .int i => rng k i
  | _ => false
theorem wp_pickI (m : Int) {ds : List PyData} {i : Int} {k : C → M α} {Q : α → Prop} (hs : ds.all (smB m) = true) (h0 : 0 ≤ i) (h1 : i < ds.length) (q : ∀ j : Int, -m ≤ j → j ≤ m → wp (k (.val (.int j))) Q) : wp ((atD ds i).bind k) Q :=
  wp_pick h0 h1 fun d hd => by
    have := List.all_eq_true.mp hs d hd
    cases d with
    | int j =>
      simp only [smB, rng, Bool.and_eq_true, decide_eq_true_eq] at this
      exact q j this.1 this.2
    | _ => cases this
/-! bounds -/
theorem small_log {i : Int} {k : Nat} (hk : k ≠ 0) (h : i.natAbs < 2 ^ k) : i.natAbs.log2 < k := by
  by_cases h0 : i.natAbs = 0
  · rw [h0]; simp; omega
  · exact (Nat.log2_lt h0).mpr h
theorem cMul_ok {i j : Int} (k l : Nat) (hk : k ≠ 0) (hl : l ≠ 0) (h : k + l ≤ 1000000) (hi : i.natAbs < 2 ^ k) (hj : j.natAbs < 2 ^ l) : cMul i j = true := by
  have h1 := small_log hk hi
  have h2 := small_log hl hj
  exact decide_eq_true (by omega)
theorem cDiv_ok {i j : Int} (k : Nat) (hk : k ≠ 0) (h : k ≤ 9000) (h0 : 0 < j) (hj : j.natAbs < 2 ^ k) : cDiv i j = true := by
  have h2 := small_log hk hj
  unfold cDiv
  rw [decide_eq_true h0, decide_eq_true (by omega)]
  rfl
theorem cMod_ok {i j : Int} (h0 : 0 < j) : cMod i j = true := decide_eq_true h0
theorem rngOk_ok {i : Int} (h1 : -4611686018427387904 ≤ i) (h2 : i < 4611686018427387904) : rngOk i = true := by
  unfold rngOk
  rw [decide_eq_true h1, decide_eq_true h2]
  rfl
theorem lenOk_ok {n : Nat} (h : n ≤ 16777216) : lenOk n = true := decide_eq_true h
theorem rngD_len {lo c : Int} {n : Nat} : (rngD lo c n).length = n := by unfold rngD; rw [List.length_map, List.length_range]
end Cs

set_option maxRecDepth 100000
set_option maxHeartbeats 4000000
/-! a word of one's own at a join -/
namespace Cs
open PySem PySem.Spec PyProof.Rows L2
def Jn (P : Ro → Prop) (Q : Res → Prop) : Res → Prop
  | .nx ρ => P ρ
  | .rt c => Q (.rt c)
  | .bk ρ => Q (.bk ρ)
  | .ct ρ => Q (.ct ρ)
theorem wp_seqJ (P : Ro → Prop) {m n : Ro → M Res} {ρ : Ro} {Q : Res → Prop} (h1 : wp (m ρ) (Jn P Q)) (h2 : ∀ ρ', P ρ' → wp (n ρ') Q) : wp (mSeq m n ρ) Q := by
  rw [mSeq_eq]
  refine wp_call _ h1 fun r hr => ?_
  cases r with
  | nx ρ' => rw [kSeq_nx]; exact h2 _ hr
  | rt c => rw [kSeq_rt, wp_retE]; exact hr
  | bk ρ' => rw [kSeq_bk, wp_retE]; exact hr
  | ct ρ' => rw [kSeq_ct, wp_retE]; exact hr
theorem out_ok {c : C} {Q : C → Prop} (h : Q c) : wp (Res.out (.rt c)) Q := by rw [out_rt, wp_retE]; exact h
/-- behind a turn of a loop -/
def Fp (P : Ro → Prop) (Q : Res → Prop) : Res → Prop
  | .nx ρ => P ρ
  | .ct ρ => P ρ
  | .bk ρ => Q (.nx ρ)
  | .rt c => Q (.rt c)
theorem wp_over {δ : Type} (enc : δ → PyData) (I : List δ → Ro → Prop) {a : C → Ro → M Ro} {b : Ro → M Res} {Q : Res → Prop} (hn : ∀ ρ, I [] ρ → Q (.nx ρ)) (hc : ∀ d ds ρ, I (d :: ds) ρ → wp ((a (.val (enc d)) ρ).bind b) (Fp (I ds) Q)) : ∀ {ds : List δ} {ρ : Ro}, I ds ρ → wp (forL a b (ds.map enc) ρ) Q
  | [], ρ, h => by rw [List.map_nil, forL_nil, wp_retE]; exact hn ρ h
  | d :: ds, ρ, h => by
    rw [List.map_cons, forL_cons, ← bind_bind]
    refine wp_call _ (hc d ds ρ h) fun r hr => ?_
    cases r with
    | nx ρ' => rw [kFor_nx]; exact wp_over enc I hn hc hr
    | ct ρ' => rw [kFor_ct]; exact wp_over enc I hn hc hr
    | bk ρ' => rw [kFor_bk, wp_retE]; exact hr
    | rt c => rw [kFor_rt, wp_retE]; exact hr
/-- a def's run, its result named -/
theorem wp_fn {n k : Nat} {m : Ro → M Res} {cs : List C} {Q : C → Prop} (h : cs.length = n) (q : wp (m (cs.map some ++ List.replicate k none)) (fun r => wp (Res.out r) Q)) : wp (fnU n k m cs) Q := by
  rw [fnU_0 h]
  exact wp_bind.mpr q
end Cs

set_option maxRecDepth 100000
set_option maxHeartbeats 1000000
/-! reversed(e), a global text, in -/
namespace Cs
open PySem PySem.Spec PyProof.Rows L2
section
variable {tp : Option (Addr × Addr)} {K : PySem.W.Frag} [WP K] {H H' H'' H0 H1 He Hq : Hp} {σ : L2.St} {ρ : Ro}
def revD : C → M (List PyData)
  | .val (.tuple ds) => .ret ds.reverse
  | _ => .fail
def gRev (g : Ro → M C) (ρ : Ro) : M (List PyData) := (g ρ).bind revD
theorem ri_rev {te : TE} {g : Ro → M C} {s : Bool} (h1 : RE K te g) : RI K s (RT.iRevA K te) (gRev g) := by
  intro tp He Hq ρ σ H Q r h
  refine h1 tp He Hq ρ σ H _ r (wp0_mono (fun c hc => ?_) (wp0_bind.mp h))
  intro x H1 g1 t1 rx
  unfold revD at hc
  split at hc
  · rename_i ds
    obtain ⟨a, vs, rfl, q1, q2, q3⟩ := rx.tup
    exact ⟨a, vs, rfl, .inr ⟨q1, hc _ H1 [] g1 t1 (lf_rev q3) (wk_revT q1 q2 q3) (fun _ m => by simp at m) (fun _ _ _ _ m => by simp at m)⟩⟩
  · exact hc.elim
theorem gRev_eq {g : Ro → M C} : gRev g ρ = (g ρ).bind revD := (rfl)
theorem revD_t {ds : List PyData} : revD (.val (.tuple ds)) = .ret ds.reverse := (rfl)
end
theorem pe_globS {X : Cx} {x z : Str} {pos : Pos} (hg : Gl X x) (hm : ∃ t, X.mg x = some (.str z t)) (hd : (x == ("__debug__" : Str)) = false := by decide) : PE X (.Name x pos) (tC (.str z)) := by
  obtain ⟨t, hm⟩ := hm
  exact pe_glob hg hm ⟨t, rfl⟩ hd
/-! in, of data -/
theorem oIn_l {d : PyData} {ds : List PyData} (h1 : SeqAt.shaped d = true) (h2 : SeqAt.shaped (.list ds) = true) (hs : ∀ z, d ≠ .str z) : oIn (.val d) (.bor (.lst ds)) = .ret (.val (.bool (ds.any fun z => PyData.eqv z d))) := by
  have e : oIn (.val d) (.bor (.lst ds)) = oInD false d ds := by
    show oInX false (some d) (some (.list ds)) = _
    cases d <;> first | rfl | exact absurd rfl (hs _)
  rw [e]
  unfold oInD
  rw [if_pos (by rw [h1, h2]; rfl), Bool.false_xor]
end Cs

set_option maxRecDepth 100000
set_option maxHeartbeats 1000000
/-! what is never reached; isinstance of tuples and lists -/
namespace Cs
open PySem PySem.Spec PyProof.Rows L2
section
variable {tp : Option (Addr × Addr)} {K : PySem.W.Frag} [WP K] {H H' H'' H0 H1 He Hq : Hp} {σ : L2.St} {ρ : Ro}
def tFe : TE := fun _ _ _ => False
def tFt : TT := fun _ _ _ => False
def tFs : TS := fun _ _ _ => False
def gF (_ : Ro) : M C := .fail
def gFt (_ : Ro) : M Bool := .fail
def mF (_ : Ro) : M Res := .fail
theorem pe_F {X : Cx} {e : Expr} : PE X e tFe := ⟨fun _ _ _ _ _ _ h => h.elim⟩
theorem pt_F {X : Cx} {e : Expr} : PT X e tFt := ⟨fun _ _ _ _ _ _ h => h.elim⟩
theorem ps_F {X : Cx} {e : Stmt} : PS X e tFs := ⟨fun _ _ _ _ _ _ h => h.elim⟩
theorem pss_F {X : Cx} {e : List Stmt} : PSs X e tFs := ⟨fun _ _ _ _ _ _ h => h.elim⟩
theorem re_F : RE K tFe gF := fun _ _ _ _ _ _ _ _ h => h.elim
theorem rt_F : RT K tFt gFt := fun _ _ _ _ _ _ _ _ h => h.elim
theorem rs_F : RS K tFs mF := fun _ _ _ _ _ _ _ _ h => h.elim
theorem gF_eq : gF ρ = .fail := (rfl)
theorem gFt_eq : gFt ρ = .fail := (rfl)
theorem mF_eq : mF ρ = .fail := (rfl)
theorem mOrCt {m : M C} {c : C} : mOrC true m c = .ret c := (rfl)
theorem mOrCf {m : M C} {c : C} : mOrC false m c = m := (rfl)
theorem mAndCt {m : M C} {c : C} : mAndC true m c = m := (rfl)
theorem mAndCf {m : M C} {c : C} : mAndC false m c = .ret c := (rfl)
/-! isinstance of anything -/
def tyX : PyData → Option String
  | .none => some "NoneType"
  | .bool _ => some "bool"
  | .int _ => some "int"
  | .str _ => some "str"
  | .tuple _ => some "tuple"
  | _ => none
def oIsiX (T : String) : C → M C
  | .val d => isiT T (tyX d)
  | _ => .fail
theorem re_isiX {T : String} {ta : TE} {g : Ro → M C} (h1 : RE K ta g) : RE K (tCB (rIsi K) (tCons ta (tCons (tC (.ty T)) tNil))) (gUn (oIsiX T) g) := by
  intro tp He Hq ρ σ H Q r h
  refine h1 tp He Hq ρ σ H _ r (wp0_mono (fun c hc => ?_) (wp0_bind.mp h))
  intro x H1 g1 t1 rx
  cases c with
  | val d =>
    have key : ∀ {s : String}, TyX K H1 x (.type s) → wp0 (isiT T (some s)) (Post tp K H Q) → rIsi K [x, .ty T] H1 Q := fun {s} ty h => by
      unfold isiT at h
      dsimp only at h
      split at h
      · rename_i b e
        exact ⟨x, .ty T, .type s, .type T, b, rfl, .ty T, ty, kit_ty e, Post.bl h g1 t1⟩
      · exact h.elim
    obtain ⟨hd, _⟩ := rx
    cases hd with
    | non => exact key (.base .non) hc
    | bl b => exact key (.base (.bl b)) hc
    | int i => exact key (.base (.int i)) hc
    | str s => exact key (.base (.str s)) hc
    | lst _ _ => exact hc.elim
    | tup hs _ => exact key (s := "tuple") (.base (.tup hs)) hc
  | own o => exact hc.elim
  | bor o => exact hc.elim
  | tape => exact hc.elim
theorem kitX_tuple_str : kitB "tuple" "str" = some false := by decide +kernel
theorem kitX_tuple_bool : kitB "tuple" "bool" = some false := by decide +kernel
theorem kitX_tuple_int : kitB "tuple" "int" = some false := by decide +kernel
theorem kitX_tuple_tuple : kitB "tuple" "tuple" = some true := by decide +kernel
theorem kitX_str_tuple : kitB "str" "tuple" = some false := by decide +kernel
theorem kitX_str_bool : kitB "str" "bool" = some false := by decide +kernel
theorem kitX_str_int : kitB "str" "int" = some false := by decide +kernel
theorem kitX_bool_str : kitB "bool" "str" = some false := by decide +kernel
theorem kitX_bool_tuple : kitB "bool" "tuple" = some false := by decide +kernel
theorem kitX_int_str : kitB "int" "str" = some false := by decide +kernel
theorem kitX_int_tuple : kitB "int" "tuple" = some false := by decide +kernel
theorem kitX_none_str : kitB "NoneType" "str" = some false := by decide +kernel
theorem kitX_none_tuple : kitB "NoneType" "tuple" = some false := by decide +kernel
theorem oIsiX_v {T : String} {d : PyData} : oIsiX T (.val d) = isiT T (tyX d) := (rfl)
theorem tyX_b {b : Bool} : tyX (.bool b) = some "bool" := (rfl)
theorem tyX_i {b : Int} : tyX (.int b) = some "int" := (rfl)
theorem tyX_s {b : Str} : tyX (.str b) = some "str" := (rfl)
theorem tyX_n : tyX .none = some "NoneType" := (rfl)
theorem tyX_t {b : List PyData} : tyX (.tuple b) = some "tuple" := (rfl)
theorem isiX_ts : isiT "str" (some "tuple") = .ret (.val (.bool false)) := by unfold isiT; dsimp only; rw [kitX_tuple_str]
theorem isiX_tb : isiT "bool" (some "tuple") = .ret (.val (.bool false)) := by unfold isiT; dsimp only; rw [kitX_tuple_bool]
theorem isiX_ti : isiT "int" (some "tuple") = .ret (.val (.bool false)) := by unfold isiT; dsimp only; rw [kitX_tuple_int]
theorem isiX_tt : isiT "tuple" (some "tuple") = .ret (.val (.bool true)) := by unfold isiT; dsimp only; rw [kitX_tuple_tuple]
theorem isiX_st : isiT "tuple" (some "str") = .ret (.val (.bool false)) := by unfold isiT; dsimp only; rw [kitX_str_tuple]
theorem isiX_sb : isiT "bool" (some "str") = .ret (.val (.bool false)) := by unfold isiT; dsimp only; rw [kitX_str_bool]
theorem isiX_si : isiT "int" (some "str") = .ret (.val (.bool false)) := by unfold isiT; dsimp only; rw [kitX_str_int]
theorem isiX_bs : isiT "str" (some "bool") = .ret (.val (.bool false)) := by unfold isiT; dsimp only; rw [kitX_bool_str]
theorem isiX_bt : isiT "tuple" (some "bool") = .ret (.val (.bool false)) := by unfold isiT; dsimp only; rw [kitX_bool_tuple]
theorem isiX_is : isiT "str" (some "int") = .ret (.val (.bool false)) := by unfold isiT; dsimp only; rw [kitX_int_str]
theorem isiX_it : isiT "tuple" (some "int") = .ret (.val (.bool false)) := by unfold isiT; dsimp only; rw [kitX_int_tuple]
theorem isiX_ns : isiT "str" (some "NoneType") = .ret (.val (.bool false)) := by unfold isiT; dsimp only; rw [kitX_none_str]
theorem isiX_nt : isiT "tuple" (some "NoneType") = .ret (.val (.bool false)) := by unfold isiT; dsimp only; rw [kitX_none_tuple]
end
end Cs

set_option maxRecDepth 100000
set_option maxHeartbeats 1000000
/-! sorted of a tuple of ints; lists unpacked -/
namespace Cs
open PySem PySem.Spec PyProof.Rows L2
section
variable {prog : Program} {w : World} {A : Around} {E : Value → Shared → Prop} {s : Shared}
theorem collect_tupl {l : Addr} {vs : List Value} {Q : List Value → Shared → Prop} (hl : s.heap.IsTuple l vs.toArray)
    (h : Q vs { s with heap := (s.heap.push (seqObj "list" #[] 0)).update s.heap.objs.size (Obj.mapSeq (· ++ vs.toArray)) }) (hsz : vs.length ≤ sizeLine := by size_fits) :
    wpAny (model prog w) A (collect (.ref l)) Q E s := by
  obtain ⟨o, ho, hc, n, hd⟩ := id hl
  unfold collect
  refine wpAny_bind (wpAny_runValue (codeAny_builtin entry_proto_collect' ?_))
  show wpAny _ _ (do again (.builtin "list.__iadd__" ⟨[← newList [], .ref l], []⟩)) _ _ s
  refine wpAny_bind (wpAny_newList (wpAny_pure ⟨Code.quiet_builtin _ (by decide +kernel), codeAny_builtin entry_list_iadd' ?_⟩))
  show wpAny _ _ (Builtin.List.listExtendWith (.ref s.heap.objs.size) (.ref l) (.ref s.heap.objs.size)) _ _ { s with heap := s.heap.push (seqObj "list" #[] 0) }
  unfold Builtin.List.listExtendWith
  have ho' : (s.heap.push (seqObj "list" #[] 0)).get? l = some o := Heap.get?_push_of_some _ ho
  refine wpAny_bind (wpAny_typeOf (T := "tuple") ⟨o, ho', hc⟩ ?_)
  have ht : (Value.type "tuple" == Value.type "tuple") = true := by rfl
  rw [if_pos (by rw [ht]; simp)]
  refine wpAny_bind (listItems_at ho' hd ?_)
  refine wpAny_bind (listItems_at (xs := #[]) (n := 0) (Heap.get?_push_size _ rfl) rfl ?_)
  rw [if_neg (by simp)]
  refine wpAny_bind (listUpdate_at (xs := #[]) (n := 0) (Heap.get?_push_size _ rfl) rfl ?_ (Nat.zero_le _) (by show (#[] ++ vs.toArray).size ≤ sizeLine + 1; simp only [Array.size_append, List.size_toArray, List.length_nil]; omega))
  refine wpAny_pure ?_
  show wpAny (model prog w) A (do
      let o ← load s.heap.objs.size
      match o.data with
      | .seq xs _ => pure xs.toList
      | _ => unsupported "internal:collect") Q E { s with heap := (s.heap.push (seqObj "list" #[] 0)).update s.heap.objs.size (Obj.mapSeq (· ++ vs.toArray)) }
  refine wpAny_bind (wpAny_load (get?_update_seq (Heap.get?_push_size _ rfl) _) ?_)
  show wpAny _ _ (pure ((#[] : Array Value) ++ vs.toArray).toList) Q E _
  rw [show ((#[] : Array Value) ++ vs.toArray).toList = vs by simp]
  exact wpAny_pure h
theorem sorted_tupl {l : Addr} {vs : List Value} {ns : List Int} {Q : Value → Shared → Prop} (hl : s.heap.IsTuple l vs.toArray) (hI : IntsAre vs ns) (h64 : vs.length < 64)
    (h : ∀ (out : Array Value) (ns' : List Int), IntsAre out.toList ns' → ns'.Perm ns → ns'.Pairwise (· ≤ ·) → Q (.ref (s.heap.objs.size + 1)) { s with heap := sortedAll s.heap vs out }) :
    wpAny (model prog w) A (call (.builtin "sorted") [.ref l]) Q E s := by
  refine Calls.call_function_entry kind_sorted plain_sorted entry_sorted (args_sorted1 _) ?_
  unfold Builtin.«sorted»
  refine wpAny_bind (m := checkCount "sorted" 1 1 _) (wpAny_pure ?_)
  refine wpAny_bind (collect_tupl hl ?_ (small64 h64))
  refine wpAny_bind (wpAny_newList ?_)
  have hsz : ((s.heap.push (seqObj "list" #[] 0)).update s.heap.objs.size (Obj.mapSeq (· ++ vs.toArray))).objs.size = s.heap.objs.size + 1 := by
    rw [Heap.size_update, size_push']
  have hoL : (((s.heap.push (seqObj "list" #[] 0)).update s.heap.objs.size (Obj.mapSeq (· ++ vs.toArray))).push (seqObj "list" vs.toArray 0)).get? (s.heap.objs.size + 1) = some (seqObj "list" vs.toArray 0) := by
    rw [← hsz]; exact Heap.get?_push_size _ rfl
  show wpAny _ _ _ _ _ { s with heap := ((s.heap.push (seqObj "list" #[] 0)).update s.heap.objs.size (Obj.mapSeq (· ++ vs.toArray))).push (seqObj "list" vs.toArray 0) }
  rw [hsz]
  refine wpAny_bind (wpAny_holding (wpAny_call_entry slot_list_sort ⟨_, hoL, rfl⟩ entry_list_sort (list_sort_tree hoL hI h64 fun out ns' a1 a2 a3 => ⟨_, rfl, ?_⟩) (args_list_sort _)))
  exact wpAny_pure ⟨_, rfl, h out ns' a1 a2 a3⟩
end
def rSortU (K : PySem.W.Frag) : List V → Hp → VK → Prop := fun vs H Q => ∃ (a : Addr) (ns : List Int), vs = [V.ref a] ∧ (SqL K H a (ns.map V.int) ∨ SqT K H a (ns.map V.int)) ∧ ns.length < 64 ∧
  ∀ (ns' : List Int) (p : Addr), ns'.Perm ns → ns'.Pairwise (· ≤ ·) → H p = none → Q (.ref p) (upd H p (.lst (ns'.map V.int)))
theorem sortU (K : PySem.W.Frag) {X : Cx} (h : X.K = K := by rfl) : CallR X (.builtin "sorted") (rSortU K) := by
  subst h
  intro pins s σ H vs us Q I r h
  obtain ⟨a, ns, rfl, hs, h64, q⟩ := h
  rcases hs with hs | hs
  · exact cr_sorted pins s σ H _ us Q I r ⟨a, ns, rfl, hs, h64, q⟩
  · obtain ⟨its, rv, hl, _⟩ := I.tuple hs
    rw [Vals.ref1 r]
    have hi := rv.ints
    refine sorted_tupl (show s.heap.IsTuple a its.toArray from hl) hi (by rw [hi.length]; exact h64) fun out ns' h1 h2 h3 => ?_
    obtain ⟨ep, he'⟩ := PyProof.Rows.sortedAll_at s.heap its out
    have hlen : (ns'.map V.int).length ≤ sizeLine := by rw [List.length_map, h2.length_eq]; exact small64 h64
    exact ⟨.ref _, upd H (s.heap.objs.size + 1) (.lst (ns'.map V.int)), I.laid (t' := s.toks) (fun _ _ => PyProof.Rows.sortedAll_old) (Nat.le_succ _) ⟨hlen, out.toList, ep, vals_of_ints h1, he'⟩, rfl, q ns' _ h2 h3 (I.hok.fresh (Nat.le_succ _))⟩
section
variable {tp : Option (Addr × Addr)} {K : PySem.W.Frag} [WP K] {H H' H'' H0 H1 He Hq : Hp} {σ : L2.St} {ρ : Ro}
def srtK : PyData → M C
  | .list ds => .ret (.own (.lst ds))
  | _ => .fail
def srtI (ns : List Int) : M C := if ns.length < 64 then .any (fun d => ∃ ns' : List Int, ns'.Perm ns ∧ ns'.Pairwise (· ≤ ·) ∧ d = .list (ns'.map .int)) srtK else .fail
def srtD : PyData → M C
  | .list ds => match intsOf ds with
    | some ns => srtI ns
    | none => .fail
  | .tuple ds => match intsOf ds with
    | some ns => srtI ns
    | none => .fail
  | _ => .fail
abbrev oSort := o1 srtD
theorem cs_sort : CallS K (rSortU K) oSort := by
  intro tp H0 H vs cs Q g t r h
  obtain ⟨v, d, rfl, hd, h⟩ := o1_ok r h
  have fin : ∀ {ns : List Int} {vs : List V} {a : Addr}, vs = ns.map V.int → (SqL K H a vs ∨ SqT K H a vs) → wp0 (srtI ns) (Post tp K H0 Q) → rSortU K [.ref a] H Q := by
    intro ns vs a e hs h
    subst e
    unfold srtI at h
    split at h
    · rename_i h64
      exact ⟨a, ns, rfl, hs, h64, fun ns' p hp hw hn => Post.lst (h _ ⟨ns', hp, hw, rfl⟩) g t hn (.ofInts ns') (lfAll_iff.mpr fun d m => by obtain ⟨i, _, rfl⟩ := List.mem_map.mp m; rfl)⟩
    · exact h.elim
  unfold srtD at h
  split at h
  · split at h
    · rename_i ns e
      cases hd with
      | lst hs ha => exact fin (intsOf_dp ha e) (.inl hs) h
    · exact h.elim
  · split at h
    · rename_i ns e
      cases hd with
      | tup hs ha => exact fin (intsOf_dp ha e) (.inr hs) h
    · exact h.elim
  · exact h.elim
theorem srtD_l {ns : List Int} : srtD (.list (ns.map .int)) = srtI ns := by unfold srtD; dsimp only; rw [intsOf_map]
theorem srtD_t {ns : List Int} : srtD (.tuple (ns.map .int)) = srtI ns := by unfold srtD; dsimp only; rw [intsOf_map]
/-! a list unpacked -/
def aUnl (n : Nat) (as : List PyData → Ro → M Ro) : C → Ro → M Ro
  | .own (.lst ds), ρ => if ds.length = n then as ds ρ else .fail
  | .bor (.lst ds), ρ => if ds.length = n then as ds ρ else .fail
  | _, _ => .fail
theorem rg_unl {n : Nat} {gs : TGs} {as : List PyData → Ro → M Ro} {sl : List Nat} (h2 : RGs K gs as sl) : RG K (gUnl K n gs) (aUnl n as) sl := by
  intro tp He Hq ρ σ Hb H v c Q r g t rc h
  unfold aUnl at h
  split at h
  · rename_i ds
    obtain ⟨a, e, _, _, vs, q1, q2, q3⟩ := rc
    split at h
    · rename_i l
      exact ⟨a, vs, e, SqL.of q1, by rw [q2.len]; exact l, h2 tp He Hq ρ σ H vs ds Q (r.go g t) q2 q3 h⟩
    · exact h.elim
  · rename_i ds
    obtain ⟨a, e, vs, q1, q2, q3⟩ := rc
    split at h
    · rename_i l
      exact ⟨a, vs, e, q1.sq, by rw [q2.len]; exact l, h2 tp He Hq ρ σ H vs ds Q (r.go g t) q2 q3 h⟩
    · exact h.elim
  · exact h.elim
theorem aUnl_o {n : Nat} {as : List PyData → Ro → M Ro} {ds : List PyData} : aUnl n as (.own (.lst ds)) ρ = if ds.length = n then as ds ρ else .fail := (rfl)
theorem aUnl_b {n : Nat} {as : List PyData → Ro → M Ro} {ds : List PyData} : aUnl n as (.bor (.lst ds)) ρ = if ds.length = n then as ds ρ else .fail := (rfl)
/-! zip of two tuples -/
def zipT (xs ys : List PyData) : List PyData := (xs.zip ys).map fun p => .tuple [p.1, p.2]
def zipD : List C → M (List PyData)
  | [.val (.tuple xs), .val (.tuple ys)] => .ret (zipT xs ys)
  | _ => .fail
def gZip (gs : Ro → M (List C)) (ρ : Ro) : M (List PyData) := (gs ρ).bind zipD
theorem gZip_eq {gs : Ro → M (List C)} : gZip gs ρ = (gs ρ).bind zipD := (rfl)
theorem zipD_t {xs ys : List PyData} : zipD [.val (.tuple xs), .val (.tuple ys)] = .ret (zipT xs ys) := (rfl)
theorem lf_zip {xs ys : List PyData} (f : lfAll xs = true) (g : lfAll ys = true) : lfAll (zipT xs ys) = true := rfl
theorem wk_zipT {a b : Addr} {vs us : List V} {xs ys : List PyData} (h : SqT K H1 a vs) (h' : SqT K H1 b us) (hd : VlAll K H1 vs xs) (hd' : VlAll K H1 us ys) (f : lfAll xs = true) (f' : lfAll ys = true) : Wk K H1 (RZ.ItzT K a b) [] (zipT xs ys) := by
  intro H' im kp
  have hs := im.sqT h
  have hs' := im.sqT h'
  have e1 := hd.imlf im xs _ f
  have e2 := hd'.imlf im ys _ f'
  refine ⟨⟨vs, us, hs, hs', ?_⟩, fun i d e => ?_⟩
  · rw [hd.len, hd'.len]
    unfold zipT
    rw [List.length_map, List.length_zip]
    omega
  · unfold zipT at e
    rw [List.getElem?_map] at e
    cases q : (xs.zip ys)[i]? with
    | none => rw [q] at e; cases e
    | some p =>
      rw [q] at e
      obtain ⟨x, y⟩ := p
      cases e
      obtain ⟨q1, q2⟩ := List.getElem?_zip_eq_some.mp q
      obtain ⟨v, v1, v2⟩ := e1.get q1
      obtain ⟨u, u1, u2⟩ := e2.get q2
      refine ⟨⟨vs, us, v, u, hs, hs', v1, u1⟩, fun z H'' yl => ?_⟩
      obtain ⟨T, x', y', rfl, hT, rfl, g1, g2⟩ := yl
      have := g1 vs hs
      rw [v1] at this
      cases this
      have := g2 us hs'
      rw [u1] at this
      cases this
      have fx := lfAll_get f q1
      have fy := lfAll_get f' q2
      have im2 : Im H' (upd H' T (.tup [v, u])) := Im.new hT
      exact ⟨Same.new hT, .tup upd_same (.cons (v2.imlf im2 x _ fx) (.cons (u2.imlf im2 y _ fy) .nil))⟩
theorem ri_zip {ta : TA} {gs : Ro → M (List C)} {s : Bool} (h1 : RA K ta gs) : RI K s (RZ.iZipA K ta) (gZip gs) := by
  intro tp He Hq ρ σ H Q r h
  refine h1 tp He Hq ρ σ H _ r (wp0_mono (fun c hc => ?_) (wp0_bind.mp h))
  intro vs H1 g1 t1 rx
  unfold zipD at hc
  split at hc
  · rename_i xs ys
    obtain ⟨v, u, rfl, r1, r2⟩ := rx.two
    obtain ⟨a, vs, rfl, q1, q2, q3⟩ := r1.tup
    obtain ⟨b, us, rfl, p1, p2, p3⟩ := r2.tup
    exact ⟨a, b, vs, us, rfl, .inr ⟨q1, p1, hc _ H1 [] g1 t1 (lf_zip q3 p3) (wk_zipT q1 p1 q2 p2 q3 p3) (fun _ m => by simp at m) (fun _ _ _ _ m => by simp at m)⟩⟩
  · exact hc.elim
/-! < of ints, bools, texts -/
def rLtU : R2 := fun x y H Q => rI0 (fun i j => .bl (decide (i < j))) x y H Q ∨ (∃ i j, x = .str i ∧ y = .str j ∧ Q (.bl (decide (i.cps.toList < j.cps.toList))) H) ∨ ∃ p q, x = .bl p ∧ y = .bl q ∧ Q (.bl (!p && q)) H
theorem opLtU {X : Cx} : OpR X (compareOp .Lt) rLtU := by
  intro pins s σ H x y v u Q I rx ry h
  rcases h with h | ⟨i, j, rfl, rfl, q⟩ | ⟨p, r, rfl, rfl, q⟩
  · exact op_lt pins s σ H x y v u Q I rx ry h
  · exact op_lt_str pins s σ H _ _ v u Q I rx ry ⟨i, j, rfl, rfl, q⟩
  · cases rx
    cases ry
    refine PyProof.Rows.lt_bool ?_
    have e : decide (b2i p < b2i r) = (!p && r) := by cases p <;> cases r <;> decide
    rw [e]
    exact ⟨.bl (!p && r), H, I, rfl, q⟩
def oLtU : C → C → M C
  | .val (.int i), .val (.int j) => .ret (.val (.bool (decide (i < j))))
  | .val (.str i), .val (.str j) => .ret (.val (.bool (decide (i.cps.toList < j.cps.toList))))
  | .val (.bool p), .val (.bool q) => .ret (.val (.bool (!p && q)))
  | _, _ => .fail
theorem os_ltU : OpS K rLtU oLtU := by
  intro tp H0 H x y cx cy Q g t rx ry h
  unfold oLtU at h
  split at h
  · rename_i i j
    cases rx.int; cases ry.int
    exact .inl ⟨i, j, rfl, rfl, Post.bl h g t⟩
  · rename_i i j
    cases rx.str; cases ry.str
    exact .inr (.inl ⟨i, j, rfl, rfl, Post.bl h g t⟩)
  · rename_i i j
    cases rx.bl; cases ry.bl
    exact .inr (.inr ⟨i, j, rfl, rfl, Post.bl h g t⟩)
  · exact h.elim
theorem oLtU_i {i j : Int} : oLtU (.val (.int i)) (.val (.int j)) = .ret (.val (.bool (decide (i < j)))) := (rfl)
theorem oLtU_s {i j : Str} : oLtU (.val (.str i)) (.val (.str j)) = .ret (.val (.bool (decide (i.cps.toList < j.cps.toList)))) := (rfl)
theorem oLtU_b {i j : Bool} : oLtU (.val (.bool i)) (.val (.bool j)) = .ret (.val (.bool (!i && j))) := (rfl)
end
/-! index -/
def rIndexT (K : PySem.W.Frag) : V → List V → Hp → VK → Prop := fun x xs H Q => ∃ (a : Addr) (y : V) (d : PyData) (ds : List PyData) (j : Nat) (z : PyData), x = V.ref a ∧ xs = [y] ∧ Dp K H (V.ref a) (.tuple ds) ∧ Dp K H y d ∧
  SeqAt.shaped (.list ds) = true ∧ SeqAt.shaped d = true ∧ ds[j]? = some z ∧ PyData.eqv z d = true ∧ (∀ (m : Nat) (z' : PyData), m < j → ds[m]? = some z' → PyData.eqv z' d = false) ∧ Q (.int (j : Nat)) H
theorem mt_indexT {X : Cx} (hu : X.A.units + 65 < cLine) : MtR X "tuple.index" (rIndexT X.K) := by
  intro pins s σ H x xs v us Q I rx rxs h
  obtain ⟨a, y, d, ds, j, z, rfl, rfl, hl, hy, sl, sd, hz, hzj, hno, q⟩ := h
  cases rx
  cases rxs with
  | cons ry rt =>
    rename_i uy ut
    cases rt
    obtain ⟨bs, r1⟩ := Dp.reads I d y uy hy ry
    have hxs : PyData.canLayAll0 ds = true := SeqAt.canLay_of_shaped sl
    have hroom : X.A.units + 1 + min (PyData.depthAll ds) d.depth < cLine := room_in_shaped sd hu
    cases hl with
    | tup hs ha =>
      obtain ⟨its, rv, ⟨⟨cls, dd, data, sls⟩, ho, hc, n, hdt⟩, hlen⟩ := I.tuple hs
      simp only at hc hdt
      subst hc hdt
      obtain ⟨as, h4⟩ := Dp.readsAll I ds _ its ha rv
      have hn : its.length = ds.length := SeqAt.ReadsAll.length ds its as h4
      have hmap : its.map (SeqAt.readOf s.heap) = ds := SeqAt.readsAll_map ds its as hxs h4
      have hvl := rv.length
      have hsl := sizeLine_eq
      obtain ⟨hjd, _⟩ := List.getElem?_eq_some_iff.mp hz
      have hjl : j < its.length := by omega
      have hj : j < its.toArray.size := by simpa using hjl
      have at_ : ∀ (m : Nat) (hm : m < its.toArray.size) (z' : PyData), ds[m]? = some z' → SeqAt.readOf s.heap its.toArray[m] = z' := by
        intro m hm z' hz'
        have hml : m < its.length := by simpa using hm
        rw [← hmap, List.getElem?_map, List.getElem?_eq_getElem hml] at hz'
        have e1 : SeqAt.readOf s.heap its[m] = z' := Option.some.inj (show some (SeqAt.readOf s.heap its[m]) = some z' from hz')
        simpa using e1
      refine call_meets PySem.F.slot_tuple_index ⟨_, ho, rfl⟩ PySem.F.entry_tuple_index (PySem.F.args_tuple_index_2 _ _)
        (TI.tuple_indexAt a its.toArray n dd sls uy (fun u => PyData.eqv (SeqAt.readOf s.heap u) d) j hj ?_ ?_) ⟨ho, SeqAt.items_eqAt (vs := its.toArray) (show ReadsAll s.heap its.toArray.toList ds as from h4) r1 hxs (SeqAt.canLay_of_shaped sd) hroom, ?_⟩
      · show PyData.eqv (SeqAt.readOf s.heap its.toArray[j]) d = true
        rw [at_ j hj z hz]
        exact hzj
      · intro m hm hmj
        have hmd : m < ds.length := by omega
        have hz' : ds[m]? = some ds[m] := List.getElem?_eq_getElem hmd
        show PyData.eqv (SeqAt.readOf s.heap its.toArray[m]) d = false
        rw [at_ m hm _ hz']
        exact hno m _ hmj hz'
      · exact ⟨.int (j : Nat), H, I.tok _, ⟨_, rfl⟩, q⟩
theorem mtIxT (K : PySem.W.Frag) {X : Cx} (hu : X.A.units + 65 < cLine) (h : X.K = K := by rfl) : MtR X "tuple.index" (rIndexT K) := h ▸ mt_indexT hu
theorem mtIxL (K : PySem.W.Frag) {X : Cx} (hu : X.A.units + 65 < cLine) (h : X.K = K := by rfl) : MtR X "list.index" (rIndexD K) := h ▸ mt_indexD hu
section
variable {tp : Option (Addr × Addr)} {K : PySem.W.Frag} [WP K] {H H' H'' H0 H1 He Hq : Hp} {σ : L2.St} {ρ : Ro}
/-- the first place of an equal one -/
def idx (d : PyData) (ds : List PyData) : Option Nat := ds.findIdx? fun z => PyData.eqv z d
theorem idx_some {d : PyData} {ds : List PyData} {j : Nat} (h : idx d ds = some j) : ∃ z, ds[j]? = some z ∧ PyData.eqv z d = true ∧ ∀ (m : Nat) (z' : PyData), m < j → ds[m]? = some z' → PyData.eqv z' d = false := by
  unfold idx at h
  obtain ⟨hj, h1, h2⟩ := List.findIdx?_eq_some_iff_getElem.mp h
  refine ⟨ds[j], List.getElem?_eq_getElem hj, h1, fun m z' hm hz => ?_⟩
  obtain ⟨hm', e⟩ := List.getElem?_eq_some_iff.mp hz
  have := h2 m hm
  rw [e] at this
  simpa using this
def idxD (d : PyData) (ds : List PyData) : M C := if (SeqAt.shaped d && SeqAt.shaped (.list ds)) = true then (match idx d ds with
  | some j => .ret (.val (.int (j : Nat)))
  | none => .fail) else .fail
def idxA (ds : List PyData) : List C → M C
  | [.val d] => idxD d ds
  | _ => .fail
def kIdxL (gs : Ro → M (List C)) (ρ : Ro) : C → M C
  | .bor (.lst ds) => (gs ρ).bind (idxA ds)
  | .own (.lst ds) => (gs ρ).bind (idxA ds)
  | .val (.list ds) => (gs ρ).bind (idxA ds)
  | _ => .fail
theorem RC.lbor {v : V} {ds : List PyData} (h : RC tp K H0 H v (.val (.list ds))) (t : TOk tp H) : RC tp K H0 H v (.bor (.lst ds)) := by
  obtain ⟨a, vs, rfl, ⟨o, q1⟩, q2⟩ := h.frz
  refine ⟨a, rfl, vs, ⟨.inr ⟨o, q1⟩, fun e => ?_⟩, q2, rfl⟩
  cases tp with
  | none => cases e
  | some w =>
    obtain ⟨b, l⟩ := w
    have : b = a := by simpa using e
    subst this
    obtain ⟨xs, z⟩ := (t b l rfl).list
    rw [q1] at z
    cases z
def gIdxL (go : Ro → M C) (gs : Ro → M (List C)) (ρ : Ro) : M C := (go ρ).bind (kIdxL gs ρ)
theorem gIdxL_eq {go : Ro → M C} {gs : Ro → M (List C)} : gIdxL go gs ρ = (go ρ).bind (kIdxL gs ρ) := (rfl)
theorem kIdxL_b {gs : Ro → M (List C)} {ds : List PyData} : kIdxL gs ρ (.bor (.lst ds)) = (gs ρ).bind (idxA ds) := (rfl)
theorem kIdxL_o {gs : Ro → M (List C)} {ds : List PyData} : kIdxL gs ρ (.own (.lst ds)) = (gs ρ).bind (idxA ds) := (rfl)
theorem idxA_v {ds : List PyData} {d : PyData} : idxA ds [.val d] = idxD d ds := (rfl)
theorem RCs.one' {vs : List V} {c : C} (h : RCs tp K H0 H vs [c]) : ∃ v, vs = [v] ∧ RC tp K H0 H v c := by
  cases vs with
  | nil => exact h.elim
  | cons v vs => cases vs with
    | nil => exact ⟨v, rfl, h.1⟩
    | cons _ _ => exact h.2.elim
theorem idxD_ok {d : PyData} {ds : List PyData} {Q : VK} (g : GrT tp H0 H) (t : TOk tp H) (h : wp0 (idxD d ds) (Post tp K H0 Q)) : SeqAt.shaped (.list ds) = true ∧ SeqAt.shaped d = true ∧ ∃ (j : Nat) (z : PyData), ds[j]? = some z ∧ PyData.eqv z d = true ∧ (∀ (m : Nat) (z' : PyData), m < j → ds[m]? = some z' → PyData.eqv z' d = false) ∧ Q (.int (j : Nat)) H := by
  unfold idxD at h
  split at h
  · rename_i e
    simp only [Bool.and_eq_true] at e
    split at h
    · rename_i j e2
      obtain ⟨z, z1, z2, z3⟩ := idx_some e2
      exact ⟨e.2, e.1, j, z, z1, z2, z3, Post.int h g t⟩
    · exact h.elim
  · exact h.elim
theorem re_idxL {to : TE} {t : TA} {go : Ro → M C} {gs : Ro → M (List C)} (h1 : RE K to go) (h2 : RA K t gs) : RE K (tBM K "list" (rIndexD K) to t) (gIdxL go gs) := by
  intro tp He Hq ρ σ H Q r h
  refine h1 tp He Hq ρ σ H _ r (wp0_mono (fun c hc => ?_) (wp0_bind.mp h))
  intro x H1 g1 t1 rx
  have key : ∀ {ds : List PyData}, RC tp K H H1 x (.bor (.lst ds)) → wp0 ((gs ρ).bind (idxA ds)) (Post tp K H Q) → tyV K "list" x H1 ∧ t σ H1 fun xs H2 => rIndexD K x xs H2 Q := fun {ds} rx hc => by
    obtain ⟨a, rfl, vs, q1, q2, q3⟩ := rx
    refine ⟨.inl ⟨rfl, vs, q1.sq⟩, ?_⟩
    refine h2 tp He Hq ρ σ H1 _ (r.go g1 t1) (wp0_mono (fun cs hcs => ?_) (wp0_bind.mp hc))
    intro xs H2 g2 t2 rcs
    unfold idxA at hcs
    split at hcs
    · rename_i d
      obtain ⟨y, rfl, ry⟩ := rcs.one'
      have rx2 : RC tp K H H2 (V.ref a) (.bor (.lst ds)) := RC.gr (⟨a, rfl, vs, q1, q2, q3⟩ : RC tp K H H1 (V.ref a) (.bor (.lst ds))) g2 t1
      obtain ⟨s1, s2, j, z, z1, z2, z3, q⟩ := idxD_ok (g1.trans g2) t2 hcs
      exact ⟨a, y, d, ds, j, z, rfl, rfl, rx2.dp rfl, ry.1.dp _ _, s1, s2, z1, z2, z3, q⟩
    · exact hcs.elim
  cases c with
  | own o =>
    cases o with
    | lst ds => exact key rx.lend hc
    | dT _ => exact hc.elim
    | dK _ => exact hc.elim
    | lT _ => exact hc.elim
    | xo _ => exact hc.elim
  | bor o =>
    cases o with
    | lst ds => exact key rx hc
    | dT _ => exact hc.elim
    | dK _ => exact hc.elim
    | lT _ => exact hc.elim
    | xo _ => exact hc.elim
  | val d =>
    cases d with
    | list ds => exact key (rx.lbor t1) hc
    | _ => exact hc.elim
  | tape => exact hc.elim
/-! a tuple of the module's top -/
def KTup (K : PySem.W.Frag) (a : Addr) (ds : List PyData) : Prop := ∃ (o : Obj) (its : Array Value) (n : Nat) (vs : List V), K.lookup a = some o ∧ o.cls = .type "tuple" ∧ o.dict = none ∧ o.data = .seq its n ∧ its.size ≤ sizeLine ∧ Vals vs its.toList ∧ (∀ H, VlAll K H vs ds) ∧ lfAll ds = true
theorem KTup.dp {a : Addr} {ds : List PyData} (h : KTup K a ds) (H : Hp) : Dp K H (.ref a) (.tuple ds) := by
  obtain ⟨o, its, n, vs, h1, h2, h3, h4, h5, h6, h7, h8⟩ := h
  exact .tup (.inr ⟨o, its, n, h1, h2, h4, h5, h6⟩) ((h7 H).dp _ _)
theorem pe_ktup {X : Cx} {x : Str} {a : Addr} {pos : Pos} (hg : Gl X x) (hm : X.mg x = some (.ref a)) (hd : (x == ("__debug__" : Str)) = false := by decide) : PE X (.Name x pos) (tC (.ref a)) := pe_glob hg hm rfl hd
def gIdxK (ds : List PyData) (gs : Ro → M (List C)) (ρ : Ro) : M C := (gs ρ).bind (idxA ds)
theorem gIdxK_eq {ds : List PyData} {gs : Ro → M (List C)} : gIdxK ds gs ρ = (gs ρ).bind (idxA ds) := (rfl)
theorem re_idxK {a : Addr} {ds : List PyData} {t : TA} {gs : Ro → M (List C)} (hk : KTup K a ds) (h2 : RA K t gs) : RE K (tBM K "tuple" (rIndexT K) (tC (.ref a)) t) (gIdxK ds gs) := by
  intro tp He Hq ρ σ H Q r h
  refine ⟨?_, ?_⟩
  · obtain ⟨o, its, n, vs, h1, h2, h3, _⟩ := hk
    exact .inr (.inl ⟨rfl, o, h1, h2, h3⟩)
  · refine h2 tp He Hq ρ σ H _ r (wp0_mono (fun cs hcs => ?_) (wp0_bind.mp h))
    intro xs H2 g2 t2 rcs
    unfold idxA at hcs
    split at hcs
    · rename_i d
      obtain ⟨y, rfl, ry⟩ := rcs.one'
      obtain ⟨s1, s2, j, z, z1, z2, z3, q⟩ := idxD_ok g2 t2 hcs
      exact ⟨a, y, d, ds, j, z, rfl, rfl, hk.dp H2, ry.1.dp _ _, s1, s2, z1, z2, z3, q⟩
    · exact hcs.elim
/-! index of a sign in a text -/
def sixD (z : Str) : List C → M C
  | [.val (.str b)] => match Builtin.Str.occurrences z b 0 z.length 1 with
    | i :: _ => .ret (.val (.int (i : Nat)))
    | [] => .fail
  | _ => .fail
def kSix (gs : Ro → M (List C)) (ρ : Ro) : C → M C
  | .val (.str z) => (gs ρ).bind (sixD z)
  | _ => .fail
def gSix (go : Ro → M C) (gs : Ro → M (List C)) (ρ : Ro) : M C := (go ρ).bind (kSix gs ρ)
theorem gSix_eq {go : Ro → M C} {gs : Ro → M (List C)} : gSix go gs ρ = (go ρ).bind (kSix gs ρ) := (rfl)
theorem kSix_s {gs : Ro → M (List C)} {z : Str} : kSix gs ρ (.val (.str z)) = (gs ρ).bind (sixD z) := (rfl)
def rSix : V → List V → Hp → VK → Prop := fun x xs H Q => ∃ a b i rest, x = .str a ∧ xs = [.str b] ∧ Builtin.Str.occurrences a b 0 a.length 1 = i :: rest ∧ Q (.int (i : Nat)) H
theorem mtSix {X : Cx} : MtR X "str.index" rSix := mt_sindex
theorem re_six {to : TE} {t : TA} {go : Ro → M C} {gs : Ro → M (List C)} (h1 : RE K to go) (h2 : RA K t gs) : RE K (tBM K "str" rSix to t) (gSix go gs) := by
  intro tp He Hq ρ σ H Q r h
  refine h1 tp He Hq ρ σ H _ r (wp0_mono (fun c hc => ?_) (wp0_bind.mp h))
  intro x H1 g1 t1 rx
  unfold kSix at hc
  split at hc
  · rename_i z
    cases rx.str
    refine ⟨rfl, ?_⟩
    refine h2 tp He Hq ρ σ H1 _ (r.go g1 t1) (wp0_mono (fun cs hcs => ?_) (wp0_bind.mp hc))
    intro xs H2 g2 t2 rcs
    unfold sixD at hcs
    split at hcs
    · rename_i b
      obtain ⟨y, rfl, ry⟩ := rcs.one'
      cases ry.str
      split at hcs
      · rename_i i rest e
        exact ⟨z, b, i, rest, rfl, rfl, e, Post.int hcs (g1.trans g2) t2⟩
      · exact hcs.elim
    · exact hcs.elim
  · exact hc.elim
/-! x += e of ints -/
def kAug (i : Nat) (f : Int → Int → Int) (a : Int) (ρ : Ro) : C → M Res
  | .val (.int b) => (asgR i (.val (.int (f a b))) ρ).bind fun ρ' => .ret (.nx ρ')
  | _ => .fail
def augAt (i : Nat) (f : Int → Int → Int) (g : Ro → M C) (ρ : Ro) : Option (Option C) → M Res
  | some (some (.val (.int a))) => (g ρ).bind (kAug i f a ρ)
  | _ => .fail
def mAugI (i : Nat) (f : Int → Int → Int) (g : Ro → M C) (ρ : Ro) : M Res := augAt i f g ρ ρ[i]?
theorem mAugI_eq {i : Nat} {f : Int → Int → Int} {g : Ro → M C} : mAugI i f g ρ = augAt i f g ρ ρ[i]? := (rfl)
theorem augAt_i {i : Nat} {f : Int → Int → Int} {g : Ro → M C} {a : Int} : augAt i f g ρ (some (some (.val (.int a)))) = (g ρ).bind (kAug i f a ρ) := (rfl)
theorem kAug_i {i : Nat} {f : Int → Int → Int} {a b : Int} : kAug i f a ρ (.val (.int b)) = (asgR i (.val (.int (f a b))) ρ).bind fun ρ' => .ret (.nx ρ') := (rfl)
theorem rs_augI {i : Nat} {f : Int → Int → Int} {te : TE} {g : Ro → M C} (h1 : RE K te g) : RS K (tAug i te (ipI f)) (mAugI i f g) := by
  intro tp He Hq ρ σ H D r h
  unfold mAugI augAt at h
  split at h
  · rename_i a e
    obtain ⟨v, h2, h3⟩ := r.at_ i _ e
    have h3' : RC tp K H H v (.val (.int a)) := h3
    cases h3'.int
    refine ⟨_, h2, ?_⟩
    refine h1 tp He Hq ρ σ H _ r (wp0_mono (fun c hc => ?_) (wp0_bind.mp h))
    intro y H1 g1 t1 ry
    unfold kAug at hc
    split at hc
    · rename_i b
      cases ry.int
      refine ⟨a, b, rfl, rfl, ?_⟩
      exact rg_name tp He Hq ρ σ H H1 (.int (f a b)) (.val (.int (f a b))) D.nx r g1 t1 ⟨.int _, rfl⟩ (wp0_mono (fun ρ' hρ σ' _ rel => hρ σ' H1 Hq .refl rel) (wp0_bind.mp hc))
    · exact hc.elim
  · exact h.elim
end
/-- a def that calls itself, at no depth -/
theorem Df.rec0 {K : PySem.W.Frag} [WP K] {P : Program} {w : World} {mg : Str → Option Value} {base : Heap} {x : Str} {st : Stmt} {N ps : List Str} {k : Nat} (A : At K mg x st)
    (bd : ∀ (kV doc pm : Value) (an : Option Addr) (cdv ct : Value) (us : List Value), us.length = ps.length → bindArgs (PySem.W.fnOf x x (defArgs st) (defBody st) (defScope st) .none kV doc pm an cdv ct) ⟨us, []⟩ = pure (ps.zip us))
    (S : FnScope N ps (defScope st)) : Df P w K mg base (k + 1) x ps (spU K (fun _ => .fail)) := by
  refine Df.of A bd S (fun vs H Q E h => ?_) (fun cdv A out f s H vs Q E hr hg h => ?_)
  · obtain ⟨tp, cs, H0, S0, h⟩ := h
    exact h.elim
  · obtain ⟨tp, cs, H0, S0, h⟩ := h
    exact h.elim
end Cs

set_option maxRecDepth 100000
set_option maxHeartbeats 1000000
/-! defs with keyword-only parameters -/
namespace Cs
open PySem PySem.Spec PyProof.Rows L2
def AtK (K : PySem.W.Frag) (mg : Str → Option Value) (x : Str) (st : Stmt) (kws : List (Str × V)) : Prop := ∃ (f : Addr) (fd : FuncData), mg x = some (.ref f) ∧ Fun K x x st f fd ∧ FunD K x x (defArgs st) (defBody st) (defScope st) [] kws f fd
def DfK (P : Program) (w : World) (K : PySem.W.Frag) (mg : Str → Option Value) (base : Heap) (k : Nat) (x : Str) (ps : List Str) (n : Nat) (kws : List (Str × V)) (sp : Sp) : Prop :=
  ∃ (f : Addr) (fd : FuncData) (ds : List Value), mg x = some (.ref f) ∧ PySem.W.keepIn K (.ref f) = true ∧ Vals (kws.map (·.2)) ds ∧ Binds K fd ps ds ∧ KBn K fd ps n (kws.map (·.1)) (fun us ws => us ++ ws) (fun vs zs => vs ++ zs) ∧ FnG P w K mg base k f fd ps sp
section
variable {P : Program} {w : World} {K : PySem.W.Frag} [WP K] {mg : Str → Option Value} {base : Heap}
theorem DfK.uni {x : Str} {st : Stmt} {N ps : List Str} {kws : List (Str × V)} {k n m : Nat} {mm : Ro → M Res} (A : AtK K mg x st kws) (hk : kws ≠ []) (hn : n + kws.length = ps.length)
    (h0 : ∀ (D : Addr) (doc pm : Value) (an : Option Addr) (cdv ct : Value) (us ks : List Value), us.length = n → ks.length = kws.length →
      KwChain D ((kws.map (·.1)).zip ks) (bindArgs (PySem.W.fnOf x x (defArgs st) (defBody st) (defScope st) .none (.ref D) doc pm an cdv ct) ⟨us, []⟩) (ps.zip (us ++ ks)))
    (h1 : ∀ (kV doc pm : Value) (an : Option Addr) (cdv ct : Value) (us ws : List Value), us.length = n → ws.length = kws.length → bindArgs (PySem.W.fnOf x x (defArgs st) (defBody st) (defScope st) .none kV doc pm an cdv ct) ⟨us, (kws.map (·.1)).zip ws⟩ = pure (ps.zip (us ++ ws)))
    (S : FnScope N ps (defScope st)) (hm : N.length - ps.length = m)
    (body : ∀ (cdv : Value) (A : Around) (out : List Env) (f : Addr) (s : Shared) (H : Hp) (E : XK), Room k (A.deeper (envOfC x (defScope st) s.heap.objs.size f cdv)) → A.guards = some [] →
      ∃ t, PSs (cxG P w K mg base N x (defScope st) f cdv A out s H E) (defBody st) t ∧ RS K t mm) :
    DfK P w K mg base (k + 1) x ps n kws (spU K (fnU ps.length m mm)) := by
  obtain ⟨f, fd, hmg, F, FD⟩ := A
  obtain ⟨ds, vd, bd⟩ := FD.binds0 n hk hn h0
  have G : FnG P w K mg base (k + 1) f fd ps (spU K (fnU ps.length m mm)) := by
    refine FnG.of F S (fun vs H Q E h => ?_) (fun cdv A out s H vs Q E hr hg h => ?_)
    · obtain ⟨tp, cs, H0, S0, h⟩ := h
      unfold fnU at h
      split at h
      · rename_i e
        rw [S0.at_.len, e]
      · exact h.elim
    · obtain ⟨tp, cs, H0, S0, h⟩ := h
      obtain ⟨t', q1, q2⟩ := body cdv A out f s H E hr hg
      refine ⟨t', q1, ?_⟩
      unfold fnU at h
      split at h
      · rename_i e
        refine q2 tp H0 H0 _ _ H _ (start_rel S0 (by rw [S0.at_.len, e]; exact hm)) (wp0_mono (fun q hq => ?_) (wp0_bind.mp h))
        cases q with
        | nx ρ' => exact fun σ' H' Hq' g' r' => hq .non H' (r'.sub.trans r'.gr) r'.tok ⟨.non, rfl⟩
        | rt c => exact hq
        | bk _ => exact hq.elim
        | ct _ => exact hq.elim
      · exact h.elim
  refine ⟨f, fd, ds, hmg, F.kp, vd, bd, ⟨fun s us ws X l1 l2 => ?_, fun r1 r2 => r1.append r2⟩, G⟩
  obtain ⟨oc, od, kV, doc, pm, an, cdv, ct, osl, rfl, _⟩ := F.ex
  rw [List.length_map] at l2
  exact .of_eq (h1 kV doc pm an cdv ct us ws l1 l2)
end
section
variable {X : Cx} {k n : Nat} {ps : List Str} {sp : Sp} {x : Str} {p pos : Pos} {e : Expr} {es : List Expr} {kw : List Keyword} {kws : List (Str × V)} {t tk : TA}
def tFnD (sp : Sp) (ds : List V) (t : TA) : TE := fun σ H Q => t σ H fun vs H1 => sp (vs ++ ds) H1 Q E0
theorem pe_dfD (D : DfK X.prog X.w X.K X.mg X.base k x ps n kws sp) (hr : Room k X.A) (hgd : X.A.guards = some []) (hg : Gl X x)
    (ha : PA X (e :: es) t) (hdb : (x == ("__debug__" : Str)) = false := by decide) (he : starEach (e :: es) X.env = (false, eval e X.env) :: starEach es X.env := by rfl) (hpl : (backTo pos (starEach es X.env)).any (·.1) = false := by rfl) :
    PE X (.Call (.Name x p) (e :: es) [] pos) (tFnD sp (kws.map (·.2)) t) := by
  obtain ⟨f, fd, ds, hm, hk, vd, hb, _, F⟩ := D
  refine ⟨fun pins s σ H Q I h => wpAny_Call_Name_kw (ld_glob I hg hm ?_ hdb)⟩
  refine PySem.W.callWith_K (h₀ := X.base) I.ok.mod.kin hk (thn (ha.run pos pins s σ H _ I h) fun us s1 ⟨vs, H1, I1, r, q⟩ => ⟨I1.kIn, ?_⟩) he hpl
  have r2 : Vals (vs ++ kws.map (·.2)) (us ++ ds) := r.append vd
  have hl : (us ++ ds).length = ps.length := by rw [← r2.length]; exact F.len _ _ _ _ q
  refine wpAny_call (codeAny_mono (F.go X.A X.stack s1 H1 ⟨us, []⟩ (us ++ ds) (vs ++ kws.map (·.2)) Q E0 hr hgd I1.env0 (hb s1 us I1.kIn hl) r2 q) fun r s' hq => ?_)
  match r, hq with
  | .ok (.ret u), hq => exact I1.after hq
  | .error e, hq => exact False.elim hq
  | .ok .next, hq => exact False.elim hq
  | .ok .brk, hq => exact False.elim hq
  | .ok .cont, hq => exact False.elim hq
def tFnK (sp : Sp) (n m : Nat) (t tk : TA) : TE := fun σ H Q => t σ H fun vs H1 => tk σ H1 fun zs H2 => vs.length = n ∧ zs.length = m ∧ sp (vs ++ zs) H2 Q E0
theorem pe_dfK (D : DfK X.prog X.w X.K X.mg X.base k x ps n kws sp) (hr : Room k X.A) (hgd : X.A.guards = some []) (hg : Gl X x)
    (ha : PA X (e :: es) t) (hkw : PK X kw tk) (hks : (backToKw pos (keywordEach kw X.env)).filterMap (·.1) = kws.map (·.1) := by rfl) (hall : (backToKw pos (keywordEach kw X.env)).all (·.1.isSome) = true := by rfl)
    (hdb : (x == ("__debug__" : Str)) = false := by decide) (he : starEach (e :: es) X.env = (false, eval e X.env) :: starEach es X.env := by rfl)
    (hpl : ((backTo pos (starEach (e :: es) X.env)).any (·.1) || (backToKw pos (keywordEach kw X.env)).any (·.1.isNone)) = false := by rfl) :
    PE X (.Call (.Name x p) (e :: es) kw pos) (tFnK sp n kws.length t tk) := by
  obtain ⟨f, fd, ds, hm, hk, vd, _, hb, F⟩ := D
  refine ⟨fun pins s σ H Q I h => wpAny_Call_Name_kw (ld_glob I hg hm ?_ hdb)⟩
  refine PySem.W.callWith_KW (h₀ := X.base) I.ok.mod.kin hk hall (thn (ha.run pos pins s σ H _ I h) fun us s1 ⟨vs, H1, I1, r, q⟩ => ?_) hpl he
  refine thn (hkw.run pos pins s1 σ H1 _ I1 q) fun ws s2 ⟨zs, H2, I2, rz, l1, l2, q2⟩ => ⟨I2.kIn, ?_⟩
  rw [hks]
  have r2 : Vals (vs ++ zs) (us ++ ws) := r.append rz
  refine wpAny_call (codeAny_mono (F.go X.A X.stack s2 H2 ⟨us, (kws.map (·.1)).zip ws⟩ (us ++ ws) (vs ++ zs) Q E0 hr hgd I2.env0 (hb.to s2 us ws I2.kIn (r.length.symm.trans l1) (rz.length.symm.trans (by rw [List.length_map]; exact l2))) r2 q2) fun r s' hq => ?_)
  match r, hq with
  | .ok (.ret u), hq => exact I2.after hq
  | .error e, hq => exact False.elim hq
  | .ok .next, hq => exact False.elim hq
  | .ok .brk, hq => exact False.elim hq
  | .ok .cont, hq => exact False.elim hq
end
section
variable {tp : Option (Addr × Addr)} {K : PySem.W.Frag} [WP K] {H H' H'' H0 H1 He Hq : Hp} {σ : L2.St} {ρ : Ro}
theorem RCs.app : ∀ {vs us : List V} {cs es : List C}, RCs tp K H0 H vs cs → RCs tp K H0 H us es → RCs tp K H0 H (vs ++ us) (cs ++ es)
  | [], _, [], _, _, q => q
  | v :: vs, _, c :: cs, _, h, q => ⟨h.1, RCs.app h.2 q⟩
  | [], _, _ :: _, _, h, _ => h.elim
  | _ :: _, _, [], _, h, _ => h.elim
theorem RCs.vals : ∀ {vs : List V} {ds : List PyData}, VlAll K H vs ds → lfAll ds = true → RCs tp K H0 H vs (ds.map .val)
  | _, [], h, _ => by cases h; trivial
  | _, d :: ds, h, f => by
    simp only [lfAll, Bool.and_eq_true] at f
    cases h with
    | cons h1 h2 => exact ⟨⟨h1, rfl⟩, RCs.vals h2 rfl⟩
theorem no_lend {cs : List C} : ∀ c ∈ cs.map C.lend, ∀ o, c ≠ .own o := fun c m o z => by
  obtain ⟨c', _, e⟩ := List.mem_map.mp m
  subst z
  cases c' <;> cases e
def gFnD (f : List C → M C) (dds : List PyData) (gs : Ro → M (List C)) (ρ : Ro) : M C := (gs ρ).bind fun cs => f (cs.map C.lend ++ dds.map .val)
theorem gFnD_eq {f : List C → M C} {dds : List PyData} {gs : Ro → M (List C)} : gFnD f dds gs ρ = (gs ρ).bind fun cs => f (cs.map C.lend ++ dds.map .val) := (rfl)
theorem re_fnD {f : List C → M C} {ds : List V} {dds : List PyData} {t : TA} {gs : Ro → M (List C)} (hd : ∀ H, VlAll K H ds dds) (hf : lfAll dds = true) (h1 : RA K t gs) : RE K (tFnD (spU K f) ds t) (gFnD f dds gs) := by
  intro tp He Hq ρ σ H Q r h
  refine h1 tp He Hq ρ σ H _ r (wp0_mono (fun cs hc => ?_) (wp0_bind.mp h))
  intro vs H1 g1 t1 rx
  refine ⟨tp, cs.map C.lend ++ dds.map .val, H1, SpA.lent t1 ((rx.lend (H1 := H1)).app (.vals (hd H1) hf)) fun c m o z => ?_, wp0_mono (fun c hc => hc.after g1 t1) hc⟩
  rcases List.mem_append.mp m with m | m
  · exact no_lend c m o z
  · obtain ⟨d, _, e⟩ := List.mem_map.mp m
    rw [z] at e
    cases e
def kFnK (n m : Nat) (f : List C → M C) (cs es : List C) : M C := if cs.length = n ∧ es.length = m then f (cs.map C.lend ++ es.map C.lend) else .fail
def gFnK (n m : Nat) (f : List C → M C) (gs ks : Ro → M (List C)) (ρ : Ro) : M C := (gs ρ).bind fun cs => (ks ρ).bind fun es => kFnK n m f cs es
theorem gFnK_eq {n m : Nat} {f : List C → M C} {gs ks : Ro → M (List C)} : gFnK n m f gs ks ρ = (gs ρ).bind fun cs => (ks ρ).bind fun es => kFnK n m f cs es := (rfl)
theorem kFnK_21 {f : List C → M C} {a b c : C} : kFnK 2 1 f [a, b] [c] = f [a.lend, b.lend, c.lend] := by unfold kFnK; rw [if_pos ⟨rfl, rfl⟩]; rfl
theorem re_fnK {n m : Nat} {f : List C → M C} {t tk : TA} {gs ks : Ro → M (List C)} (h1 : RA K t gs) (h2 : RA K tk ks) : RE K (tFnK (spU K f) n m t tk) (gFnK n m f gs ks) := by
  intro tp He Hq ρ σ H Q r h
  refine h1 tp He Hq ρ σ H _ r (wp0_mono (fun cs hc => ?_) (wp0_bind.mp h))
  intro vs H1 g1 t1 rx
  refine h2 tp He Hq ρ σ H1 _ (r.go g1 t1) (wp0_mono (fun es he => ?_) (wp0_bind.mp hc))
  intro zs H2 g2 t2 rz
  unfold kFnK at he
  split at he
  · rename_i l
    refine ⟨by rw [rx.len]; exact l.1, by rw [rz.len]; exact l.2, tp, cs.map C.lend ++ es.map C.lend, H2, SpA.lent t2 (((rx.gr g2 t1).lend (H1 := H2)).app rz.lend) fun c m o z => ?_, wp0_mono (fun c hc => hc.after (g1.trans g2) t2) he⟩
    rcases List.mem_append.mp m with m | m
    · exact no_lend c m o z
    · exact no_lend c m o z
  · exact he.elim
end
end Cs

set_option maxRecDepth 100000
set_option maxHeartbeats 4000000
/-! Errors of one's own: made without an argument; isinstance of one that has a dict. -/
namespace L2
open PySem PySem.Spec PyProof.Rows
/-- the exception's dict: none, or one that is told -/
def DcOk (d : Option Addr) (H : Hp) : Prop := d = none ∨ ∃ dd fs, d = some dd ∧ H dd = some (.xd fs)
def rIsA (K : PySem.W.Frag) (a : Addr) (cls : Value) (d : Option Addr) : List V → Hp → VK → Prop := fun xs H Q => ∃ (D : Addr) (c : V) (cv : Value) (b : Bool), cls = .ref D ∧ ExcC K D ∧ xs = [.ref a, c] ∧ (∀ u, RelV c u → u = cv) ∧ PySem.W.kitOne K (.ref D) cv = some b ∧ DcOk d H ∧ Q (.bl b) H
theorem inst_of {X : Cx} {pins : List (Addr × Obj)} {σ : St} {H : Hp} {s : Shared} {a D : Addr} {oe : Obj} {d : Option Addr} (I : Inv X pins σ H s) (hget : s.heap.get? a = some oe) (hz : Zc (.ref D) d oe) (hf : ∃ vs, oe.data = .fields vs) (dc : DcOk d H) : ∃ od, PySem.W.InstAt s.heap a oe D od := by
  obtain ⟨vs, hv⟩ := hf
  rcases dc with rfl | ⟨dd, fs, rfl, ed⟩
  · refine ⟨none, ?_⟩
    obtain ⟨oc, od, oda, osl⟩ := oe
    obtain ⟨h1, h2⟩ := hz
    dsimp only at h1 h2 hv
    subst h1 h2 hv
    exact ⟨hget, rfl, rfl, trivial⟩
  · have hx : ObjOk X.prog X.w H s.heap dd (.xd fs) := I.hok dd _ ed
    obtain ⟨mA, hns, hr⟩ := hx
    obtain ⟨od, ho, hl⟩ := lookIn_ns hns
    exact ⟨some od, hget, hz.1, by unfold PySem.W.notCls; rw [hv] <;> rfl, by rw [hz.2]; exact ho⟩
theorem call_isA {X : Cx} {a : Addr} {oe : Obj} {cls : Value} {d : Option Addr} {pn : List (Addr × Obj)} (hz : Zc cls d oe) (hf : ∃ vs, oe.data = .fields vs) : CallR (X.suite a ((a, oe) :: pn)) (.builtin "isinstance") (rIsA X.K a cls d) := by
  intro pins s σ H xs us Q I r h
  obtain ⟨D, c, cv, b, rfl, C, rfl, hcv, e, dc, q⟩ := h
  cases r with
  | cons rx rr =>
    cases rr with
    | cons rt rr =>
      cases rr
      cases rx
      have ec := hcv _ rt
      subst ec
      obtain ⟨hget, _⟩ := I.pin (a, oe) (List.mem_append.mpr (.inl List.mem_cons_self))
      obtain ⟨od, J⟩ := inst_of I hget hz hf dc
      have hcl : (PySem.W.clsIn X.K D).isSome = true := by
        obtain ⟨cd, hc, _⟩ := PySem.W.any_some C.hd
        rw [hc]
        rfl
      exact PySem.W.kia_one (PySem.W.kitx_exc hcl C.hg C.hk C.hs C.ha C.hn C.ht C.hm) I.kIn J e (fun z => nomatch z) fun tk => ⟨.bl b, H, I.kept (t' := tk) fun _ _ z => z, rfl, q⟩
/-- e.f of the caught exception, of whatever class: the library's rule for the class that it turns out to have -/
def tXa (K : PySem.W.Frag) (a : Addr) (cls : Value) (d : Option Addr) (f : Str) (i : Nat) : TE := fun σ H Q => σ[i]? = some (some (.ref a)) ∧ ∃ (C dd : Addr) (fs : List (Str × V)) (v : V), cls = .ref C ∧ XfC K C ∧ PySem.W.findIn K (.ref C) f = some none ∧ d = some dd ∧ H dd = some (.xd fs) ∧ fs.lookup f = some v ∧ Q v H
theorem pe_xa {X : Cx} {a : Addr} {oe : Obj} {cls : Value} {d : Option Addr} {pn : List (Addr × Obj)} {e : Expr} {i : Nat} {pos : Pos} {n : Str}
    (hz : Zc cls d oe) (hf : ∃ vs, oe.data = .fields vs) (he : PE (X.suite a ((a, oe) :: pn)) e (tVar i)) (hb : attributeBase e n X.env (eval e X.env) = eval e X.env := by rfl) :
    PE (X.suite a ((a, oe) :: pn)) (.Attribute e n pos) (tXa X.K a cls d n i) :=
  ⟨fun pins s σ H Q I ⟨hσ, C, dd, fs, v, ec, T, hno, ed, ea, l, q⟩ => (pe_xf T hno hz hf he hb).run pins s σ H Q I ⟨.ref a, hσ, rfl, ec, dd, fs, v, ed, ea, l, q⟩⟩
section
variable {X : Cx} {pos : Pos}
/-- X(), X an own exception class without own __init__ -/
theorem pmk_own0 {C : Addr} {bmB : List Value} {B newId initId : String} {x : Str} {p : Pos} (F : ExcBaseFacts B newId initId bmB) (q : PySem.W.excIn X.K C bmB newId = true) (gC : X.mg x = some (.ref C))
    (kC : PySem.W.keepIn X.K (.ref C) = true) (r : Raises X (.ref C)) (hg : Gl X x) (hdb : (x == ("__debug__" : Str)) = false := by decide) :
    PMk X (.Call (.Name x p) [] [] pos) (fun _ H Q => Q (.ref C) none H) := by
  intro pins s σ H Q I h
  refine wpAny_Call_Name_kw (ld_glob I hg gC ?_ hdb)
  refine PySem.W.callWith_K0 I.kIn kC ?_
  obtain ⟨bm, N, nm, qn, bs, hdct, sn, sub, ab, col, dd, k0, k1, k2, k3, k5, mN, hC, hN, hni, T⟩ := exc_obj I.kIn q
  refine wpAny_call_exc_subT F T hC hN hni (fun h' e hm => ?_) (by show 0 ≤ sizeLine; omega)
  exact mk_of I hm r h (I.hok.gone hm.new)
end
/-- __init__ of a class with one field -/
def sp_init (K : PySem.W.Frag) (C : Addr) (f : Str) : Sp := fun vs H Q _ => ∃ (a : Addr) (v : V), vs = [.ref a, v] ∧ OexC K C ∧ PySem.W.findIn K (.ref C) f = some none ∧ H a = some (exo a C none) ∧
  ∀ dx, H dx = none → dx ≠ a → Q .non (upd (upd H dx (exd dx [(f, v)])) a (exo a C (some dx)))
theorem put_del {H : Hp} {a d : Addr} {u v w z : HO} (ha : H a = none) (n : d ≠ a) : upd (del (upd (upd (upd H a u) d v) a w) a) d z = upd H d z := by
  funext b
  by_cases hd : b = d
  · subst hd; rw [upd_same, upd_same]
  · rw [upd_ne hd, upd_ne hd]
    by_cases hb : b = a
    · subst hb; rw [del_same, ha]
    · rw [del_ne hb, upd_ne hb, upd_ne hd, upd_ne hb]
end L2

set_option maxRecDepth 100000
set_option maxHeartbeats 1000000
/-! tuples of whole numbers at the module's top -/
namespace Cs
open PySem PySem.Spec PyProof.Rows L2
def chkI : List Value → List Int → Bool
  | [], [] => true
  | .int i _ :: vs, n :: ns => (i == n) && chkI vs ns
  | _, _ => false
def ktupI (ns : List Int) (o : Obj) : Bool := match o with
  | ⟨.type c, none, .seq its _, _⟩ => (c == "tuple") && ((chkI its.toList ns) && decide (ns.length ≤ 1000))
  | _ => false
theorem chkI_vals : ∀ (vs : List Value) (ns : List Int), chkI vs ns = true → Vals (ns.map V.int) vs
  | vs, ns, h => by
    unfold chkI at h
    split at h
    · exact .nil
    · rename_i i t us n ms
      simp only [Bool.and_eq_true, beq_iff_eq] at h
      obtain ⟨rfl, h⟩ := h
      exact .cons ⟨t, rfl⟩ (chkI_vals us ms h)
    · cases h
theorem lf_intsK (ns : List Int) : lfAll (ns.map PyData.int) = true := lfAll_iff.mpr fun d m => by
  obtain ⟨i, _, rfl⟩ := List.mem_map.mp m
  rfl
theorem ktupI_of {K : PySem.W.Frag} {a : Addr} {o : Obj} {ns : List Int} (h : K.lookup a = some o) (b : ktupI ns o = true) : KTup K a (ns.map PyData.int) := by
  unfold ktupI at b
  split at b
  · rename_i c its n sl
    simp only [Bool.and_eq_true, beq_iff_eq, decide_eq_true_eq] at b
    obtain ⟨rfl, b1, b2⟩ := b
    have v := chkI_vals _ _ b1
    refine ⟨_, its, n, ns.map V.int, h, rfl, rfl, rfl, ?_, v, fun H => VlAll.ofInts ns, lf_intsK ns⟩
    have hl := v.length
    rw [List.length_map] at hl
    have : its.size = its.toList.length := by simp
    rw [this, ← hl, show sizeLine = 16777216 by decide]
    omega
  · cases b
end Cs
/-! reversed(xs), xs a name -/
namespace Cs
open PySem PySem.Spec PyProof.Rows L2
section
variable {tp : Option (Addr × Addr)} {K : PySem.W.Frag} [WP K] {H H' H'' H0 H1 He Hq : Hp} {σ : L2.St} {ρ : Ro}
def mForRev (i : Nat) (a : C → Ro → M Ro) (b : Ro → M Res) (ρ : Ro) : M Res := match ρ[i]? with
  | some (some (.own (.lst ds))) => forL a b ds.reverse (ρ.set i (some (.bor (.lst ds))))
  | some (some (.val (.tuple ds))) => forL a b ds.reverse ρ
  | _ => .fail
theorem rs_forRev {i : Nat} {g : TG} {tb : TS} {a : C → Ro → M Ro} {b : Ro → M Res} {sl : List Nat} (hg : RG K g a sl) (hb : RS K tb b) : RS K (tFor (RT.iRevA K (tVar i)) g tb) (mForRev i a b) := by
  intro tp He Hq ρ σ H D r h
  unfold mForRev at h
  split at h
  · rename_i ds e
    obtain ⟨Hq2, p, g2, r2, hs, w, np, f, vs0, sq⟩ := r.freeze e
    have hl : i < ρ.length := (List.getElem?_eq_some_iff.mp e).1
    obtain ⟨v, h1, p', e2, vs, q1, q2, q3⟩ := r2.at_ i (.bor (.lst ds)) (List.getElem?_set_self hl)
    rw [hs] at h1
    cases h1
    cases e2
    have q1' := q1.gr r2.gr
    refine ⟨_, hs, p, vs, rfl, .inl ⟨q1'.sq, for_go hg hb r2 (lf_rev q3) (wk_revL q1.1 q2 q3) (fun q m => ?_) (wp0_mono (fun _ q => q.mono g2) h)⟩⟩
    have : q = p := by simpa using m
    subst this
    exact np
  · rename_i ds e
    refine rs_for (ri_rev (s := true) (re_var (i := i))) hg hb tp He Hq ρ σ H D r ?_
    unfold mFor gRev gVar
    rw [e]
    exact h
  · exact h.elim
theorem mForRev_own {i : Nat} {a : C → Ro → M Ro} {b : Ro → M Res} {ds : List PyData} (h : ρ[i]? = some (some (.own (.lst ds)))) : mForRev i a b ρ = forL a b ds.reverse (ρ.set i (some (.bor (.lst ds)))) := by unfold mForRev; rw [h]
theorem mForRev_tup {i : Nat} {a : C → Ro → M Ro} {b : Ro → M Res} {ds : List PyData} (h : ρ[i]? = some (some (.val (.tuple ds)))) : mForRev i a b ρ = forL a b ds.reverse ρ := by unfold mForRev; rw [h]
def kForRev (ρ : Ro) (i : Nat) (a : C → Ro → M Ro) (b : Ro → M Res) : Option (Option C) → M Res
  | some (some (.own (.lst ds))) => forL a b ds.reverse (ρ.set i (some (.bor (.lst ds))))
  | some (some (.val (.tuple ds))) => forL a b ds.reverse ρ
  | _ => .fail
theorem mForRev_eq {i : Nat} {a : C → Ro → M Ro} {b : Ro → M Res} : mForRev i a b ρ = kForRev ρ i a b ρ[i]? := (rfl)
theorem kForRev_o {i : Nat} {a : C → Ro → M Ro} {b : Ro → M Res} {ds : List PyData} : kForRev ρ i a b (some (some (.own (.lst ds)))) = forL a b ds.reverse (ρ.set i (some (.bor (.lst ds)))) := (rfl)
theorem kForRev_t {i : Nat} {a : C → Ro → M Ro} {b : Ro → M Res} {ds : List PyData} : kForRev ρ i a b (some (some (.val (.tuple ds)))) = forL a b ds.reverse ρ := (rfl)
end
end Cs

/-! range(i, j, c), c above 0 -/
namespace Cs
open PySem PySem.Spec PyProof.Rows L2
section
variable {tp : Option (Addr × Addr)} {K : PySem.W.Frag} [WP K] {H H' H'' H0 H1 He Hq : Hp} {σ : L2.St} {ρ : Ro}
def stepN (i j c : Int) : Nat := if i < j then ((j - i - 1) / c + 1).toNat else 0
def r3Ok (i j c : Int) : Bool := decide (-1000000 ≤ i) && (decide (i ≤ 1000000) && (decide (-1000000 ≤ j) && (decide (j ≤ 1000000) && (decide (0 < c) && decide (c ≤ 1000)))))
theorem r3_rg {i j c : Int} (h : r3Ok i j c = true) : RgC i j c (stepN i j c) := by
  unfold r3Ok at h
  simp only [Bool.and_eq_true, decide_eq_true_eq] at h
  obtain ⟨h1, h2, h3, h4, h5, h6⟩ := h
  have q0 : i < j → 0 ≤ (j - i - 1) / c ∧ (j - i - 1) / c ≤ j - i - 1 := fun z => ⟨Int.ediv_nonneg (by omega) (by omega), Int.ediv_le_self _ (by omega)⟩
  have hs : Builtin.Range.rangeSize i j c = stepN i j c := by
    unfold Builtin.Range.rangeSize stepN
    rw [if_pos h5]
    split
    · rename_i z
      have := q0 z
      omega
    · rfl
  have hb : stepN i j c ≤ 2000001 := by
    unfold stepN
    split
    · rename_i z
      have := q0 z
      omega
    · omega
  have hr : i < j → (stepN i j c : Int) = (j - i - 1) / c + 1 := fun z => by
    unfold stepN
    rw [if_pos z]
    have := q0 z
    omega
  refine ⟨by omega, by omega, ?_, hs⟩
  unfold Builtin.Range.small
  rw [hs]
  have m1 : (0 : Int) ≤ (stepN i j c : Int) := by omega
  have m2 : (stepN i j c : Int) ≤ 2000001 := by omega
  generalize (stepN i j c : Int) = k at *
  simp only [Builtin.Range.rangeFitsLong, Bool.and_eq_true, Bool.or_eq_true, decide_eq_true_eq, beq_iff_eq, h5, if_true]
  omega
def itR3 : List C → M (List PyData)
  | [.val (.int i), .val (.int j), .val (.int c)] => if r3Ok i j c = true then .ret (rngD i c (stepN i j c)) else .fail
  | _ => .fail
def gItR3 (gs : Ro → M (List C)) (ρ : Ro) : M (List PyData) := (gs ρ).bind itR3
theorem RCs.three' {vs : List V} {c d e : C} (h : RCs tp K H0 H vs [c, d, e]) : ∃ u v w, vs = [u, v, w] ∧ RC tp K H0 H u c ∧ RC tp K H0 H v d ∧ RC tp K H0 H w e := by
  match vs, h with
  | [u, v, w], h => exact ⟨u, v, w, rfl, h.1, h.2.1, h.2.2.1⟩
theorem ri_rng3 {ta : TA} {gs : Ro → M (List C)} {s : Bool} (h1 : RA K ta gs) : RI K s (iRng3 ta) (gItR3 gs) := by
  intro tp He Hq ρ σ H Q r h
  refine h1 tp He Hq ρ σ H _ r (wp0_mono (fun cs hc => ?_) (wp0_bind.mp h))
  intro vs H1 g1 t1 rx
  unfold itR3 at hc
  split at hc
  · rename_i i j c
    obtain ⟨u, v, w, rfl, q, q', q''⟩ := rx.three'
    cases q.int; cases q'.int; cases q''.int
    split at hc
    · rename_i l
      exact ⟨i, j, c, stepN i j c, rfl, r3_rg l, hc _ H1 [] g1 t1 (lf_rng _ _ _) wk_rngC (fun _ m => by simp at m) (fun _ _ _ _ m => by simp at m)⟩
    · exact hc.elim
  · exact hc.elim
theorem gItR3_eq {gs : Ro → M (List C)} : gItR3 gs ρ = (gs ρ).bind itR3 := (rfl)
theorem itR3_i {i j c : Int} : itR3 [.val (.int i), .val (.int j), .val (.int c)] = if r3Ok i j c = true then .ret (rngD i c (stepN i j c)) else .fail := (rfl)
end
end Cs

set_option maxRecDepth 100000
set_option maxHeartbeats 4000000
/-! lists as data: freezing, reading; comprehensions with two clauses -/
namespace Cs
open PySem PySem.Spec PyProof.Rows L2
section
variable {tp : Option (Addr × Addr)} {K : PySem.W.Frag} [WP K] {H H' H'' H0 H1 He : Hp} {Hq : Hp} {σ : L2.St} {ρ : Ro}
/-! ### from here on the list is data -/
def tFrzS (i : Nat) (t : TS) : TS := fun D σ H => t D σ H ∨ ∃ a u, σ[i]? = some (some (.ref a)) ∧ H a = some u ∧ Mut (some u) ∧ ∀ od, t D σ (upd H a (.frz od u))
theorem ps_frz {X : Cx} {i : Nat} {st : Stmt} {t : TS} (h : PS X st t) : PS X st (tFrzS i t) := by
  refine ⟨fun pins s σ H D I hw => ?_⟩
  rcases hw with hw | ⟨a, u, _, hd, mu, hw⟩
  · exact h.run pins s σ H D I hw
  · obtain ⟨od, I1⟩ := I.lock hd mu
    exact h.run pins s σ _ D I1 (hw od)
def tFrzE (t : TE) : TE := fun σ H Q => t σ H fun v H' => Q v H' ∨ ∃ a u, v = .ref a ∧ H' a = some u ∧ Mut (some u) ∧ ∀ od, Q v (upd H' a (.frz od u))
theorem pe_frz {X : Cx} {e : Expr} {t : TE} (h : PE X e t) : PE X e (tFrzE t) := by
  refine ⟨fun pins s σ H Q I hw => ?_⟩
  refine thn (h.run pins s σ H _ I hw) fun v s1 ⟨x, H1, I1, r, q⟩ => ?_
  rcases q with q | ⟨a, u, _, hd, mu, q⟩
  · exact ⟨x, H1, I1, r, q⟩
  · obtain ⟨od, I2⟩ := I1.lock hd mu
    exact ⟨x, _, I2, r, q od⟩
theorem TOk.frz {a : Addr} {o : HO} (t : TOk tp H) (n : TNe tp a) : TOk tp (upd H a o) := fun b l e => (t b l e).upd (n b l e).1 (n b l e).2
theorem Rel.frz {i : Nat} {ds : List PyData} (r : Rel tp K He Hq H σ ρ) (e : ρ[i]? = some (some (.own (.lst ds)))) : ∃ a vs, σ[i]? = some (some (.ref a)) ∧ H a = some (.lst vs) ∧
    ∀ od, Rel tp K He Hq (upd H a (.frz od (.lst vs))) σ (ρ.set i (some (.val (.list ds)))) := by
  obtain ⟨v, h1, a, e2, f, n, vs, h2, h3, h4⟩ := r.at_ i _ e
  subst e2
  refine ⟨a, vs, h1, h2, fun od => ?_⟩
  have im : Im H (upd H a (.frz od (.lst vs))) := Im.set h2
  have hl : i < ρ.length := (List.getElem?_eq_some_iff.mp e).1
  have back : ∀ {m : Nat} {o : PO}, (ρ.set i (some (.val (.list ds))))[m]? = some (some (.own o)) → i ≠ m ∧ ρ[m]? = some (some (.own o)) := fun {m o} em => by
    by_cases him : i = m
    · subst him; rw [List.getElem?_set_self hl] at em; cases em
    · rw [List.getElem?_set_ne him] at em; exact ⟨him, em⟩
  refine ⟨by rw [List.length_set, r.len], fun j c ej => ?_, fun j k b o o' e1 e2 e3 e4 => ?_, r.sub, fun b o eb nb => ?_, r.tok.frz n, r.he⟩
  · by_cases hij : i = j
    · subst hij
      rw [List.getElem?_set_self hl] at ej
      cases ej
      exact ⟨_, h1, .lst ⟨od, upd_same⟩ (h3.imlf im ds _ rfl), rfl⟩
    · rw [List.getElem?_set_ne hij] at ej
      obtain ⟨u, q1, q2⟩ := r.at_ j c ej
      refine ⟨u, q1, ?_⟩
      cases c with
      | val d => exact ⟨q2.1.imlf im d _ q2.2, q2.2⟩
      | own o =>
        obtain ⟨b, eb, fb, nb, q⟩ := q2
        have hne : b ≠ a := fun z => by
          subst z
          subst eb
          exact hij (r.dist i j b _ _ e ej h1 q1)
        refine ⟨b, eb, fb, nb, ?_⟩
        cases o with
        | lst es =>
          obtain ⟨us, p1, p2, p3⟩ := q
          exact ⟨us, by rw [upd_ne hne]; exact p1, p2.imlf im es _ p3, p3⟩
        | dT es =>
          obtain ⟨us, p1, p2, p3⟩ := q
          exact ⟨us, by rw [upd_ne hne]; exact p1, p2.imlf im es _ p3, p3⟩
        | dK es =>
          obtain ⟨us, p1, p2, p3⟩ := q
          exact ⟨us, by rw [upd_ne hne]; exact p1, p2.imlf im es _ p3, p3⟩
        | lT es =>
          exact q.elim
        | xo x => exact OwnX.to q im fun φ e => by rw [upd_ne hne]; exact e
      | bor o => exact q2
      | tape => exact q2
  · exact r.dist j k b o o' (back e1).2 (back e2).2 e3 e4
  · have hne : b ≠ a := fun z => by subst z; rw [f] at eb; cases eb
    rw [upd_ne hne]
    exact r.gr b o eb nb
def kFrz (i : Nat) (m : Ro → M Res) (ρ : Ro) : Option (Option C) → M Res
  | some (some (.own (.lst ds))) => m (ρ.set i (some (.val (.list ds))))
  | _ => m ρ
def mFrz (i : Nat) (m : Ro → M Res) (ρ : Ro) : M Res := kFrz i m ρ ρ[i]?
theorem rs_frz {i : Nat} {t : TS} {m : Ro → M Res} (h1 : RS K t m) : RS K (tFrzS i t) (mFrz i m) := by
  intro tp He Hq ρ σ H D r h
  unfold mFrz kFrz at h
  split at h
  · rename_i ds e
    obtain ⟨a, vs, q1, q2, q3⟩ := r.frz e
    exact .inr ⟨a, _, q1, q2, trivial, fun od => h1 tp He Hq _ σ _ D (q3 od) h⟩
  · exact .inl (h1 tp He Hq ρ σ H D r h)
theorem mFrz_eq {i : Nat} {m : Ro → M Res} : mFrz i m ρ = kFrz i m ρ ρ[i]? := (rfl)
theorem kFrz_o {i : Nat} {m : Ro → M Res} {ds : List PyData} : kFrz i m ρ (some (some (.own (.lst ds)))) = m (ρ.set i (some (.val (.list ds)))) := (rfl)
theorem kFrz_v {i : Nat} {m : Ro → M Res} {d : PyData} : kFrz i m ρ (some (some (.val d))) = m ρ := (rfl)
theorem kFrz_b {i : Nat} {m : Ro → M Res} {o : PO} : kFrz i m ρ (some (some (.bor o))) = m ρ := (rfl)
theorem kFrz_n {i : Nat} {m : Ro → M Res} : kFrz i m ρ (some none) = m ρ := (rfl)
def frzC : C → M C
  | .own (.lst ds) => .ret (.val (.list ds))
  | c => .ret c
def gFrz (g : Ro → M C) (ρ : Ro) : M C := (g ρ).bind frzC
theorem re_frz {t : TE} {g : Ro → M C} (h1 : RE K t g) : RE K (tFrzE t) (gFrz g) := by
  intro tp He Hq ρ σ H Q r h
  refine h1 tp He Hq ρ σ H _ r (wp0_mono (fun c hc => ?_) (wp0_bind.mp h))
  intro v H1 g1 t1 rc
  unfold frzC at hc
  split at hc
  · rename_i ds
    obtain ⟨a, rfl, f, n, vs, q1, q2, q3⟩ := rc
    refine .inr ⟨a, _, rfl, q1, trivial, fun od => hc _ _ (fun b o e nb => ?_) (t1.frz n) ⟨.lst ⟨od, upd_same⟩ (q2.imlf (Im.set q1) ds _ rfl), rfl⟩⟩
    have hne : b ≠ a := fun z => by subst z; rw [f] at e; cases e
    rw [upd_ne hne]
    exact g1 b o e nb
  · exact .inl (hc v H1 g1 t1 rc)
theorem gFrz_eq {g : Ro → M C} : gFrz g ρ = (g ρ).bind frzC := (rfl)
theorem frzC_o {ds : List PyData} : frzC (.own (.lst ds)) = .ret (.val (.list ds)) := (rfl)
theorem frzC_v {d : PyData} : frzC (.val d) = .ret (.val d) := (rfl)
/-! steps over lists as data -/
theorem oIx_l {ds : List PyData} {i : Int} : oIx (.val (.list ds)) (.val (.int i)) = atD ds i := (rfl)
theorem oSl_l {ds : List PyData} {lo hi : Option Int} : oSl (.val (.list ds)) lo hi = .ret (.own (.lst (cutD ds lo hi))) := (rfl)
theorem itD_l {ds : List PyData} : itD (.val (.list ds)) = .ret ds := (rfl)
theorem itV_l {ds : List PyData} : itV (.val (.list ds)) = .ret ds := (rfl)
theorem oListC_l {ds : List PyData} : oListC [.val (.list ds)] = .ret (.own (.lst ds)) := (rfl)
theorem oTupC_l {ds : List PyData} : oTupC [.val (.list ds)] = .ret (.val (.tuple ds)) := (rfl)
theorem kIdxL_l {gs : Ro → M (List C)} {ds : List PyData} : kIdxL gs ρ (.val (.list ds)) = (gs ρ).bind (idxA ds) := (rfl)
theorem oAdd_lo {ds es : List PyData} : oAdd (.val (.list ds)) (.own (.lst es)) = if lenOk (ds.length + es.length) = true then .ret (.own (.lst (ds ++ es))) else .fail := (rfl)
theorem oAdd_ol {ds es : List PyData} : oAdd (.own (.lst ds)) (.val (.list es)) = if lenOk (ds.length + es.length) = true then .ret (.own (.lst (ds ++ es))) else .fail := (rfl)
theorem oAdd_ll {ds es : List PyData} : oAdd (.val (.list ds)) (.val (.list es)) = if lenOk (ds.length + es.length) = true then .ret (.own (.lst (ds ++ es))) else .fail := (rfl)
theorem oAdd_lb {ds es : List PyData} : oAdd (.val (.list ds)) (.bor (.lst es)) = if lenOk (ds.length + es.length) = true then .ret (.own (.lst (ds ++ es))) else .fail := (rfl)
theorem oAdd_bl {ds es : List PyData} : oAdd (.bor (.lst ds)) (.val (.list es)) = if lenOk (ds.length + es.length) = true then .ret (.own (.lst (ds ++ es))) else .fail := (rfl)
/-! ### sources that nothing changes -/
def RII (K : PySem.W.Frag) [WP K] (wi : TI) (its : Ro → M (List PyData)) : Prop := ∀ tp He Hq ρ σ H (Q : It → Hp → Prop), Rel tp K He Hq H σ ρ →
  wp0 (its ρ) (fun ds => ∀ J H1, GrT tp H H1 → TOk tp H1 → Wk K H1 J [] ds → Q J H1) → wi σ H Q
def itI : C → M (List PyData)
  | .val (.tuple ds) => .ret ds
  | .val (.str z) => .ret (signsD z)
  | .val (.list ds) => .ret ds
  | _ => .fail
def gItI (g : Ro → M C) (ρ : Ro) : M (List PyData) := (g ρ).bind itI
theorem rii_seq {te : TE} {g : Ro → M C} (h1 : RE K te g) : RII K (iSeq K te) (gItI g) := by
  intro tp He Hq ρ σ H Q r h
  refine h1 tp He Hq ρ σ H _ r (wp0_mono (fun c hc => ?_) (wp0_bind.mp h))
  intro x H1 g1 t1 rx
  unfold itI at hc
  split at hc
  · rename_i ds
    obtain ⟨a, vs, rfl, q1, q2, q3⟩ := rx.tup
    exact .inr (.inl ⟨a, rfl, ⟨vs, q1⟩, hc _ H1 g1 t1 (wk_tup q1 q2 q3)⟩)
  · rename_i z
    cases rx.str
    exact .inr (.inr ⟨z, rfl, hc _ H1 g1 t1 wk_str⟩)
  · rename_i ds
    obtain ⟨a, vs, rfl, q1, q2⟩ := rx.frz
    exact .inl ⟨a, rfl, ⟨vs, q1.sq⟩, hc _ H1 g1 t1 (wk_frz q1 q2)⟩
  · exact hc.elim
theorem rii_rng1 {ta : TA} {gs : Ro → M (List C)} (h1 : RA K ta gs) : RII K (iRng1 ta) (gItR1 gs) := by
  intro tp He Hq ρ σ H Q r h
  refine h1 tp He Hq ρ σ H _ r (wp0_mono (fun cs hc => ?_) (wp0_bind.mp h))
  intro vs H1 g1 t1 rx
  unfold itR1 at hc
  split at hc
  · rename_i j
    obtain ⟨v, rfl, q⟩ := rx.one
    cases q.int
    split at hc
    · rename_i l
      obtain ⟨l1, l2⟩ := rngOk_of l
      exact ⟨j, rfl, l1, l2, hc _ H1 g1 t1 wk_rng⟩
    · exact hc.elim
  · exact hc.elim
theorem gItI_eq {g : Ro → M C} : gItI g ρ = (g ρ).bind itI := (rfl)
theorem itI_t {ds : List PyData} : itI (.val (.tuple ds)) = .ret ds := (rfl)
theorem itI_l {ds : List PyData} : itI (.val (.list ds)) = .ret ds := (rfl)
theorem itI_s {z : Str} : itI (.val (.str z)) = .ret (signsD z) := (rfl)
/-! ### two clauses -/
theorem wipeR_in {j : Nat} : ∀ {vs : List Nat} {ρ : Ro}, j ∈ vs → (wipeR ρ vs)[j]? = some none ∨ (wipeR ρ vs)[j]? = none
  | [], _, h => by simp at h
  | v :: vs, ρ, h => by
    unfold wipeR
    by_cases hv : v = j
    · subst hv
      by_cases hl : v < (wipeR ρ vs).length
      · exact .inl (List.getElem?_set_self hl)
      · exact .inr (List.getElem?_eq_none_iff.mpr (by rw [List.length_set]; omega))
    · rw [List.getElem?_set_ne hv]
      exact wipeR_in (by rcases List.mem_cons.mp h with z | z; exact absurd z.symm hv; exact z)
def lcI (a : C → Ro → M Ro) (c : Ro → M Bool) (e : Ro → M C) : List PyData → Ro → List PyData → (List PyData → M C) → M C
  | [], _, acc, k => k acc
  | d :: ds, ρ, acc, k => (a (.val d) ρ).bind fun ρ1 => (c ρ1).bind fun b => if b = true then (e ρ1).bind (fun x => match x with
    | .val y => if lenOk (acc.length + 1) = true then lcI a c e ds ρ (acc ++ [y]) k else .fail
    | _ => .fail) else lcI a c e ds ρ acc k
def lcL2 (a : C → Ro → M Ro) (c : Ro → M Bool) (its1 : Ro → M (List PyData)) (a1 : C → Ro → M Ro) (c1 : Ro → M Bool) (e : Ro → M C) (vs1 : List Nat) : List PyData → Ro → List PyData → M C
  | [], _, acc => .ret (.own (.lst acc))
  | d :: ds, ρ, acc => (a (.val d) ρ).bind fun ρ1 => (c ρ1).bind fun b => if b = true then (its1 ρ1).bind (fun es => lcI a1 c1 e es (wipeR ρ1 vs1) acc fun acc => lcL2 a c its1 a1 c1 e vs1 ds ρ acc) else lcL2 a c its1 a1 c1 e vs1 ds ρ acc
def gLc2 (its : Ro → M (List PyData)) (a : C → Ro → M Ro) (c : Ro → M Bool) (its1 : Ro → M (List PyData)) (a1 : C → Ro → M Ro) (c1 : Ro → M Bool) (e : Ro → M C) (vs vs1 : List Nat) (ρ : Ro) : M C := (its ρ).bind fun ds => lcL2 a c its1 a1 c1 e vs1 ds (wipeR ρ vs) []
/-- a target that takes data makes no list its own -/
def OV (a : C → Ro → M Ro) : Prop := ∀ (d : PyData) (ρ : Ro) (Q : Ro → Prop), wp0 (a (.val d) ρ) Q → wp0 (a (.val d) ρ) fun ρ1 => Q ρ1 ∧ ∀ (j : Nat) (o : PO), ρ1[j]? = some (some (.own o)) → ρ[j]? = some (some (.own o))
def OVs (a : List PyData → Ro → M Ro) : Prop := ∀ (ds : List PyData) (ρ : Ro) (Q : Ro → Prop), wp0 (a ds ρ) Q → wp0 (a ds ρ) fun ρ1 => Q ρ1 ∧ ∀ (j : Nat) (o : PO), ρ1[j]? = some (some (.own o)) → ρ[j]? = some (some (.own o))
theorem ov_name {i : Nat} : OV (asgR i) := by
  intro d ρ Q h
  unfold asgR at h ⊢
  split at h
  · refine ⟨h, fun j o e => ?_⟩
    by_cases hij : i = j
    · subst hij
      rw [List.getElem?_set_self (by have := (List.getElem?_eq_some_iff.mp e).1; rwa [List.length_set] at this)] at e
      cases e
    · rwa [List.getElem?_set_ne hij] at e
  · exact h.elim
theorem ovs_nil : OVs aNil := by
  intro ds ρ Q h
  unfold aNil at h ⊢
  split at h
  · exact ⟨h, fun _ _ e => e⟩
  · exact h.elim
theorem ovs_cons {a : C → Ro → M Ro} {as : List PyData → Ro → M Ro} (h1 : OV a) (h2 : OVs as) : OVs (aCons a as) := by
  intro ds ρ Q h
  unfold aCons at h ⊢
  split at h
  · rename_i d ds
    refine wp0_bind.mpr (wp0_mono (fun ρ1 q => ?_) (h1 d ρ _ (wp0_bind.mp h)))
    exact wp0_mono (fun ρ2 p => ⟨p.1, fun j o e => q.2 j o (p.2 j o e)⟩) (h2 ds ρ1 Q q.1)
  · exact h.elim
theorem ov_tup {n : Nat} {as : List PyData → Ro → M Ro} (h1 : OVs as) : OV (aTup n as) := by
  intro d ρ Q h
  cases d with
  | tuple ds =>
    by_cases l : ds.length = n
    · have e : aTup n as (.val (.tuple ds)) ρ = as ds ρ := by unfold aTup; exact if_pos l
      rw [e] at h ⊢
      exact h1 _ ρ Q h
    · have e : aTup n as (.val (.tuple ds)) ρ = .fail := by unfold aTup; exact if_neg l
      rw [e] at h
      exact h.elim
  | _ => exact (show wp0 (M.fail : M Ro) Q from h).elim
theorem re_lc2 {wi wi1 : TI} {g g1 : TG} {tt tt1 : TT} {te : TE} {its its1 : Ro → M (List PyData)} {a a1 : C → Ro → M Ro} {c c1 : Ro → M Bool} {e : Ro → M C} {sl sl1 vs vs1 : List Nat} {s : Bool} (hi : RI K s wi its) (hg : RG K g a sl) (hc : RT K tt c)
    (hov : OV a) (hi1 : RII K wi1 its1) (hg1 : RG K g1 a1 sl1) (hc1 : RT K tt1 c1) (he : RE K te e) (hs : ∀ j ∈ sl, j ∈ vs) (hs1 : ∀ j ∈ sl1, j ∈ vs1) : RE K (tLc2 wi g tt wi1 g1 tt1 te vs vs1) (gLc2 its a c its1 a1 c1 e vs vs1) := by
  intro tp He Hq ρ σ H Q r h
  refine hi tp He Hq ρ σ H _ r (wp0_mono (fun ds hd => ?_) (wp0_bind.mp h))
  intro J H1 pa gg1 t1 f w np _ D hD
  have r1 := r.go gg1 t1
  have tD : TNe tp D := t1.tne hD
  have upG : ∀ {H2 : Hp} {o : HO}, GrT tp H1 H2 → GrT tp H1 (upd H2 D o) := fun {H2 o} g b u e n => by
    have hne : b ≠ D := fun z => by subst z; rw [hD] at e; cases e
    rw [upd_ne hne]
    exact g b u e n
  have upT : ∀ {H2 : Hp} {o : HO}, TOk tp H2 → TOk tp (upd H2 D o) := fun {H2 o} t a l e => (t a l e).upd (tD a l e).1 (tD a l e).2
  have hs1' := hs
  refine ⟨fun i m H' => m = ds.length - i ∧ i ≤ ds.length ∧ ∃ acc vsa, H' D = some (.lst vsa) ∧ VlAll K H' vsa acc ∧ GrT tp H1 H' ∧ TOk tp H' ∧ wp0 (lcL2 a c its1 a1 c1 e vs1 (ds.drop i) (wipeR ρ vs) acc) (Post tp K H Q),
    ⟨ds.length, rfl, Nat.zero_le _, [], [], upd_same, .nil, upG .refl, upT t1, hd⟩, ?_⟩
  rintro i m H' ⟨rfl, hi', acc, vsa, eD, hda, g', t', h'⟩
  obtain ⟨st, go⟩ := w H' (g'.im t1) (fun p hp o e => g' p o e (np p hp))
  by_cases hlt : i < ds.length
  · obtain ⟨d, hd'⟩ : ∃ d, ds[i]? = some d := ⟨ds[i], List.getElem?_eq_getElem hlt⟩
    obtain ⟨go1, yl⟩ := go i d hd'
    have ed : ds.drop i = d :: ds.drop (i + 1) := by
      rw [List.drop_eq_getElem_cons hlt]
      have : ds[i] = d := by rw [List.getElem?_eq_getElem hlt] at hd'; exact Option.some.inj hd'
      rw [this]
    rw [ed] at h'
    refine .inr ⟨go1, fun H2 => ∃ acc vsa, H2 D = some (.lst vsa) ∧ VlAll K H2 vsa acc ∧ GrT tp H1 H2 ∧ TOk tp H2 ∧ wp0 (lcL2 a c its1 a1 c1 e vs1 (ds.drop (i + 1)) (wipeR ρ vs) acc) (Post tp K H Q),
      fun H2 ⟨acc, vsa, q⟩ => ⟨ds.length - (i + 1), by omega, rfl, hlt, acc, vsa, q⟩, fun x H2 y => ?_⟩
    obtain ⟨sm, dp⟩ := yl x H2 y
    have rw' := ((r1.go g' t').wipe vs)
    refine hg tp He Hq _ _ H' H2 x (.val d) _ rw' (.of sm) (t'.same sm) ⟨dp, rfl⟩ (wp0_mono (fun ρ1 h1 => ?_) (hov d _ _ (wp0_bind.mp (show wp0 ((a (.val d) (wipeR ρ vs)).bind _) _ from h'))))
    obtain ⟨h1, ownd⟩ := h1
    intro σ2 off r2
    have noD : ∀ (j : Nat) (o : PO), ρ1[j]? = some (some (.own o)) → σ2[j]? ≠ some (some (.ref D)) := fun j o ej hs => by
      have ej' := ownd j o ej
      have hjv : j ∉ vs := fun z => by
        have : (wipeR ρ vs)[j]? = some none ∨ (wipeR ρ vs)[j]? = none := wipeR_in z
        rcases this with q | q <;> (rw [q] at ej'; cases ej')
      rw [off.2 j (fun z => hjv (hs1' j z))] at hs
      obtain ⟨v, q1, b, eb, _, _, q⟩ := (r1.wipe vs).at_ j _ ej'
      rw [hs] at q1
      cases q1
      cases eb
      cases o with
      | lst es =>
        obtain ⟨us, p1, _⟩ := q
        rw [hD] at p1
        cases p1
      | dT es =>
        obtain ⟨us, p1, _⟩ := q
        rw [hD] at p1
        cases p1
      | dK es =>
        obtain ⟨us, p1, _⟩ := q
        rw [hD] at p1
        cases p1
      | lT es =>
        exact q.elim
      | xo x =>
        obtain ⟨φ, p1⟩ := OwnX.ext q
        rw [hD] at p1
        cases p1
    refine ⟨wipe_off off hs, ?_⟩
    refine hc tp He Hq ρ1 σ2 H2 _ r2 (wp0_mono (fun b hb => ?_) (wp0_bind.mp h1))
    intro H3 g3 t3
    have g13 : GrT tp H1 H3 := (g'.trans (.of sm)).trans g3
    have eD3 : H3 D = some (.lst vsa) := g3 D _ (sm D _ eD) tD.ne
    have im3 : Im H' H3 := (Im.same sm).trans (g3.im (t'.same sm))
    have hda3 := hda.imlf im3 acc _ rfl
    have r3 := r2.go g3 t3
    cases b with
    | false =>
      rw [if_neg Bool.false_ne_true] at hb ⊢
      exact ⟨acc, vsa, eD3, hda3, g13, t3, hb⟩
    | true =>
      rw [if_pos rfl] at hb ⊢
      refine hi1 tp He Hq ρ1 σ2 H3 _ r3 (wp0_mono (fun es hes => ?_) (wp0_bind.mp hb))
      intro J1 H4 g4 t4 w1
      have r4 := r3.go g4 t4
      have eD4 : H4 D = some (.lst vsa) := g4 D _ eD3 tD.ne
      have hda4 := hda3.imlf (g4.im t3) acc _ rfl
      refine ⟨fun j k H' => k = es.length - j ∧ j ≤ es.length ∧ ∃ acc vsa, H' D = some (.lst vsa) ∧ VlAll K H' vsa acc ∧ GrT tp H1 H' ∧ TOk tp H' ∧ Im H4 H' ∧ Rel tp K He Hq H' σ2 ρ1 ∧ wp0 (lcI a1 c1 e (es.drop j) (wipeR ρ1 vs1) acc fun acc => lcL2 a c its1 a1 c1 e vs1 (ds.drop (i + 1)) (wipeR ρ vs) acc) (Post tp K H Q),
        ⟨es.length, rfl, Nat.zero_le _, acc, vsa, eD4, hda4, g13.trans g4, t4, Im.refl _, r4, hes⟩, ?_⟩
      rintro j k H5 ⟨rfl, hj, acc, vsa, eD5, hda5, g5, t5, im5, r5, h5⟩
      obtain ⟨st1, go1'⟩ := w1 H5 im5 (fun p hp => by simp at hp)
      by_cases hlj : j < es.length
      · obtain ⟨d1, hd1⟩ : ∃ d, es[j]? = some d := ⟨es[j], List.getElem?_eq_getElem hlj⟩
        obtain ⟨goj, yl1⟩ := go1' j d1 hd1
        have ed1 : es.drop j = d1 :: es.drop (j + 1) := by
          rw [List.drop_eq_getElem_cons hlj]
          have : es[j] = d1 := by rw [List.getElem?_eq_getElem hlj] at hd1; exact Option.some.inj hd1
          rw [this]
        rw [ed1] at h5
        refine .inr ⟨goj, fun H2 => ∃ acc vsa, H2 D = some (.lst vsa) ∧ VlAll K H2 vsa acc ∧ GrT tp H1 H2 ∧ TOk tp H2 ∧ Im H4 H2 ∧ Rel tp K He Hq H2 σ2 ρ1 ∧ wp0 (lcI a1 c1 e (es.drop (j + 1)) (wipeR ρ1 vs1) acc fun acc => lcL2 a c its1 a1 c1 e vs1 (ds.drop (i + 1)) (wipeR ρ vs) acc) (Post tp K H Q),
          fun H2 ⟨acc, vsa, q⟩ => ⟨es.length - (j + 1), by omega, rfl, hlj, acc, vsa, q⟩, fun x1 H6 y1 => ?_⟩
        obtain ⟨sm1, dp1⟩ := yl1 x1 H6 y1
        refine hg1 tp He Hq _ _ H5 H6 x1 (.val d1) _ (r5.wipe vs1) (.of sm1) (t5.same sm1) ⟨dp1, rfl⟩ (wp0_mono (fun ρ6 h6 => ?_) (wp0_bind.mp (show wp0 ((a1 (.val d1) (wipeR ρ1 vs1)).bind _) _ from h5)))
        intro σ6 off6 r6
        refine ⟨wipe_off off6 hs1, ?_⟩
        refine hc1 tp He Hq ρ6 σ6 H6 _ r6 (wp0_mono (fun b hb => ?_) (wp0_bind.mp h6))
        intro H7 g7 t7
        have g57 : GrT tp H5 H7 := (GrT.of sm1).trans g7
        have im57 : Im H5 H7 := g57.im t5
        have eD7 : H7 D = some (.lst vsa) := g57 D _ eD5 tD.ne
        have hda7 := hda5.imlf im57 acc _ rfl
        cases b with
        | false =>
          rw [if_neg Bool.false_ne_true] at hb ⊢
          exact ⟨acc, vsa, eD7, hda7, g5.trans g57, t7, im5.trans im57, r5.go g57 t7, hb⟩
        | true =>
          rw [if_pos rfl] at hb ⊢
          refine he tp He Hq ρ6 σ6 H7 _ (r6.go g7 t7) (wp0_mono (fun z hz => ?_) (wp0_bind.mp hb))
          intro v H8 g8 t8 rc
          have g58 : GrT tp H5 H8 := g57.trans g8
          have im58 : Im H5 H8 := g58.im t5
          have eD8 : H8 D = some (.lst vsa) := g8 D _ eD7 tD.ne
          cases z with
          | val y =>
            have hda8 := hda5.imlf im58 acc _ rfl
            by_cases lo : lenOk (acc.length + 1) = true
            case neg => exact (show wp0 (M.fail : M C) _ by have hz' := hz; dsimp only at hz'; rwa [if_neg lo] at hz').elim
            · have hz : wp0 (lcI a1 c1 e (es.drop (j + 1)) (wipeR ρ1 vs1) (acc ++ [y]) fun acc => lcL2 a c its1 a1 c1 e vs1 (ds.drop (i + 1)) (wipeR ρ vs) acc) (Post tp K H Q) := by
                have hz' := hz
                dsimp only at hz'
                rwa [if_pos lo] at hz'
              have lo' := lenOk_le lo
              have r8 := r5.go g58 t8
              have DHq : Hq D = none := by
                cases q : Hq D with
                | none => rfl
                | some o => have := r1.gr D o q tD.ne; rw [hD] at this; cases this
              refine ⟨vsa, eD8, by rw [hda8.len]; omega, acc ++ [y], vsa ++ [v], upd_same, (hda8.app (.cons rc.1 .nil)).imlf (Im.set eD8) _ _ rfl, upG (g5.trans g58), upT t8, (im5.trans im58).trans (Im.set eD8), ?_, hz⟩
              refine ⟨r8.len, fun j c ej => ?_, r8.dist, r8.sub, fun b o eb nb => ?_, upT t8, r8.he⟩
              · obtain ⟨u, q1, q2⟩ := r8.at_ j c ej
                refine ⟨u, q1, ?_⟩
                have im : Im H8 (upd H8 D (.lst (vsa ++ [v]))) := Im.set eD8
                cases c with
                | val d => exact ⟨q2.1.imlf im d _ q2.2, q2.2⟩
                | own o =>
                  obtain ⟨b, eb, fb, nb, q⟩ := q2
                  have hne : b ≠ D := fun z => by
                    subst z
                    subst eb
                    exact noD j o ej q1
                  refine ⟨b, eb, fb, nb, ?_⟩
                  cases o with
                  | lst es =>
                    obtain ⟨us, p1, p2, p3⟩ := q
                    exact ⟨us, by rw [upd_ne hne]; exact p1, p2.imlf im es _ p3, p3⟩
                  | dT es =>
                    obtain ⟨us, p1, p2, p3⟩ := q
                    exact ⟨us, by rw [upd_ne hne]; exact p1, p2.imlf im es _ p3, p3⟩
                  | dK es =>
                    obtain ⟨us, p1, p2, p3⟩ := q
                    exact ⟨us, by rw [upd_ne hne]; exact p1, p2.imlf im es _ p3, p3⟩
                  | lT es =>
                    exact q.elim
                  | xo x => exact OwnX.to q im fun φ e => by rw [upd_ne hne]; exact e
                | bor o => exact q2
                | tape => exact q2
              · have hne : b ≠ D := fun z => by subst z; rw [DHq] at eb; cases eb
                rw [upd_ne hne]
                exact r8.gr b o eb nb
          | own o => exact hz.elim
          | bor o => exact hz.elim
          | tape => exact hz.elim
      · have e1 : j = es.length := by omega
        subst e1
        rw [List.drop_length] at h5
        exact .inl ⟨st1, acc, vsa, eD5, hda5, g5, t5, h5⟩
  · have e1 : i = ds.length := by omega
    subst e1
    rw [List.drop_length] at h'
    exact .inl ⟨st, (show Post tp K H Q (.own (.lst acc)) from h') _ H' (gg1.trans g') t' ⟨D, rfl, gg1.free t1 hD, tD, vsa, eD, hda, rfl⟩⟩
end
end Cs

set_option maxRecDepth 100000
set_option maxHeartbeats 4000000
/-! dicts: by keys that are ints and texts, by keys that are tuples of these -/
namespace Cs
open PySem PySem.Spec PyProof.Rows L2
def key1 : PyData → Option Key
  | .int i => some (.inl i)
  | .str x => some (.inr x)
  | _ => none
def keys1 : List PyData → Option (List Key)
  | [] => some []
  | d :: ds => match key1 d, keys1 ds with
    | some k, some ks => some (k :: ks)
    | _, _ => none
def keyT : PyData → Option (List Key)
  | .tuple ds => keys1 ds
  | _ => none
section
variable {κ : Type} [DecidableEq κ]
def valD (kvs : List (κ × PyData)) (k : κ) : Option PyData := (kvs.find? fun kv => decide (kv.1 = k)).map (·.2)
def putD (kvs : List (κ × PyData)) (k : κ) (v : PyData) : List (κ × PyData) :=
  if (kvs.any fun kv => decide (kv.1 = k)) = true then kvs.map (fun kv => if kv.1 = k then (kv.1, v) else kv) else kvs ++ [(k, v)]
end
section
variable {tp : Option (Addr × Addr)} {K : PySem.W.Frag} [WP K] {H H' H'' H0 H1 He : Hp} {Hq : Hp} {σ : L2.St} {ρ : Ro}
theorem key1_vl {y : V} {d : PyData} {k : Key} (h : Vl K H y d) (e : key1 d = some k) : y = kV k := by
  cases h <;> cases e <;> rfl
theorem keys1_vl : ∀ {ds : List PyData} {ys : List V} {ks : List Key}, VlAll K H ys ds → keys1 ds = some ks → ys = ks.map kV
  | [], _, _, h, e => by cases h; cases e; rfl
  | d :: ds, _, ks, h, e => by
    cases h with
    | cons h1 h2 =>
      unfold keys1 at e
      split at e
      · rename_i k ks' e1 e2
        cases e
        rw [key1_vl h1 e1, keys1_vl h2 e2]
        rfl
      · cases e
theorem keyT_vl {y : V} {d : PyData} {ks : List Key} (h : Vl K H y d) (e : keyT d = some ks) : ∃ b, y = .ref b ∧ H b = some (.tup (ks.map kV)) := by
  cases h with
  | tup h1 h2 => exact ⟨_, rfl, by rw [← keys1_vl h2 e]; exact h1⟩
  | _ => cases e
section
variable {κ : Type} [DecidableEq κ]
theorem _root_.L2.KvR.get {vs : List (κ × V)} {ds : List (κ × PyData)} (k : κ) (h : KvR K H vs ds) : (valV vs k = none ∧ valD ds k = none) ∨ ∃ v d, valV vs k = some v ∧ valD ds k = some d ∧ Vl K H v d := by
  obtain ⟨h1, h2⟩ := h
  induction vs generalizing ds with
  | nil =>
    cases ds with
    | nil => exact .inl ⟨rfl, rfl⟩
    | cons _ _ => cases h1
  | cons p vs ih =>
    cases ds with
    | nil => cases h1
    | cons q ds =>
      rw [List.map_cons, List.map_cons] at h1 h2
      injection h1 with e1 e2
      cases h2 with
      | cons g1 g2 =>
        by_cases e : p.1 = k
        · refine .inr ⟨p.2, q.2, valV_pos e, ?_, g1⟩
          simp [valD, List.find?_cons, e1.symm.trans e]
        · have e' : ¬ q.1 = k := fun z => e (e1.trans z)
          have r1 : valV (p :: vs) k = valV vs k := valV_neg e
          have r2 : valD (q :: ds) k = valD ds k := by simp [valD, List.find?_cons, e']
          rw [r1, r2]
          exact ih e2 g2
theorem _root_.L2.KvR.any {vs : List (κ × V)} {ds : List (κ × PyData)} (h : KvR K H vs ds) (k : κ) : (vs.any fun kv => decide (kv.1 = k)) = ds.any fun kv => decide (kv.1 = k) := by
  have a : (vs.any fun kv => decide (kv.1 = k)) = (vs.map Prod.fst).any fun x => decide (x = k) := by rw [List.any_map]; rfl
  have b : (ds.any fun kv => decide (kv.1 = k)) = (ds.map Prod.fst).any fun x => decide (x = k) := by rw [List.any_map]; rfl
  rw [a, b, h.1]
theorem kv_repl {k : κ} {v : V} {d : PyData} (hv : Vl K H v d) : ∀ {vs : List (κ × V)} {ds : List (κ × PyData)}, KvR K H vs ds → KvR K H (vs.map fun kv => if kv.1 = k then (kv.1, v) else kv) (ds.map fun kv => if kv.1 = k then (kv.1, d) else kv)
  | [], [], h => h
  | [], _ :: _, h => by cases h.1
  | _ :: _, [], h => by cases h.1
  | p :: vs, q :: ds, ⟨h1, h2⟩ => by
    rw [List.map_cons, List.map_cons] at h1 h2
    injection h1 with e1 e2
    cases h2 with
    | cons g1 g2 =>
      obtain ⟨i1, i2⟩ := kv_repl (k := k) hv (vs := vs) (ds := ds) ⟨e2, g2⟩
      rw [List.map_cons, List.map_cons]
      by_cases e : p.1 = k
      · rw [if_pos e, if_pos (e1.symm.trans e)]
        exact ⟨by rw [List.map_cons, List.map_cons, i1, e1], .cons hv i2⟩
      · rw [if_neg e, if_neg fun z => e (e1.trans z)]
        exact ⟨by rw [List.map_cons, List.map_cons, i1, e1], .cons g1 i2⟩
theorem _root_.L2.KvR.put {vs : List (κ × V)} {ds : List (κ × PyData)} {k : κ} {v : V} {d : PyData} (h : KvR K H vs ds) (hv : Vl K H v d) : KvR K H (putK vs k v) (putD ds k d) := by
  unfold putK putD
  rw [h.any k]
  split
  · exact kv_repl hv h
  · exact ⟨by rw [List.map_append, List.map_append, h.1]; rfl, by rw [List.map_append, List.map_append]; exact h.2.app (.cons hv .nil)⟩
theorem _root_.L2.KvR.len {vs : List (κ × V)} {ds : List (κ × PyData)} (h : KvR K H vs ds) : vs.length = ds.length := by
  have := congrArg List.length h.1
  rwa [List.length_map, List.length_map] at this
end
/-! a dict, read -/
def C.kvT : C → Option (List (List Key × PyData))
  | .own (.dT ds) => some ds
  | .bor (.dT ds) => some ds
  | .bor (.lT ds) => some ds
  | _ => none
def C.kvK : C → Option (List (Key × PyData))
  | .own (.dK ds) => some ds
  | .bor (.dK ds) => some ds
  | _ => none
theorem RC.dT {v : V} {c : C} {ds : List (List Key × PyData)} (h : RC tp K H0 H v c) (e : c.kvT = some ds) : ∃ a vs, v = .ref a ∧ Rd H a (.dT vs) ∧ KvR K H vs ds := by
  cases c with
  | val d => cases e
  | tape => cases e
  | own o =>
    cases o with
    | lst _ => cases e
    | dK _ => cases e
    | lT _ => cases e
    | xo _ => cases e
    | dT _ =>
      cases e
      obtain ⟨a, rfl, _, _, vs, h1, h2, _⟩ := h
      exact ⟨a, vs, rfl, .inl h1, h2⟩
  | bor o =>
    cases o with
    | lst _ => cases e
    | dK _ => cases e
    | lT _ =>
      cases e
      obtain ⟨a, rfl, vs, h1, h2, _⟩ := h
      exact ⟨a, vs, rfl, .inr h1.1, h2⟩
    | xo _ => cases e
    | dT _ =>
      cases e
      obtain ⟨a, rfl, vs, h1, h2, _⟩ := h
      exact ⟨a, vs, rfl, h1.1, h2⟩
theorem RC.dK {v : V} {c : C} {ds : List (Key × PyData)} (h : RC tp K H0 H v c) (e : c.kvK = some ds) : ∃ a vs, v = .ref a ∧ Rd H a (.dK vs) ∧ KvR K H vs ds := by
  cases c with
  | val d => cases e
  | tape => cases e
  | own o =>
    cases o with
    | lst _ => cases e
    | dT _ => cases e
    | lT _ => cases e
    | xo _ => cases e
    | dK _ =>
      cases e
      obtain ⟨a, rfl, _, _, vs, h1, h2, _⟩ := h
      exact ⟨a, vs, rfl, .inl h1, h2⟩
  | bor o =>
    cases o with
    | lst _ => cases e
    | dT _ => cases e
    | lT _ => cases e
    | xo _ => cases e
    | dK _ =>
      cases e
      obtain ⟨a, rfl, vs, h1, h2, _⟩ := h
      exact ⟨a, vs, rfl, h1.1, h2⟩
/-- what the dict c holds at the key d; none: no dict, or no key that may be asked -/
def lkD (c : C) (d : PyData) : Option (Option PyData) := match c.kvT, c.kvK with
  | some ds, _ => (match keyT d with
    | some k => some (valD ds k)
    | none => none)
  | none, some ds => (match key1 d with
    | some k => some (valD ds k)
    | none => none)
  | none, none => none
theorem lkD_ok {x y : V} {c : C} {d : PyData} {o : Option PyData} (rx : RC tp K H0 H x c) (hy : Vl K H y d) (e : lkD c d = some o) :
    ∃ a o', x = .ref a ∧ DGet H a y o' ∧ ((o' = none ∧ o = none) ∨ ∃ v z, o' = some v ∧ o = some z ∧ Vl K H v z) := by
  unfold lkD at e
  split at e
  · rename_i ds _ e1
    split at e
    · rename_i k ek
      cases e
      obtain ⟨a, vs, rfl, r, h⟩ := rx.dT e1
      obtain ⟨b, rfl, hb⟩ := keyT_vl hy ek
      refine ⟨a, valV vs k, rfl, .inr ⟨vs, k, b, r, rfl, hb, rfl⟩, ?_⟩
      exact h.get k
    · cases e
  · rename_i ds _ e1
    split at e
    · rename_i k ek
      cases e
      obtain ⟨a, vs, rfl, r, h⟩ := rx.dK e1
      refine ⟨a, valV vs k, rfl, .inl ⟨vs, k, r, key1_vl hy ek, rfl⟩, ?_⟩
      exact h.get k
    · cases e
  · cases e
/-! d[k] -/
def oDGet : C → C → M C
  | c, .val d => (match lkD c d with
    | some (some z) => .ret (.val z)
    | _ => .fail)
  | _, _ => .fail
theorem re_dget {td ty : TE} {gd gy : Ro → M C} (h1 : RE K td gd) (h2 : RE K ty gy) : RE K (tDGet td ty) (gOp oDGet gd gy) := by
  intro tp He Hq ρ σ H Q r h
  refine h1 tp He Hq ρ σ H _ r (wp0_mono (fun c hc => ?_) (wp0_bind.mp h))
  intro x H1 g1 t1 rx
  refine h2 tp He Hq ρ σ H1 _ (r.go g1 t1) (wp0_mono (fun c' hc' => ?_) (wp0_bind.mp hc))
  intro y H2 g2 t2 ry
  have rx2 := rx.gr g2 t1
  unfold oDGet at hc'
  split at hc'
  · rename_i d
    split at hc'
    · rename_i z e
      obtain ⟨a, o', ex, dg, q⟩ := lkD_ok rx2 ry.1 e
      rcases q with ⟨_, z⟩ | ⟨v, z', e1, e2, hv⟩
      · cases z
      · cases e2
        subst e1
        exact ⟨a, v, ex, dg, hc' v H2 (g1.trans g2) t2 ⟨hv, rfl⟩⟩
    · exact hc'.elim
  · exact hc'.elim
/-! k in d -/
def oDIn (n : Bool) : C → C → M C
  | .val d, c => (match lkD c d with
    | some o => .ret (.val (.bool (n ^^ o.isSome)))
    | _ => .fail)
  | _, _ => .fail
theorem re_din {td ty : TE} {gd gy : Ro → M C} (h1 : RE K ty gy) (h2 : RE K td gd) : RE K (tDIn ty td) (gOp (oDIn false) gy gd) := by
  intro tp He Hq ρ σ H Q r h
  refine h1 tp He Hq ρ σ H _ r (wp0_mono (fun c hc => ?_) (wp0_bind.mp h))
  intro y H1 g1 t1 ry
  refine h2 tp He Hq ρ σ H1 _ (r.go g1 t1) (wp0_mono (fun c' hc' => ?_) (wp0_bind.mp hc))
  intro x H2 g2 t2 rx
  have ry2 := ry.gr g2 t1
  unfold oDIn at hc'
  split at hc'
  · rename_i d
    split at hc'
    · rename_i o e
      obtain ⟨a, o', ex, dg, q⟩ := lkD_ok rx ry2.1 e
      refine ⟨a, o', ex, dg, ?_⟩
      have : o'.isSome = o.isSome := by
        rcases q with ⟨e1, e2⟩ | ⟨v, z', e1, e2, _⟩ <;> (rw [e1, e2]; try rfl)
      rw [this]
      rw [Bool.false_xor] at hc'
      exact Post.bl hc' (g1.trans g2) t2
    · exact hc'.elim
  · exact hc'.elim
theorem re_dnotin {td ty : TE} {gd gy : Ro → M C} (h1 : RE K ty gy) (h2 : RE K td gd) : RE K (tDNotIn ty td) (gOp (oDIn true) gy gd) := by
  intro tp He Hq ρ σ H Q r h
  refine h1 tp He Hq ρ σ H _ r (wp0_mono (fun c hc => ?_) (wp0_bind.mp h))
  intro y H1 g1 t1 ry
  refine h2 tp He Hq ρ σ H1 _ (r.go g1 t1) (wp0_mono (fun c' hc' => ?_) (wp0_bind.mp hc))
  intro x H2 g2 t2 rx
  have ry2 := ry.gr g2 t1
  unfold oDIn at hc'
  split at hc'
  · rename_i d
    split at hc'
    · rename_i o e
      obtain ⟨a, o', ex, dg, q⟩ := lkD_ok rx ry2.1 e
      refine ⟨a, o', ex, dg, ?_⟩
      have : o'.isSome = o.isSome := by
        rcases q with ⟨e1, e2⟩ | ⟨v, z', e1, e2, _⟩ <;> (rw [e1, e2]; try rfl)
      rw [this]
      rw [Bool.true_xor] at hc'
      exact Post.bl hc' (g1.trans g2) t2
    · exact hc'.elim
  · exact hc'.elim
/-! d.get(k) -/
theorem RC.isD {x : V} {c : C} (rx : RC tp K H0 H x c) {d : PyData} {o : Option PyData} (e : lkD c d = some o) : ∃ a, x = .ref a ∧ IsD H a := by
  unfold lkD at e
  split at e
  · rename_i ds _ e1
    obtain ⟨a, vs, rfl, r, h⟩ := rx.dT e1
    exact ⟨a, rfl, .inr ⟨vs, r⟩⟩
  · rename_i ds _ e1
    obtain ⟨a, vs, rfl, r, h⟩ := rx.dK e1
    exact ⟨a, rfl, .inl ⟨vs, r⟩⟩
  · cases e
def C.isDict (c : C) : Bool := c.kvT.isSome || c.kvK.isSome
theorem RC.isDict {x : V} {c : C} (rx : RC tp K H0 H x c) (e : c.isDict = true) : ∃ a, x = .ref a ∧ IsD H a := by
  unfold C.isDict at e
  cases q : c.kvT with
  | some ds =>
    obtain ⟨a, vs, rfl, r, h⟩ := rx.dT q
    exact ⟨a, rfl, .inr ⟨vs, r⟩⟩
  | none =>
    cases q2 : c.kvK with
    | some ds =>
      obtain ⟨a, vs, rfl, r, h⟩ := rx.dK q2
      exact ⟨a, rfl, .inl ⟨vs, r⟩⟩
    | none => rw [q, q2] at e; cases e
def oDGet1 (c : C) : C → M C
  | .val d => (match lkD c d with
    | some o => .ret (.val (o.getD .none))
    | _ => .fail)
  | _ => .fail
def gDGet1 (gd gy : Ro → M C) (ρ : Ro) : M C := (gd ρ).bind fun c => if c.isDict = true then (gy ρ).bind (oDGet1 c) else .fail
theorem re_dget1 {td ty : TE} {gd gy : Ro → M C} (h1 : RE K td gd) (h2 : RE K ty gy) : RE K (tDGet1 td ty) (gDGet1 gd gy) := by
  intro tp He Hq ρ σ H Q r h
  refine h1 tp He Hq ρ σ H _ r (wp0_mono (fun c hc => ?_) (wp0_bind.mp h))
  intro x H1 g1 t1 rx
  split at hc
  · rename_i isd
    obtain ⟨a, rfl, ia⟩ := rx.isDict isd
    refine ⟨a, rfl, ia, ?_⟩
    refine h2 tp He Hq ρ σ H1 _ (r.go g1 t1) (wp0_mono (fun c' hc' => ?_) (wp0_bind.mp hc))
    intro y H2 g2 t2 ry
    have rx2 := rx.gr g2 t1
    unfold oDGet1 at hc'
    split at hc'
    · rename_i d
      split at hc'
      · rename_i o e
        obtain ⟨b, o', ex, dg, q⟩ := lkD_ok rx2 ry.1 e
        cases ex
        refine ⟨o', dg, ?_⟩
        rcases q with ⟨e1, e2⟩ | ⟨v, z', e1, e2, hv⟩
        · subst e1 e2
          exact hc' _ H2 (g1.trans g2) t2 ⟨.non, rfl⟩
        · subst e1 e2
          exact hc' _ H2 (g1.trans g2) t2 ⟨hv, rfl⟩
      · exact hc'.elim
    · exact hc'.elim
  · exact hc.elim
/-! {} -/
def gNewT (_ : Ro) : M C := .ret (.own (.dT []))
def gNewK (_ : Ro) : M C := .ret (.own (.dK []))
theorem re_newT : RE K tDNewT gNewT := by
  intro tp He Hq ρ σ H Q r h
  intro p hp
  exact (show Post tp K H Q (.own (.dT [])) from h) _ _ (.of (Same.new hp)) (r.tok.same (Same.new hp)) ⟨p, rfl, hp, r.tok.tne hp, [], upd_same, ⟨rfl, .nil⟩, trivial⟩
theorem re_newK : RE K tDNewK gNewK := by
  intro tp He Hq ρ σ H Q r h
  intro p hp
  exact (show Post tp K H Q (.own (.dK [])) from h) _ _ (.of (Same.new hp)) (r.tok.same (Same.new hp)) ⟨p, rfl, hp, r.tok.tne hp, [], upd_same, ⟨rfl, .nil⟩, trivial⟩
/-! d[k] = v -/
theorem Im.mut {t : Addr} {H : Hp} {u o : HO} (h : H t = some u) (m : Mut (some u)) : Im H (upd H t o) :=
  ⟨fun b xs e => by
    have hne : b ≠ t := fun z => by subst z; rw [h] at e; cases e; exact m
    rw [upd_ne hne]; exact e,
   fun b o u' e => by
    have hne : b ≠ t := fun z => by subst z; rw [h] at e; cases e; exact m
    rw [upd_ne hne]; exact e⟩
theorem OwnO.mut {a : Addr} {o : PO} (h : OwnO K H a o) : ∃ u, H a = some u ∧ Mut (some u) := by
  cases o with
  | lst ds => obtain ⟨vs, h1, _⟩ := h; exact ⟨_, h1, trivial⟩
  | dT ds => obtain ⟨vs, h1, _⟩ := h; exact ⟨_, h1, trivial⟩
  | dK ds => obtain ⟨vs, h1, _⟩ := h; exact ⟨_, h1, trivial⟩
  | lT _ => exact h.elim
  | xo x => obtain ⟨φ, h1⟩ := OwnX.ext h; exact ⟨_, h1, trivial⟩
theorem OwnO.upd {a b : Addr} {o : PO} {u w : HO} (h : OwnO K H b o) (hne : b ≠ a) (e : H a = some w) (m : Mut (some w)) : OwnO K (upd H a u) b o := by
  have im : Im H (L2.upd H a u) := Im.mut e m
  cases o with
  | lst ds =>
    obtain ⟨vs, h1, h2, h3⟩ := h
    exact ⟨vs, by rw [upd_ne hne]; exact h1, h2.imlf im ds _ h3, h3⟩
  | dT ds =>
    obtain ⟨vs, h1, h2, h3⟩ := h
    exact ⟨vs, by rw [upd_ne hne]; exact h1, h2.imlf im ds _ h3, h3⟩
  | dK ds =>
    obtain ⟨vs, h1, h2, h3⟩ := h
    exact ⟨vs, by rw [upd_ne hne]; exact h1, h2.imlf im ds _ h3, h3⟩
  | lT ds =>
    exact h.elim
  | xo x => exact OwnX.to h im fun φ e => by rw [upd_ne hne]; exact e
/-- an object of one's own is replaced -/
theorem Rel.setO {i : Nat} {o : PO} (r : Rel tp K He Hq H σ ρ) (e : ρ[i]? = some (some (.own o))) : ∃ a, σ[i]? = some (some (.ref a)) ∧ OwnO K H a o ∧
    (∀ u o', OwnO K (upd H a u) a o' → Rel tp K He Hq (upd H a u) σ (ρ.set i (some (.own o')))) := by
  obtain ⟨v, h1, a, e2, f, n, q0⟩ := r.at_ i _ e
  subst e2
  refine ⟨a, h1, q0, fun u o' hn => ?_⟩
  obtain ⟨w, hw, mw⟩ := q0.mut
  have im : Im H (upd H a u) := Im.mut hw mw
  have hl : i < ρ.length := (List.getElem?_eq_some_iff.mp e).1
  refine ⟨by rw [List.length_set, r.len], fun j c ej => ?_, fun j k b oo oo' e1 e2 e3 e4 => ?_, r.sub, fun b o eb nb => ?_, fun t l et => (r.tok t l et).upd (n t l et).1 (n t l et).2, r.he⟩
  · by_cases hij : i = j
    · subst hij
      rw [List.getElem?_set_self hl] at ej
      cases ej
      exact ⟨_, h1, a, rfl, f, n, hn⟩
    · rw [List.getElem?_set_ne hij] at ej
      obtain ⟨u, q1, q2⟩ := r.at_ j c ej
      refine ⟨u, q1, ?_⟩
      cases c with
      | val d => exact ⟨q2.1.imlf im d _ q2.2, q2.2⟩
      | own o =>
        obtain ⟨b, eb, fb, nb, q⟩ := q2
        have hne : b ≠ a := fun z => by
          subst z
          subst eb
          exact hij (r.dist i j b _ _ e ej h1 q1)
        exact ⟨b, eb, fb, nb, q.upd hne hw mw⟩
      | bor o => exact q2
      | tape => exact q2
  · have own_of : ∀ {m : Nat} {o : PO}, (ρ.set i (some (.own o')))[m]? = some (some (.own o)) → ∃ o, ρ[m]? = some (some (.own o)) := fun {m o} em => by
      by_cases him : i = m
      · subst him; exact ⟨_, e⟩
      · rw [List.getElem?_set_ne him] at em; exact ⟨_, em⟩
    obtain ⟨o1, e1'⟩ := own_of e1
    obtain ⟨o2, e2'⟩ := own_of e2
    exact r.dist j k b o1 o2 e1' e2' e3 e4
  · have hne : b ≠ a := fun z => by subst z; rw [f] at eb; cases eb
    rw [upd_ne hne]
    exact r.gr b o eb nb
end
end Cs

set_option maxRecDepth 100000
set_option maxHeartbeats 4000000
/-! dicts: stored into, walked while they are locked -/
namespace Cs
open PySem PySem.Spec PyProof.Rows L2
section
variable {tp : Option (Addr × Addr)} {K : PySem.W.Frag} [WP K] {H H' H'' H0 H1 H2 He : Hp} {Hq : Hp} {σ : L2.St} {ρ : Ro}
/-! d[k] = v -/
def kPutT (i : Nat) (ρ : Ro) (ds : List (List Key × PyData)) : C → C → M Res
  | .val d, .val kd => (match keyT kd with
    | some k => if lenOk (ds.length + 1) = true then .ret (.nx (ρ.set i (some (.own (.dT (putD ds k d)))))) else .fail
    | none => .fail)
  | _, _ => .fail
def kPutK (i : Nat) (ρ : Ro) (ds : List (Key × PyData)) : C → C → M Res
  | .val d, .val kd => (match key1 kd with
    | some k => if lenOk (ds.length + 1) = true then .ret (.nx (ρ.set i (some (.own (.dK (putD ds k d)))))) else .fail
    | none => .fail)
  | _, _ => .fail
def dputAt (i : Nat) (gv gk : Ro → M C) (ρ : Ro) : Option (Option C) → M Res
  | some (some (.own (.dT ds))) => (gv ρ).bind fun cv => (gk ρ).bind fun ck => kPutT i ρ ds cv ck
  | some (some (.own (.dK ds))) => (gv ρ).bind fun cv => (gk ρ).bind fun ck => kPutK i ρ ds cv ck
  | _ => .fail
def mDPut (i : Nat) (gv gk : Ro → M C) (ρ : Ro) : M Res := dputAt i gv gk ρ ρ[i]?
theorem rs_dput {i : Nat} {ty tv : TE} {gk gv : Ro → M C} (h1 : RE K tv gv) (h2 : RE K ty gk) : RS K (sDPut (tVar i) ty tv) (mDPut i gv gk) := by
  intro tp He Hq ρ σ H D r h
  have zl : sizeLine = 16777216 := by decide
  unfold mDPut dputAt at h
  split at h
  · rename_i ds e
    refine h1 tp He Hq ρ σ H _ r (wp0_mono (fun cv hcv => ?_) (wp0_bind.mp h))
    intro v H1 g1 t1 rv
    have r1 := r.go g1 t1
    obtain ⟨a, hs, _⟩ := r1.setO e
    refine ⟨.ref a, hs, ?_⟩
    refine h2 tp He Hq ρ σ H1 _ r1 (wp0_mono (fun ck hck => ?_) (wp0_bind.mp hcv))
    intro y H3 g3 t3 ry
    have r3 := r1.go g3 t3
    have rv3 := rv.gr g3 t1
    obtain ⟨a', hs', ⟨vs, q1, q2, _⟩, put⟩ := r3.setO e
    have : a' = a := by rw [hs] at hs'; cases hs'; rfl
    subst this
    unfold kPutT at hck
    split at hck
    · rename_i d kd
      split at hck
      · rename_i k ek
        split at hck
        · rename_i lo
          have lo' := lenOk_le lo
          obtain ⟨b, rfl, hb⟩ := keyT_vl ry.1 ek
          refine ⟨a', _, rfl, DPut.t q1 hb (by rw [q2.len]; omega), ?_⟩
          exact (show NxOk tp K He Hq D.nx _ from hck) σ _ Hq .refl (put _ _ ⟨_, upd_same, (q2.put rv3.1).imlf (Im.mut q1 trivial) _ _ trivial, trivial⟩)
        · exact hck.elim
      · exact hck.elim
    · exact hck.elim
  · rename_i ds e
    refine h1 tp He Hq ρ σ H _ r (wp0_mono (fun cv hcv => ?_) (wp0_bind.mp h))
    intro v H1 g1 t1 rv
    have r1 := r.go g1 t1
    obtain ⟨a, hs, _⟩ := r1.setO e
    refine ⟨.ref a, hs, ?_⟩
    refine h2 tp He Hq ρ σ H1 _ r1 (wp0_mono (fun ck hck => ?_) (wp0_bind.mp hcv))
    intro y H3 g3 t3 ry
    have r3 := r1.go g3 t3
    have rv3 := rv.gr g3 t1
    obtain ⟨a', hs', ⟨vs, q1, q2, _⟩, put⟩ := r3.setO e
    have : a' = a := by rw [hs] at hs'; cases hs'; rfl
    subst this
    unfold kPutK at hck
    split at hck
    · rename_i d kd
      split at hck
      · rename_i k ek
        split at hck
        · rename_i lo
          have lo' := lenOk_le lo
          have ey := key1_vl ry.1 ek
          subst ey
          refine ⟨a', _, rfl, DPut.k q1 (by rw [q2.len]; omega), ?_⟩
          exact (show NxOk tp K He Hq D.nx _ from hck) σ _ Hq .refl (put _ _ ⟨_, upd_same, (q2.put rv3.1).imlf (Im.mut q1 trivial) _ _ trivial, trivial⟩)
        · exact hck.elim
      · exact hck.elim
    · exact hck.elim
  · exact h.elim
/-! ### locked -/
mutual
theorem Vl.unl {a : Addr} {od : Obj} {w u : HO} (hw : H a = some (.frz od w)) (nl : ∀ xs, w ≠ .lst xs) : ∀ (d : PyData) (v : V), Vl K H v d → Vl K (upd H a u) v d
  | .none, _, h => by cases h; exact .non
  | .bool _, _, h => by cases h; exact .bl _
  | .int _, _, h => by cases h; exact .int _
  | .str _, _, h => by cases h; exact .str _
  | .list ds, _, h => by
    cases h with
    | lst hs ha =>
      obtain ⟨o, hs⟩ := hs
      refine .lst ⟨o, ?_⟩ (VlAll.unl hw nl ds _ ha)
      rw [upd_ne (fun z => by rw [z, hw] at hs; cases hs; exact nl _ rfl)]
      exact hs
  | .dict _, _, h => by cases h
  | .tuple ds, _, h => by
    cases h with
    | tup hs ha =>
      refine .tup ?_ (VlAll.unl hw nl ds _ ha)
      rw [upd_ne (fun z => by rw [z, hw] at hs; cases hs)]
      exact hs
theorem VlAll.unl {a : Addr} {od : Obj} {w u : HO} (hw : H a = some (.frz od w)) (nl : ∀ xs, w ≠ .lst xs) : ∀ (ds : List PyData) (vs : List V), VlAll K H vs ds → VlAll K (upd H a u) vs ds
  | [], _, h => by cases h; exact .nil
  | d :: ds, _, h => by
    cases h with
    | cons h1 h2 => exact .cons (Vl.unl hw nl d _ h1) (VlAll.unl hw nl ds _ h2)
end
theorem Rel.lockT {i : Nat} {ds : List (List Key × PyData)} (r : Rel tp K He Hq H σ ρ) (e : ρ[i]? = some (some (.own (.dT ds)))) : ∃ a vs, σ[i]? = some (some (.ref a)) ∧ H a = some (.dT vs) ∧ TNe tp a ∧
    ∀ od, ∃ Hq3, Rel tp K He Hq3 (upd H a (.frz od (.dT vs))) σ (ρ.set i (some (.bor (.lT ds)))) := by
  obtain ⟨v, h1, a, e2, f, n, vs, q1, q2, q3⟩ := r.at_ i _ e
  subst e2
  refine ⟨a, vs, h1, q1, n, fun od => ?_⟩
  have nown : ∀ (j : Nat) (o : PO), (ρ.set i none)[j]? = some (some (.own o)) → σ[j]? ≠ some (some (.ref a)) := fun j o ej hs => by
    obtain ⟨n1, e'⟩ := Rel.forgot ej
    exact n1 (r.dist i j a _ _ e e' h1 hs)
  have np : ∀ p ∈ [a], tp.map (·.1) ≠ some p := fun p m => by
    have : p = a := by simpa using m
    subst this
    exact n.ne
  have w : Wk K H ⟨fun _ _ => False, fun _ _ _ _ => False, fun _ _ => True⟩ [a] [] := fun H' _ _ => ⟨trivial, fun i d z => by simp at z⟩
  obtain ⟨Hq2, g2, r2, _, im, eqs⟩ := (r.forget (i := i)).more (pa := [a]) (fun p j o m ej => by
    have : p = a := by simpa using m
    subst this
    exact nown j o ej) np w
  have ea : Hq2 a = some (.dT vs) := (eqs a n.ne nown).trans q1
  have imH : Im H (upd H a (.frz od (.dT vs))) := Im.mut q1 trivial
  have imQ : Im Hq2 (upd Hq2 a (.frz od (.dT vs))) := Im.mut ea trivial
  have rdq : ∀ {b : Addr} {u : HO}, Rd Hq2 b u → Rd (upd Hq2 a (.frz od (.dT vs))) b u := fun {b u} h => by
    by_cases hb : b = a
    · subst hb
      rcases h with h | ⟨o, h⟩
      · rw [ea] at h; cases h; exact .inr ⟨od, upd_same⟩
      · rw [ea] at h; cases h
    · rcases h with h | ⟨o, h⟩
      · exact .inl (by rw [upd_ne hb]; exact h)
      · exact .inr ⟨o, by rw [upd_ne hb]; exact h⟩
  have borq : ∀ {b : Addr} {o : PO}, BorO tp K Hq2 b o → BorO tp K (upd Hq2 a (.frz od (.dT vs))) b o := fun {b o} h => by
    cases o with
    | lst es => obtain ⟨us, p1, p2, p3⟩ := h; exact ⟨us, ⟨rdq p1.1, p1.2⟩, p2.imlf imQ _ _ p3, p3⟩
    | dT es => obtain ⟨us, p1, p2, p3⟩ := h; exact ⟨us, ⟨rdq p1.1, p1.2⟩, p2.imlf imQ _ _ p3, p3⟩
    | dK es => obtain ⟨us, p1, p2, p3⟩ := h; exact ⟨us, ⟨rdq p1.1, p1.2⟩, p2.imlf imQ _ _ p3, p3⟩
    | lT es =>
      obtain ⟨us, ⟨⟨o, p1⟩, p4⟩, p2, p3⟩ := h
      exact ⟨us, ⟨⟨o, imQ.frz _ _ _ p1⟩, p4⟩, p2.imlf imQ _ _ p3, p3⟩
    | xo x => exact BorX.to h imQ (fun φ e => ⟨rdq e.1, e.2⟩) fun φ e => ⟨e.1.elim fun o q => ⟨o, imQ.frz _ _ _ q⟩, e.2⟩
  have r3 : Rel tp K He (upd Hq2 a (.frz od (.dT vs))) (upd H a (.frz od (.dT vs))) σ (ρ.set i none) := by
    refine ⟨r2.len, fun j c ej => ?_, r2.dist, fun b o eb nb => ?_, fun b o eb nb => ?_, fun t l et => (r2.tok t l et).upd (n t l et).1 (n t l et).2, fun t l et => ?_⟩
    · obtain ⟨u, p1, p2⟩ := r2.at_ j c ej
      refine ⟨u, p1, ?_⟩
      cases c with
      | val d => exact ⟨p2.1.imlf imH d _ p2.2, p2.2⟩
      | own o =>
        obtain ⟨b, eb, fb, nb, q⟩ := p2
        have hne : b ≠ a := fun z => by subst z; rw [ea] at fb; cases fb
        exact ⟨b, eb, by rw [upd_ne hne]; exact fb, nb, q.upd hne q1 trivial⟩
      | bor o =>
        obtain ⟨b, eb, q⟩ := p2
        exact ⟨b, eb, borq q⟩
      | tape => exact p2
    · have hne : b ≠ a := fun z => by subst z; have := r.sub b o eb nb; rw [f] at this; cases this
      rw [upd_ne hne]
      exact r2.sub b o eb nb
    · by_cases hb : b = a
      · subst hb; rw [upd_same] at eb; rw [upd_same]; exact eb
      · rw [upd_ne hb] at eb; rw [upd_ne hb]; exact r2.gr b o eb nb
    · have hne : t ≠ a := fun z => (n t l et).1 z.symm
      rw [upd_ne hne]
      exact r2.he t l et
  have r4 := r3.put (i := i) (v := .ref a) (c := .bor (.lT ds)) ⟨a, rfl, vs, ⟨⟨od, upd_same⟩, n.ne⟩, (q2.imlf im _ _ trivial).imlf imQ _ _ trivial, trivial⟩ (fun _ _ z => by cases z)
  rw [List.set_set] at r4
  have es : σ.set i (some (.ref a)) = σ := by
    refine List.ext_getElem? fun j => ?_
    by_cases hij : i = j
    · subst hij
      rw [List.getElem?_set_self (List.getElem?_eq_some_iff.mp h1).1, h1]
    · rw [List.getElem?_set_ne hij]
  rw [es] at r4
  exact ⟨_, r4⟩
theorem OwnX.unl {a b : Addr} {od : Obj} {w u : HO} {x : XO} (hw : H a = some (.frz od w)) (nl : ∀ xs, w ≠ .lst xs) (hne : b ≠ a) (q : OwnX K H b x) : OwnX K (upd H a u) b x := by
  have up : ∀ c us, H c = some (.tup us) → upd H a u c = some (.tup us) := fun c us e => by
    rw [upd_ne fun z => by rw [z, hw] at e; cases e]
    exact e
  cases x with
  | dN ds =>
    obtain ⟨xs, vs, h1, h2, h3⟩ := q
    exact ⟨xs, vs, by rw [upd_ne hne]; exact h1, h2.up up, h3.1, VlAll.unl hw nl _ _ h3.2⟩
  | sN ks =>
    obtain ⟨L, h1, h2, h3⟩ := q
    exact ⟨L, by rw [upd_ne hne]; exact h1, fun p m => (h2 p m).up up, h3⟩
  | lN _ => exact q.elim
def lockC : C → M C
  | .val d => .ret (.val d)
  | .own o => .ret (.own o)
  | _ => .fail
def lockAt (i : Nat) (g : Ro → M C) (ρ : Ro) : Option (Option C) → M C
  | some (some (.own (.dT ds))) => (g (ρ.set i (some (.bor (.lT ds))))).bind lockC
  | _ => .fail
def gLock (i : Nat) (g : Ro → M C) (ρ : Ro) : M C := lockAt i g ρ ρ[i]?
theorem re_lock {i : Nat} {t : TE} {g : Ro → M C} (h1 : RE K t g) : RE K (tLockE t) (gLock i g) := by
  intro tp He Hq ρ σ H Q r h
  unfold gLock lockAt at h
  split at h
  · rename_i ds e
    obtain ⟨a, vs, hs, hH, na, q⟩ := r.lockT e
    refine ⟨a, _, hH, trivial, fun od => ?_⟩
    obtain ⟨Hq3, r3⟩ := q od
    refine h1 tp He Hq3 _ σ _ _ r3 (wp0_mono (fun c hc => ?_) (wp0_bind.mp h))
    intro v H2 g2 t2 rc
    have hf : H2 a = some (.frz od (.dT vs)) := g2 a _ upd_same na.ne
    refine ⟨hf, ?_⟩
    have gg : GrT tp H (upd H2 a (.dT vs)) := fun b o eb nb => by
      by_cases hb : b = a
      · subst hb; rw [upd_same, ← eb, hH]
      · rw [upd_ne hb]
        exact g2 b o (by rw [upd_ne hb]; exact eb) nb
    have tt : TOk tp (upd H2 a (.dT vs)) := fun t l et => by
      exact (t2 t l et).upd (na t l et).1 (na t l et).2
    unfold lockC at hc
    split at hc
    · rename_i d
      exact hc v _ gg tt ⟨Vl.unl hf (fun _ z => by cases z) d v rc.1, rfl⟩
    · rename_i o
      obtain ⟨b, rfl, fb, nb, q⟩ := rc
      have hne : b ≠ a := fun z => by subst z; rw [upd_same] at fb; cases fb
      refine hc _ _ gg tt ⟨b, rfl, by rwa [upd_ne hne] at fb, nb, ?_⟩
      cases o with
      | lst es => obtain ⟨us, p1, p2, p3⟩ := q; exact ⟨us, by rw [upd_ne hne]; exact p1, VlAll.unl hf (fun _ z => by cases z) _ _ p2, p3⟩
      | dT es => obtain ⟨us, p1, p2, p3⟩ := q; exact ⟨us, by rw [upd_ne hne]; exact p1, ⟨p2.1, VlAll.unl hf (fun _ z => by cases z) _ _ p2.2⟩, p3⟩
      | dK es => obtain ⟨us, p1, p2, p3⟩ := q; exact ⟨us, by rw [upd_ne hne]; exact p1, ⟨p2.1, VlAll.unl hf (fun _ z => by cases z) _ _ p2.2⟩, p3⟩
      | lT _ => exact q.elim
      | xo x => exact OwnX.unl hf (fun _ z => by cases z) hne q
    · exact hc.elim
  · exact h.elim
/-! the keys of a locked dict -/
def kD : Key → PyData
  | .inl i => .int i
  | .inr x => .str x
def keyD (ks : List Key) : PyData := .tuple (ks.map kD)
theorem vl_kD : ∀ ks : List Key, VlAll K H (ks.map kV) (ks.map kD)
  | [] => .nil
  | .inl i :: ks => .cons (.int i) (vl_kD ks)
  | .inr x :: ks => .cons (.str x) (vl_kD ks)
def keysAt : Option (Option C) → M (List PyData)
  | some (some (.bor (.lT ds))) => .ret (ds.map fun kv => keyD kv.1)
  | _ => .fail
def gKeys (i : Nat) (ρ : Ro) : M (List PyData) := keysAt ρ[i]?
theorem ri_keys {i : Nat} {s : Bool} : RI K s (iKeys (tVar i)) (gKeys i) := by
  intro tp He Hq ρ σ H Q r h
  unfold gKeys keysAt at h
  split at h
  · rename_i ds e
    obtain ⟨v, h1, a, ev, h2⟩ := r.at_ i _ e
    subst ev
    obtain ⟨vs, ⟨⟨o, q1⟩, q4⟩, q2, q3⟩ := r.bor h2
    refine ⟨.ref a, h1, a, o, rfl, .inr ⟨vs, q1, (show ∀ J H1 pa, _ from h) _ H [] .refl r.tok rfl ?_ (fun _ m => by simp at m) (fun _ _ _ _ m => by simp at m)⟩⟩
    intro H' im _
    have hf := im.frz _ _ _ q1
    have hl := q2.len
    refine ⟨⟨hf, by rw [List.length_map, ← hl]; exact Nat.le_refl _⟩, fun j d ej => ?_⟩
    rw [List.getElem?_map] at ej
    cases ed : ds[j]? with
    | none => rw [ed] at ej; cases ej
    | some kv =>
      rw [ed] at ej
      cases ej
      have hj : j < ds.length := (List.getElem?_eq_some_iff.mp ed).1
      refine ⟨⟨hf, by omega⟩, fun x H'' y => ?_⟩
      obtain ⟨rfl, k, v, q, ek, rfl, hq⟩ := y
      have : k = kv.1 := by
        have := congrArg (fun l : List (List Key) => l[j]?) q2.1
        simp only [List.getElem?_map, ek, ed, Option.map_some] at this
        exact Option.some.inj this
      subst this
      exact ⟨fun _ _ z => z, .tup hq (vl_kD _)⟩
  · exact h.elim
end
end Cs

set_option maxRecDepth 100000
set_option maxHeartbeats 4000000
/-! {k: v for ..} with keys that are tuples -/
namespace L2
open PySem PySem.Spec PyProof.Rows
/-- P holds of the block that a comprehension opens -/
def InBlk (X : Cx) (sc : Scope) (P : Cx → Prop) : Prop := ∀ (s : Shared) (H : Hp) (C : Addr) (cl : List (Str × Addr)) (fp : List Addr), P (X.blk s H sc (compEnvC sc cl C X.env) fp)
/-- one turn's end: the pair is laid into the new dict at D -/
def PutT (D : Addr) (Nx : Hp → Prop) (y z : V) (H : Hp) : Prop := ∃ (es : List (List Key × V)) (k : List Key) (q : Addr), y = .ref q ∧ H q = some (.tup (k.map kV)) ∧ H D = some (.dT es) ∧ es.length < sizeLine ∧ Nx (upd H D (.dT (putK es k z)))
def tDcT (wi : TI) (g : TG) (tt : TT) (tk tv : TE) (vs : List Nat) : TE := fun σ H Q => wi σ H fun J H1 => ∀ D, H1 D = none →
  ∃ W : Nat → Nat → Hp → Prop, (∃ m, W 0 m (upd H1 D (.dT []))) ∧ ∀ i m G, W i m G → (J.stop i G ∧ Q (.ref D) G) ∨
    (J.go i G ∧ ∃ Nx : Hp → Prop, (∀ G', Nx G' → ∃ m', m' < m ∧ W (i + 1) m' G') ∧
      ∀ x G', J.yld i G x G' → g x (wipe σ vs) G' fun σ2 H2 => wipe σ2 vs = wipe σ vs ∧ tt σ2 H2 fun b H3 => if b = true then tk σ2 H3 fun y H4 => tv σ2 H4 fun z H5 => PutT D Nx y z H5 else Nx H3)
section
variable {X : Cx}
theorem putT_ok {pins : List (Addr × Obj)} {σ : St} {H : Hp} {s : Shared} {E : Value → Shared → Prop} {D : Addr} {Nx : Hp → Prop} {y z : V} {u r : Value} {Q : Unit → Shared → Prop} (hu : X.A.units < cLine) (I : Inv X pins σ H s) (p : PutT D Nx y z H)
    (ry : RelV y u) (rz : RelV z r) (h : ∀ G t, Nx G → Inv X pins σ G t → Q () t) : wpAny (model X.prog X.w) X.A (dictSet D u r) Q E s := by
  obtain ⟨es, k, q, rfl, hq, hD, hz, nx⟩ := p
  cases (show u = Value.ref q from ry)
  obtain ⟨_, nm, xs, rel, dd⟩ := dt_of I.hok hD
  have len := Paired.length rel
  have more := length_putK es k z
  refine wpAny_dictSet_heap (hsz := by rw [← len]; omega) (show (tupleKind (mixKind X.prog X.w)).room X.A from hu) (key_of I.hok hq) dd fun h' dd' same => h _ _ nx ?_
  obtain ⟨o, a1, a2, b1, b2, b3, b4, _, b5⟩ := dd'
  have keep : ∀ c ys, H c = some (.tup ys) → upd H D (.dT (putK es k z)) c = some (.tup ys) := fun c ys ec => by
    have ne : c ≠ D := fun w => by rw [w, hD] at ec; cases ec
    rw [upd_ne ne, ec]
  exact d_write I (by rw [hD]; trivial) same ⟨o, b1⟩ ⟨by omega, nm, storedH xs k q r, (rel.put k hq rz).keeps keep, o, a1, a2, b1, b2, b3, b4, b5⟩
theorem newT_ok {pins : List (Addr × Obj)} {σ : St} {H : Hp} {s : Shared} (I : Inv X pins σ H s) : Inv X pins σ (upd H s.heap.objs.size (.dT [])) { s with heap := s.heap.push { cls := .type "dict", data := .dict #[] } } :=
  I.laid (t' := s.toks) (fun _ _ e => Heap.get?_push_of_some _ e) (Nat.le_refl _) (dt_empty s.heap I.big)
variable {kx vx tg iter : Expr} {ifs : List Expr} {sc : Scope} {own : List (Str × Nat)} {pos : Pos} {wi : TI} {g : TG} {tt : TT} {tk tv : TE}
theorem dcT_core {pins : List (Addr × Obj)} {s : Shared} {σ : St} {H : Hp} {Q : VK} {pos' : Pos} {use : Option (Value → Sem Unit)} {Qf : Value → Shared → Prop}
    (hu : X.A.units < cLine) (calm : X.calm = true) (nd : X.N.Nodup) (I : Inv X pins σ H s) (src : PI X tg iter wi) (ok : BlkOk X.N X.env.scope sc own)
    (ptg : InBlk X sc fun Y => PG Y tg g) (pif : InBlk X sc fun Y => PTs Y ifs tt) (pk : InBlk X sc fun Y => PE Y kx tk) (pv : InBlk X sc fun Y => PE Y vx tv) (fold : ∀ x, foldedSetIterable iter X.env x = pure x)
    (h : tDcT wi g tt tk tv (own.map (·.2)) σ H Q)
    (fin : ∀ D C t m G, Inv X pins σ G t → Q (.ref D) G → t.heap.Ns C m → FpOk X pins G C → compPost (model X.prog X.w) X.A X.xe use Qf (.ref D) C (.ok .next) t) :
    wpAny (model X.prog X.w) X.A (comprehension (.DictComp kx vx [⟨tg, iter, ifs, 0⟩] sc pos) sc X.env pos' newDict false (eval iter X.env) use) Qf X.xe s := by
  have clo : closureFor sc X.env = pure (cloFrom X.env.cells sc.names []) := closure_ok fun y hy e => (ok.free y hy e).elim (fun k => I.ok.has _ (.inl k)) fun k => I.ok.has _ (.inr k)
  refine wpAny_comprehension_free rfl fold clo ok.kind (fun y hy e => (ok.uniq y hy).trans (congrArg some e)) ?_
  refine thn (src.run pins s σ H _ I h) fun _ s1 w1 => thn w1 fun _ s2 w2 => ?_
  obtain ⟨it, fp, tn, J, G0, rfl, I2, T, at2, fp2, walk⟩ := w2
  refine wpAny_newObj_type (newEnv_comp ?_)
  have I3 := newT_ok I2
  obtain ⟨W, ⟨m0, w0⟩, turn⟩ := walk s2.heap.objs.size (I2.hok.fresh (Nat.le_refl _))
  generalize hD : s2.heap.objs.size = D at I3 w0 turn
  generalize h3 : ({ s2 with heap := s2.heap.push { cls := .type "dict", data := .dict #[] } } : Shared) = s3 at I3
  have e3 : s3.heap = s2.heap.push { cls := .type "dict", data := .dict #[] } := by rw [← h3]
  have small : ∀ b ∈ fp, b < D := fun b hb => by
    obtain ⟨o, e, _⟩ := T.obj _ _ at2 b hb
    rw [← hD]; exact Heap.lt_size e
  have fp3 : ∀ b ∈ fp, FpOk X pins (upd G0 D (.dT [])) b ∧ b < s3.heap.objs.size := fun b hb =>
    ⟨⟨by rw [upd_ne (Nat.ne_of_lt (small b hb))]; exact (fp2 b hb).1, (fp2 b hb).2⟩, by rw [e3, Heap.size_push, hD]; exact Nat.lt_succ_of_lt (small b hb)⟩
  have at3 : tn 0 s3.heap := T.keep _ _ _ at2 fun b _ o e => by rw [e3]; exact Heap.get?_push_of_some _ e
  have I4 := block_start I3 ok nd fp3
  generalize hG : upd G0 D (.dT []) = G3 at I3 I4 w0 fp3
  have p1 := ptg s3 G3 s3.heap.objs.size (cellsFrom (s3.heap.objs.size + 1) sc.names (cloFrom X.env.cells sc.names [])) fp
  have p2 := pif s3 G3 s3.heap.objs.size (cellsFrom (s3.heap.objs.size + 1) sc.names (cloFrom X.env.cells sc.names [])) fp
  have p3 := pk s3 G3 s3.heap.objs.size (cellsFrom (s3.heap.objs.size + 1) sc.names (cloFrom X.env.cells sc.names [])) fp
  have p4 := pv s3 G3 s3.heap.objs.size (cellsFrom (s3.heap.objs.size + 1) sc.names (cloFrom X.env.cells sc.names [])) fp
  have zero : ∀ b ∈ fp, G3 b = none := fun b hb => (fp3 b hb).1.1
  show codeAny _ _ (.compStart (.DictComp kx vx [⟨tg, iter, ifs, 0⟩] sc pos) 0 (.ref it) (.ref D) (compEnvC sc (cellsFrom (s3.heap.objs.size + 1) sc.names (cloFrom X.env.cells sc.names [])) s3.heap.objs.size X.env)) (compPost (model X.prog X.w) X.A X.xe use Qf (.ref D) s3.heap.objs.size) { s3 with heap := pushCells (s3.heap.push { cls := .type "dict", data := .dict #[] }) sc.names }
  generalize hY : compEnvC sc (cellsFrom (s3.heap.objs.size + 1) sc.names (cloFrom X.env.cells sc.names [])) s3.heap.objs.size X.env = ce at I4 p1 p2 p3 p4 ⊢
  have loc : ce.locals = s3.heap.objs.size := by rw [← hY]; rfl
  generalize h4 : ({ s3 with heap := pushCells (s3.heap.push { cls := .type "dict", data := .dict #[] }) sc.names } : Shared) = s4 at I4 ⊢
  have at4 : tn 0 s4.heap := T.keep _ _ _ at3 fun b _ o e => by rw [← h4]; exact pushCells_keeps _ _ _ _ (Heap.get?_push_of_some _ e)
  have fpY : ∀ {τ : St} {G : Hp} {t : Shared}, Inv (X.blk s3 G3 sc ce fp) [] τ G t → (∀ b ∈ fp, G b = none) → ∀ b ∈ fp, FpOk (X.blk s3 G3 sc ce fp) [] G b := fun {τ G t} J0 z b hb =>
    ⟨z b hb, (J0.ok.exf b hb).1, J0.ok.exfs b hb, .inl hb, (J0.ok.exf b hb).2, fun p hp => by cases hp⟩
  have loop : codeAny (model X.prog X.w) X.A (.compLoop (.DictComp kx vx [⟨tg, iter, ifs, 0⟩] sc pos) 0 (.ref it) (.ref D) ce) (compPost (model X.prog X.w) X.A X.xe use Qf (.ref D) s3.heap.objs.size) s4 := by
    refine compLoop_anyD (fun n t => ∃ i G, Inv (X.blk s3 G3 sc ce fp) [] (wipe σ (own.map (·.2))) G t ∧ tn i t.heap ∧ (∀ b ∈ fp, G b = none) ∧ W i n G) ?_ m0 ⟨0, G3, I4, at4, zero, w0⟩
    rintro n s5 ⟨i, G5, I5, at5, z5, w5⟩
    rcases turn i n G5 w5 with ⟨stop, over⟩ | ⟨go, Nx, less, step⟩
    · refine thnF (T.done (X.blk s3 G3 sc ce fp) rfl rfl rfl calm i [] s5 _ G5 (fun _ _ => False) I5 (fpY I5 z5) at5 stop) fun _ s6 ⟨ended, I6⟩ => ?_
      subst ended
      have I7 : Inv X pins σ G5 s6 := I3.call' (ch := fp) I6.os I6.base I6.hok I6.bare fun b hb =>
        have w := (fp3 b hb).1.2
        ⟨w.2.2.1, w.1, w.2.2.2.1, w.2.2.2.2⟩
      have free := I6.free
      obtain ⟨m, names, _⟩ := I6.loc
      rw [show (X.blk s3 G3 sc ce fp).env.locals = s3.heap.objs.size from loc] at free names
      exact fin D _ s6 m G5 I7 over names (I3.fpOk (Nat.le_refl _) free)
    · refine thnF (T.item (X.blk s3 G3 sc ce fp) rfl rfl rfl calm i [] s5 _ G5 (fun _ _ => False) I5 (fpY I5 z5) at5 go) fun _ s6 ⟨u, came, w6⟩ => ?_
      subst came
      refine thnF w6 fun _ s7 ⟨x, G7, I7, rx, yl, at7, z7⟩ => ?_
      have I8 := I7.pinned (fpY I7 z7) (T.obj _ _ at7)
      refine thnF (p1.run _ s7 _ G7 x u _ I8 rx (step x G7 yl)) fun _ s8 ⟨σ8, G8, I9, same, q8⟩ => ?_
      refine thnF (p2.run _ s8 σ8 G8 _ I9 q8) fun b s9 ⟨G9, I10, q9⟩ => ?_
      have next : ∀ {t : Shared} {G : Hp}, Inv (X.blk s3 G3 sc ce fp) ([] ++ pinsAt fp s7.heap) σ8 G t → Nx G → ∃ m, m < n ∧ ∃ i G, Inv (X.blk s3 G3 sc ce fp) [] (wipe σ (own.map (·.2))) G t ∧ tn i t.heap ∧ (∀ b ∈ fp, G b = none) ∧ W i m G := fun {t G} Jt nx => by
        obtain ⟨m', lt, w'⟩ := less G nx
        have pin := fun (c : Addr) (hc : c ∈ fp) (o : Obj) (e : s7.heap.get? c = some o) => Jt.pin (c, o) (List.mem_append_right _ (List.mem_append_right _ (mem_pinsAt hc e)))
        have old : Inv (X.blk s3 G3 sc ce fp) [] (wipe σ (own.map (·.2))) G t := (Jt.unpinned (pins := [])).weak (by rw [← same, wipe_length]) fun j v e => by
          rw [← same] at e
          exact (wipe_some e).1
        refine ⟨m', lt, i + 1, G, old, T.keep _ _ _ at7 fun c hc o e => (pin c hc o e).1, fun c hc => ?_, w'⟩
        obtain ⟨o, e, _⟩ := T.obj _ _ at7 c hc
        exact (pin c hc o e).2.1
      dsimp only at q9
      by_cases hb : b = true
      · rw [if_pos hb] at q9 ⊢
        refine thnF (p3.run _ s9 σ8 G9 _ I10 q9) fun kv s10 ⟨y, G10, I11, ry, q10⟩ => ?_
        refine thnF (p4.run _ s10 σ8 G10 _ I11 q10) fun vv s11 ⟨z, G11, I12, rz, p⟩ => ?_
        exact putT_ok (X := X.blk s3 G3 sc ce fp) hu I12 p ry rz fun G t nx It => next It nx
      · rw [if_neg hb] at q9 ⊢
        exact next I10 q9
  exact codeAny_compStart_dict loop (T.self X.A 0 _ _ _ at4 loop)
/-- as a value -/
theorem pe_dcT (hu : X.A.units < cLine) (calm : X.calm = true) (nd : X.N.Nodup) (src : PI X tg iter wi) (ok : BlkOk X.N X.env.scope sc own) (ptg : InBlk X sc fun Y => PG Y tg g) (pif : InBlk X sc fun Y => PTs Y ifs tt)
    (pk : InBlk X sc fun Y => PE Y kx tk) (pv : InBlk X sc fun Y => PE Y vx tv) (fold : ∀ x, foldedSetIterable iter X.env x = pure x := by intro _; rfl) : PE X (.DictComp kx vx [⟨tg, iter, ifs, 0⟩] sc pos) (tDcT wi g tt tk tv (own.map (·.2))) := by
  refine ⟨fun pins s σ H Q I h => ?_⟩
  rw [arm_eval_DictComp]
  refine dcT_core hu calm nd I src ok ptg pif pk pv fold h fun D C t m G It q names fr => ⟨m, names, fun h' same => ?_⟩
  obtain ⟨f0, f1, _, f3, f4, f5⟩ := fr
  exact ⟨.ref D, G, It.turned (t' := t.toks) (fun b o hb e => (same.2 b hb).trans e) f0 f1 f3 f4 f5, rfl, q⟩
/-- given to a name of the def's own -/
theorem ps_setDcT {i : Nat} {y : Str} {py spos : Pos} (hu : X.A.units < cLine) (calm : X.calm = true) (nd : X.N.Nodup) (hy : X.N[i]? = some y) (hyl : X.env.scope.names.lookup y = some .local)
    (hsw : swapsWith (.DictComp kx vx [⟨tg, iter, ifs, 0⟩] sc pos) (some (.Name y py)) spos.line X.env = pure true) (src : PI X tg iter wi) (ok : BlkOk X.N X.env.scope sc own) (ptg : InBlk X sc fun Y => PG Y tg g) (pif : InBlk X sc fun Y => PTs Y ifs tt)
    (pk : InBlk X sc fun Y => PE Y kx tk) (pv : InBlk X sc fun Y => PE Y vx tv) (fold : ∀ x, foldedSetIterable iter X.env x = pure x := by intro _; rfl) :
    PS X (.Assign [.Name y py] (.DictComp kx vx [⟨tg, iter, ifs, 0⟩] sc pos) spos) (tAsg (tDcT wi g tt tk tv (own.map (·.2))) (gName i)) := by
  refine ⟨fun pins s σ H D I h => ?_⟩
  rw [exec_Assign_Name_used _ _ _ _ hsw]
  refine wpAny_bind (wpAny_standAt (wpAny_bind ?_))
  show wpAny _ X.A (do let _ ← comprehension (.DictComp kx vx [⟨tg, iter, ifs, 0⟩] sc pos) sc X.env (firstIterPos [⟨tg, iter, ifs, 0⟩] pos) newDict false (eval iter X.env) (some (assign (.Name y py) X.env))) _ _ s
  have h' : tDcT wi g tt tk tv (own.map (·.2)) σ H (fun x G => gName i x σ G D.nx) := h
  refine wpAny_bind (thn (dcT_core (Qf := fun _ t => SP X pins D .next t) hu calm nd I src ok ptg pif pk pv fold h' fun L C t m G It q names fr => ?_) fun _ t hq => wpAny_pure (wpAny_pure hq))
  show wpAny _ _ (assign (.Name y py) X.env (.ref L)) _ _ _
  refine wpAny_assign_Name (store_ok2 (v := V.ref L) It nd hy (.inl hyl) rfl (fun s2 I2 ⟨a, sb, ha⟩ => ?_) (.inr hyl))
  obtain ⟨f0, f1, _, f3, f4, f5⟩ := fr
  have apart : C ≠ a := ha.elim (fun z => z ▸ f1) fun z e => f4 y a z e.symm
  exact ⟨m, names.sameBut sb apart, fun h3 same => ⟨_, G, I2.turned (t' := s2.toks) (fun b o hb e => (same.2 b hb).trans e) f0 f1 f3 f4 f5, q⟩⟩
theorem sw_dict {gs : List Comprehension} {py : Pos} {y : Str} {l : Nat} {env : Env} (hk : env.scope.kind = .function) (hy : env.scope.names.lookup y = some .local) (hl : (py.line == pos.line) = true)
    (ha : (sc.names.any fun (n, k) => n == y && (k == .local || k == .cell)) = false) : swapsWith (.DictComp kx vx gs sc pos) (some (.Name y py)) l env = pure true := by
  have k1 : env.kindOf y = some .local := hy
  have k2 : env.blockKind = .function := by unfold Env.blockKind; rw [hk]; rfl
  unfold swapsWith
  simp only [k2, k1, ha, Expr.pos, hl]
  rfl
end
end L2

set_option maxRecDepth 100000
set_option maxHeartbeats 4000000
/-! dict comprehensions, steps over dicts -/
namespace Cs
open PySem PySem.Spec PyProof.Rows L2
section
variable {tp : Option (Addr × Addr)} {K : PySem.W.Frag} [WP K] {H H' H'' H0 H1 H2 He : Hp} {Hq : Hp} {σ : L2.St} {ρ : Ro}
def putC (acc : List (List Key × PyData)) : C → C → Option (List (List Key × PyData))
  | .val kd, .val vd => (match keyT kd with
    | some k => if lenOk (acc.length + 1) = true then some (putD acc k vd) else none
    | none => none)
  | _, _ => none
def dcL (a : C → Ro → M Ro) (c : Ro → M Bool) (gk gv : Ro → M C) : List PyData → Ro → List (List Key × PyData) → M C
  | [], _, acc => .ret (.own (.dT acc))
  | d :: ds, ρ, acc => (a (.val d) ρ).bind fun ρ1 => (c ρ1).bind fun b => if b = true then (gk ρ1).bind (fun ck => (gv ρ1).bind fun cv => match putC acc ck cv with
    | some acc' => dcL a c gk gv ds ρ acc'
    | none => .fail) else dcL a c gk gv ds ρ acc
def gDcT (its : Ro → M (List PyData)) (a : C → Ro → M Ro) (c : Ro → M Bool) (gk gv : Ro → M C) (vs : List Nat) (ρ : Ro) : M C := (its ρ).bind fun ds => dcL a c gk gv ds (wipeR ρ vs) []
theorem re_dcT {wi : TI} {g : TG} {tt : TT} {tk tv : TE} {its : Ro → M (List PyData)} {a : C → Ro → M Ro} {c : Ro → M Bool} {gk gv : Ro → M C} {sl vs : List Nat} {s : Bool} (hi : RI K s wi its) (hg : RG K g a sl) (hc : RT K tt c) (hk : RE K tk gk) (hv : RE K tv gv)
    (hs : ∀ j ∈ sl, j ∈ vs) : RE K (tDcT wi g tt tk tv vs) (gDcT its a c gk gv vs) := by
  intro tp He Hq ρ σ H Q r h
  refine hi tp He Hq ρ σ H _ r (wp0_mono (fun ds hd => ?_) (wp0_bind.mp h))
  intro J H1 pa g1 t1 f w np _ D hD
  have r1 := r.go g1 t1
  have tD : TNe tp D := t1.tne hD
  have zl : sizeLine = 16777216 := by decide
  have upG : ∀ {H2 : Hp} {o : HO}, GrT tp H1 H2 → GrT tp H1 (upd H2 D o) := fun {H2 o} g b u e n => by
    have hne : b ≠ D := fun z => by subst z; rw [hD] at e; cases e
    rw [upd_ne hne]
    exact g b u e n
  have upT : ∀ {H2 : Hp} {o : HO}, TOk tp H2 → TOk tp (upd H2 D o) := fun {H2 o} t a l e => (t a l e).upd (tD a l e).1 (tD a l e).2
  refine ⟨fun i m H' => m = ds.length - i ∧ i ≤ ds.length ∧ ∃ acc vsa, H' D = some (.dT vsa) ∧ KvR K H' vsa acc ∧ GrT tp H1 H' ∧ TOk tp H' ∧ wp0 (dcL a c gk gv (ds.drop i) (wipeR ρ vs) acc) (Post tp K H Q),
    ⟨ds.length, rfl, Nat.zero_le _, [], [], upd_same, ⟨rfl, .nil⟩, upG .refl, upT t1, hd⟩, ?_⟩
  rintro i m H' ⟨rfl, hi, acc, vsa, eD, hda, g', t', h'⟩
  obtain ⟨st, go⟩ := w H' (g'.im t1) (fun p hp o e => g' p o e (np p hp))
  by_cases hlt : i < ds.length
  · obtain ⟨d, hd'⟩ : ∃ d, ds[i]? = some d := ⟨ds[i], List.getElem?_eq_getElem hlt⟩
    obtain ⟨go1, yl⟩ := go i d hd'
    have ed : ds.drop i = d :: ds.drop (i + 1) := by
      rw [List.drop_eq_getElem_cons hlt]
      have : ds[i] = d := by rw [List.getElem?_eq_getElem hlt] at hd'; exact Option.some.inj hd'
      rw [this]
    rw [ed] at h'
    refine .inr ⟨go1, fun H2 => ∃ acc vsa, H2 D = some (.dT vsa) ∧ KvR K H2 vsa acc ∧ GrT tp H1 H2 ∧ TOk tp H2 ∧ wp0 (dcL a c gk gv (ds.drop (i + 1)) (wipeR ρ vs) acc) (Post tp K H Q),
      fun H2 ⟨acc, vsa, q⟩ => ⟨ds.length - (i + 1), by omega, rfl, hlt, acc, vsa, q⟩, fun x H2 y => ?_⟩
    obtain ⟨sm, dp⟩ := yl x H2 y
    have rw' := ((r1.go g' t').wipe vs)
    refine hg tp He Hq _ _ H' H2 x (.val d) _ rw' (.of sm) (t'.same sm) ⟨dp, rfl⟩ (wp0_mono (fun ρ1 h1 => ?_) (wp0_bind.mp (show wp0 ((a (.val d) (wipeR ρ vs)).bind _) _ from h')))
    intro σ2 off r2
    refine ⟨wipe_off off hs, ?_⟩
    refine hc tp He Hq ρ1 σ2 H2 _ r2 (wp0_mono (fun b hb => ?_) (wp0_bind.mp h1))
    intro H3 g3 t3
    have g13 : GrT tp H1 H3 := (g'.trans (.of sm)).trans g3
    have eD3 : H3 D = some (.dT vsa) := g3 D _ (sm D _ eD) tD.ne
    have im3 : Im H' H3 := (Im.same sm).trans (g3.im (t'.same sm))
    cases b with
    | true =>
      rw [if_pos rfl] at hb ⊢
      refine hk tp He Hq ρ1 σ2 H3 _ (r2.go g3 t3) (wp0_mono (fun ck hck => ?_) (wp0_bind.mp hb))
      intro y H4 g4 t4 ry
      refine hv tp He Hq ρ1 σ2 H4 _ ((r2.go g3 t3).go g4 t4) (wp0_mono (fun cv hcv => ?_) (wp0_bind.mp hck))
      intro v H5 g5 t5 rv
      have g35 := g4.trans g5
      have eD5 : H5 D = some (.dT vsa) := g35 D _ eD3 tD.ne
      have im5 : Im H' H5 := im3.trans (g35.im t3)
      have ry5 := ry.gr g5 t4
      cases ep : putC acc ck cv with
      | none => rw [ep] at hcv; exact hcv.elim
      | some acc' =>
        rw [ep] at hcv
        unfold putC at ep
        split at ep
        · rename_i kd vd
          split at ep
          · rename_i k ek
            split at ep
            · rename_i lo
              cases ep
              have lo' := lenOk_le lo
              obtain ⟨q, rfl, hq⟩ := keyT_vl ry5.1 ek
              have hda5 := hda.imlf im5 acc _ trivial
              exact ⟨vsa, k, q, rfl, hq, eD5, by rw [hda5.len]; omega, putD acc k vd, putK vsa k v, upd_same, (hda5.put rv.1).imlf (Im.mut eD5 trivial) _ _ trivial, upG (g13.trans g35), upT t5, hcv⟩
            · cases ep
          · cases ep
        · cases ep
    | false =>
      rw [if_neg Bool.false_ne_true] at hb ⊢
      exact ⟨acc, vsa, eD3, hda.imlf im3 acc _ trivial, g13, t3, hb⟩
  · have e1 : i = ds.length := by omega
    subst e1
    rw [List.drop_length] at h'
    exact .inl ⟨st, (show Post tp K H Q (.own (.dT acc)) from h') _ H' (g1.trans g') t' ⟨D, rfl, g1.free t1 hD, tD, vsa, eD, hda, trivial⟩⟩
theorem u1 {k : Nat} {A : Around} (r : Room k A) : A.units + 1 < cLine := by have := r.un; omega
theorem u0 {k : Nat} {A : Around} (r : Room k A) : A.units < cLine := by have := r.un; omega
/-! steps -/
theorem gDcT_eq {its : Ro → M (List PyData)} {a : C → Ro → M Ro} {c : Ro → M Bool} {gk gv : Ro → M C} {vs : List Nat} : gDcT its a c gk gv vs ρ = (its ρ).bind fun ds => dcL a c gk gv ds (wipeR ρ vs) [] := (rfl)
theorem gLc2_eq {its its1 : Ro → M (List PyData)} {a a1 : C → Ro → M Ro} {c c1 : Ro → M Bool} {e : Ro → M C} {vs vs1 : List Nat} : gLc2 its a c its1 a1 c1 e vs vs1 ρ = (its ρ).bind fun ds => lcL2 a c its1 a1 c1 e vs1 ds (wipeR ρ vs) [] := (rfl)
theorem gLock_eq {i : Nat} {g : Ro → M C} : gLock i g ρ = lockAt i g ρ ρ[i]? := (rfl)
theorem lockAt_o {i : Nat} {g : Ro → M C} {ds : List (List Key × PyData)} : lockAt i g ρ (some (some (.own (.dT ds)))) = (g (ρ.set i (some (.bor (.lT ds))))).bind lockC := (rfl)
theorem lockC_v {d : PyData} : lockC (.val d) = .ret (.val d) := (rfl)
theorem lockC_o {o : PO} : lockC (.own o) = .ret (.own o) := (rfl)
theorem gKeys_eq {i : Nat} : gKeys i ρ = keysAt ρ[i]? := (rfl)
theorem keysAt_b {ds : List (List Key × PyData)} : keysAt (some (some (.bor (.lT ds)))) = .ret (ds.map fun kv => keyD kv.1) := (rfl)
theorem mDPut_eq {i : Nat} {gv gk : Ro → M C} : mDPut i gv gk ρ = dputAt i gv gk ρ ρ[i]? := (rfl)
theorem dputAt_T {i : Nat} {gv gk : Ro → M C} {ds : List (List Key × PyData)} : dputAt i gv gk ρ (some (some (.own (.dT ds)))) = (gv ρ).bind fun cv => (gk ρ).bind fun ck => kPutT i ρ ds cv ck := (rfl)
theorem dputAt_K {i : Nat} {gv gk : Ro → M C} {ds : List (Key × PyData)} : dputAt i gv gk ρ (some (some (.own (.dK ds)))) = (gv ρ).bind fun cv => (gk ρ).bind fun ck => kPutK i ρ ds cv ck := (rfl)
theorem gNewT_eq : gNewT ρ = .ret (.own (.dT [])) := (rfl)
theorem gNewK_eq : gNewK ρ = .ret (.own (.dK [])) := (rfl)
theorem gDGet1_eq {gd gy : Ro → M C} : gDGet1 gd gy ρ = (gd ρ).bind fun c => if c.isDict = true then (gy ρ).bind (oDGet1 c) else .fail := (rfl)
theorem asgR_dT {i : Nat} {ds : List (List Key × PyData)} {x : Option C} : aAt ρ i (.own (.dT ds)) (some x) = .ret (ρ.set i (some (.own (.dT ds)))) := (rfl)
end
end Cs

set_option maxRecDepth 100000
set_option maxHeartbeats 1000000
/-! more steps over lists as data -/
namespace Cs
open PySem PySem.Spec PyProof.Rows L2
section
variable {K : PySem.W.Frag} [WP K] {ρ : Ro}
theorem kForV_l {i : Nat} {a : C → Ro → M Ro} {b : Ro → M Res} {ds : List PyData} : kForV ρ i a b (some (some (.val (.list ds)))) = forL a b ds ρ := (rfl)
theorem truD_l {ds : List PyData} : truD (.list ds) = .ret (!ds.isEmpty) := (rfl)
theorem kItV_l {s : Bool} {ds : List PyData} : (if s = true then itVs (.val (.list ds)) else itV (.val (.list ds))) = .ret ds := by cases s <;> rfl
end
end Cs

set_option maxRecDepth 100000
set_option maxHeartbeats 1000000
/-! xs[k] = e, step by step -/
namespace Cs
open PySem PySem.Spec PyProof.Rows L2
section
variable {K : PySem.W.Frag} [WP K] {ρ : Ro}
def kSet (i : Nat) (ρ : Ro) (ds : List PyData) : C → C → M Res
  | .val d, .val (.int j) => (match ixN ds.length j with
    | some n => .ret (.nx (setOwn i (ds.set n d) ρ))
    | none => .fail)
  | _, _ => .fail
def setAt (i : Nat) (g gi : Ro → M C) (ρ : Ro) : Option (Option C) → M Res
  | some (some (.own (.lst ds))) => (g ρ).bind fun c => (gi ρ).bind (kSet i ρ ds c)
  | _ => .fail
theorem mSetAt_eq {i : Nat} {g gi : Ro → M C} : mSetAt i g gi ρ = setAt i g gi ρ ρ[i]? := by
  unfold mSetAt
  generalize ρ[i]? = o
  match o with
  | some (some (.own (.lst ds))) =>
    show M.bind _ _ = M.bind _ _
    congr 1
  | some (some (.own (.dT _))) => rfl
  | some (some (.own (.dK _))) => rfl
  | some (some (.own (.lT _))) => rfl
  | some (some (.own (.xo _))) => rfl
  | some (some (.val _)) => rfl
  | some (some (.bor _)) => rfl
  | some (some .tape) => rfl
  | some none => rfl
  | none => rfl
theorem setAt_o {i : Nat} {g gi : Ro → M C} {ds : List PyData} : setAt i g gi ρ (some (some (.own (.lst ds)))) = (g ρ).bind fun c => (gi ρ).bind (kSet i ρ ds c) := (rfl)
theorem kSet_v {i : Nat} {ds : List PyData} {d : PyData} {j : Nat} (h : j < ds.length) : kSet i ρ ds (.val d) (.val (.int (j : Int))) = .ret (.nx (ρ.set i (some (.own (.lst (ds.set j d)))))) := by
  show (match ixN ds.length (j : Int) with | some n => (M.ret (.nx (setOwn i (ds.set n d) ρ)) : M Res) | none => .fail) = _
  have : ixN ds.length (j : Int) = some j := by
    unfold ixN
    simp
    omega
  rw [this]
  rfl
end
end Cs

set_option maxRecDepth 100000
set_option maxHeartbeats 4000000
/-! dict(zip(a tuple, a tuple)) -/
namespace Cs
open PySem PySem.W PyProof.Rows PyProof.V PySem.Spec PySem.Calls L2
section
variable {prog : Program} {w : World} {A : Around} {E : Value → Shared → Prop} {s : Shared}
/-- the next pair of a zip over two tuples whose last pair is still kept by somebody -/
theorem zt_item {z TI TO T i1 i2 l1 l2 : Addr} {f : Bool} {oT : Obj} {k1 k2 : Nat} {xs ys : Array Value} {x y : Value} {Q : Option Value → Shared → Prop} (D : ZipApart z TI TO i1 i2 l1 l2)
    (Z : IsZipHeld s.heap z TI TO T f) (kept : s.heap.get? T = some oT) (ins : IsPair s.heap TI (.ref i1) (.ref i2)) (I1 : s.heap.IsTupleIter i1 l1 k1) (I2 : s.heap.IsTupleIter i2 l2 k2)
    (L1 : s.heap.IsTuple l1 xs) (L2' : s.heap.IsTuple l2 ys) (ex : xs[k1]? = some x) (ey : ys[k2]? = some y)
    (q : ∀ g, IsZipHeld g z TI TO T true → g.IsTupleIter i1 l1 (k1 + 1) → g.IsTupleIter i2 l2 (k2 + 1) → IsPair g s.heap.objs.size x y → (∀ c o, c ≠ z → c ≠ i1 → c ≠ i2 → s.heap.get? c = some o → g.get? c = some o) → Q (some (.ref s.heap.objs.size)) { s with heap := g }) :
    wpAny (model prog w) A (pyNext (.ref z)) Q E s := by
  have ty : s.TypeIs (.ref z) "zip" := ⟨_, Z, rfl⟩
  unfold pyNext
  refine wpAny_bind (wpAny_attempt (wpAny_callSpecial?_slot (name := Str.ofString "__next__") ty F.slot_zip_next (wpAny_call_entry F.slot_zip_next ty F.entry_zip_next ?_ (F.args_zip_next_1 _))))
  show wpAny _ _ (field (.ref z) 2 >>= _) _ _ _; refine wpAny_bind (wpAny_field Z rfl (x := .bool false) rfl ?_)
  show wpAny _ _ (field (.ref z) 3 >>= _) _ _ _; refine wpAny_bind (wpAny_field Z rfl (x := .ref TI) rfl ?_)
  refine wpAny_bind (wpAny_seqItems ins rfl ?_); show wpAny _ _ (Builtin.SmallTypes.ownedTupleIsFree (.ref z) >>= _) _ _ _
  refine wpAny_bind (wpAny_tupleHeld_zip Z kept fun g1 Z1 b1 => ?_); simp only [Bool.false_eq_true, if_false]; refine wpAny_bind ?_
  rw [← Array.forIn_toList]; simp only [List.forIn_cons, List.forIn_nil]
  refine wpAny_bind (wpAny_bind (wpAny_holding ?_)); show wpAny _ _ (Builtin.SmallTypes.nextOf (.ref i1) >>= _) _ _ _
  refine wpAny_bind (RZ.nextOf_tuple_item (s := { s with heap := g1 }) (I1.extBut b1.extBut D.i1z) (L1.extBut b1.extBut D.l1z) ex fun g2 J1 b2 => wpAny_pure ?_); refine wpAny_pure ?_
  refine wpAny_bind (wpAny_bind (wpAny_holding ?_)); show wpAny _ _ (Builtin.SmallTypes.nextOf (.ref i2) >>= _) _ _ _
  refine wpAny_bind (RZ.nextOf_tuple_item (s := { s with heap := g2 }) ((I2.extBut b1.extBut D.i2z).extBut b2.extBut D.i12.symm) ((L2'.extBut b1.extBut D.l2z).extBut b2.extBut D.l2i1) ey fun g3 J2 b3 => wpAny_pure ?_); refine wpAny_pure (wpAny_pure ?_)
  show wpAny _ _ (newTuple [x, y] >>= _) _ _ _; refine wpAny_bind (wpAny_newTuple ?_); refine wpAny_pure ⟨_, rfl, wpAny_pure ?_⟩
  have e3 : g3.objs.size = s.heap.objs.size := by rw [b3.1, b2.1, b1.1]
  have up : ∀ c o, c ≠ z → c ≠ i1 → c ≠ i2 → s.heap.get? c = some o → g3.get? c = some o := fun c o c1 c2 c3 e => b3.extBut _ _ c3 (b2.extBut _ _ c2 (b1.extBut _ _ c1 e))
  have Z3 : IsZipHeld g3 z TI TO T true := b3.extBut _ _ D.i2z.symm (b2.extBut _ _ D.i1z.symm Z1)
  have J1' : g3.IsTupleIter i1 l1 (k1 + 1) := J1.extBut b3.extBut D.i12
  show Q (some (.ref g3.objs.size)) _
  rw [e3]
  refine q _ (Heap.get?_push_of_some _ Z3) (J1'.at fun o e => Heap.get?_push_of_some _ e) (J2.at fun o e => Heap.get?_push_of_some _ e) ?_ fun c o c1 c2 c3 e => Heap.get?_push_of_some _ (up c o c1 c2 c3 e)
  show (g3.push _).get? _ = _
  rw [← e3]; exact Heap.get?_push_size _ rfl
/-- and its end -/
theorem zt_end {z TI TO T i1 i2 l1 l2 : Addr} {f : Bool} {oT : Obj} {k1 k2 : Nat} {xs ys : Array Value} {Q : Option Value → Shared → Prop} (hh : A.handled = none) (D : ZipApart z TI TO i1 i2 l1 l2)
    (Z : IsZipHeld s.heap z TI TO T f) (kept : s.heap.get? T = some oT) (ins : IsPair s.heap TI (.ref i1) (.ref i2)) (I1 : s.heap.IsTupleIter i1 l1 k1) (I2 : s.heap.IsTupleIter i2 l2 k2)
    (L1 : s.heap.IsTuple l1 xs) (L2' : s.heap.IsTuple l2 ys) (fin : xs[k1]? = none ∨ ys[k2]? = none)
    (q : ∀ g, (∀ c o, c ≠ z → c ≠ i1 → c ≠ i2 → s.heap.get? c = some o → g.get? c = some o) → Q none { s with heap := g }) : wpAny (model prog w) A (pyNext (.ref z)) Q E s := by
  have ty : s.TypeIs (.ref z) "zip" := ⟨_, Z, rfl⟩
  unfold pyNext
  refine wpAny_bind (wpAny_attempt (wpAny_callSpecial?_slot (name := Str.ofString "__next__") ty F.slot_zip_next (wpAny_call_entry F.slot_zip_next ty F.entry_zip_next ?_ (F.args_zip_next_1 _))))
  show wpAny _ _ (field (.ref z) 2 >>= _) _ _ _; refine wpAny_bind (wpAny_field Z rfl (x := .bool false) rfl ?_)
  show wpAny _ _ (field (.ref z) 3 >>= _) _ _ _; refine wpAny_bind (wpAny_field Z rfl (x := .ref TI) rfl ?_)
  refine wpAny_bind (wpAny_seqItems ins rfl ?_); show wpAny _ _ (Builtin.SmallTypes.ownedTupleIsFree (.ref z) >>= _) _ _ _
  refine wpAny_bind (wpAny_tupleHeld_zip Z kept fun g1 Z1 b1 => ?_); simp only [Bool.false_eq_true, if_false]; refine wpAny_bind ?_
  rw [← Array.forIn_toList]; simp only [List.forIn_cons, List.forIn_nil]
  refine wpAny_bind (wpAny_bind (wpAny_holding ?_)); show wpAny _ _ (Builtin.SmallTypes.nextOf (.ref i1) >>= _) _ _ _
  cases ex : xs[k1]? with
  | none =>
    refine wpAny_bind (RZ.nextOf_tuple_end (s := { s with heap := g1 }) hh (I1.extBut b1.extBut D.i1z) (L1.extBut b1.extBut D.l1z) ex fun g2 e b2 he => ?_)
    obtain ⟨u, hu, cu⟩ := he; refine wpAny_bind (wpAny_isInstance (T := "StopIteration") (b := true) ⟨u, hu, cu⟩ isSubtype_stop ?_)
    exact wpAny_pure (q _ fun c o c1 c2 _ h => b2 _ _ c2 (b1.extBut _ _ c1 h))
  | some x =>
    have ey : ys[k2]? = none := by rcases fin with h | h; (rw [ex] at h; cases h); exact h
    refine wpAny_bind (RZ.nextOf_tuple_item (s := { s with heap := g1 }) (I1.extBut b1.extBut D.i1z) (L1.extBut b1.extBut D.l1z) ex fun g2 J1 b2 => wpAny_pure ?_); refine wpAny_pure ?_
    refine wpAny_bind (wpAny_bind (wpAny_holding ?_)); show wpAny _ _ (Builtin.SmallTypes.nextOf (.ref i2) >>= _) _ _ _
    refine wpAny_bind (RZ.nextOf_tuple_end (s := { s with heap := g2 }) hh ((I2.extBut b1.extBut D.i2z).extBut b2.extBut D.i12.symm) ((L2'.extBut b1.extBut D.l2z).extBut b2.extBut D.l2i1) ey fun g3 e b3 he => ?_)
    obtain ⟨u, hu, cu⟩ := he; refine wpAny_bind (wpAny_isInstance (T := "StopIteration") (b := true) ⟨u, hu, cu⟩ isSubtype_stop ?_)
    exact wpAny_pure (q _ fun c o c1 c2 c3 h => b3 _ _ c3 (b2.extBut _ _ c2 (b1.extBut _ _ c1 h)))
end
section
variable {prog : Program} {w : World}
def ZtOk (z TI TO i1 i2 l1 l2 : Addr) (xs ys : Array Value) (h : Heap) : Prop := IsZip h z TI TO .none ∧ IsPair h TI (.ref i1) (.ref i2) ∧ (∃ a b, IsPair h TO a b) ∧ h.IsTupleIter i1 l1 0 ∧ h.IsTupleIter i2 l2 0 ∧ h.IsTuple l1 xs ∧ h.IsTuple l2 ys
def ZtSt (z TI TO i1 i2 l1 l2 d : Addr) (xs ys : Array Value) (i : Nat) (h : Heap) : Prop := IsPair h TI (.ref i1) (.ref i2) ∧ h.IsTupleIter i1 l1 i ∧ h.IsTupleIter i2 l2 i ∧ h.IsTuple l1 xs ∧ h.IsTuple l2 ys ∧
  ((IsZip h z TI TO .none ∧ ∃ a b, IsPair h TO a b) ∨ ∃ T f oT, IsZipHeld h z TI TO T f ∧ h.get? T = some oT ∧ T ≠ z ∧ T ≠ i1 ∧ T ≠ i2 ∧ T ≠ d)
theorem zt_arg (z TI TO i1 i2 l1 l2 : Addr) (D : ZipApart z TI TO i1 i2 l1 l2) (xs ys : Array Value) :
    PairArg prog w "zip" z [z, TI, TO, i1, i2, l1, l2] [z, TO, i1, i2] (min xs.size ys.size) (fun i k v => xs[i]? = some k ∧ ys[i]? = some v) (ZtOk z TI TO i1 i2 l1 l2 xs ys) := by
  constructor
  case type => exact fun s ok => ⟨_, ok.1, rfl⟩
  case notDict => decide
  case keep => exact fun h h' ⟨a1, a2, ⟨a, b, a3⟩, a4, a5, a6, a7⟩ k => ⟨k _ _ a1, k _ _ a2, ⟨a, b, k _ _ a3⟩, a4.at fun o e => k _ o e, a5.at fun o e => k _ o e, a6.at fun o e => k _ o e, a7.at fun o e => k _ o e⟩
  case there =>
    rintro h ⟨a1, a2, ⟨a, b, a3⟩, ⟨_, a4, _⟩, ⟨_, a5, _⟩, ⟨_, a6, _⟩, ⟨_, a7, _⟩⟩ c hc
    simp only [List.mem_cons, List.not_mem_nil, or_false] at hc
    rcases hc with rfl | rfl | rfl | rfl | rfl | rfl | rfl
    all_goals first | exact ⟨_, a1⟩ | exact ⟨_, a2⟩ | exact ⟨_, a3⟩ | exact ⟨_, a4⟩ | exact ⟨_, a5⟩ | exact ⟨_, a6⟩ | exact ⟨_, a7⟩
  case sub => intro b hb; simp only [List.mem_cons, List.not_mem_nil, or_false] at hb ⊢; rcases hb with rfl | rfl | rfl | rfl <;> simp
  case noKeys => exact fun A s Q E hA ok h => getAttrOr_miss_zip ok.1 rfl rfl rfl zip_no_keys (by decide +kernel) hA h
  case iter =>
    rintro A s d Q E hA ⟨a1, a2, ⟨a, b, a3⟩, a4, a5, a6, a7⟩ hd hdf h
    simp only [List.mem_cons, List.not_mem_nil, or_false, not_or] at hdf
    obtain ⟨d1, d2, d3, d4, d5, d6, d7⟩ := hdf
    refine wpAny_pyIter_zip a1 (h z [z, TO, i1, i2] (ZtSt z TI TO i1 i2 l1 l2 d xs ys) s.heap s.toks ?_ ⟨a2, a4, a5, a6, a7, .inl ⟨a1, a, b, a3⟩⟩ (fun _ _ e => e) fun b hb => .inl hb)
    constructor
    case off => intro m; simp only [List.mem_cons, List.not_mem_nil, or_false] at m; rcases m with e | e | e | e; (exact d1 e); (exact d3 e); (exact d4 e); exact d5 e
    case frame =>
      rintro i g1 g2 ⟨b2, b4, b5, b6, b7, bz⟩ k
      refine ⟨k _ _ (Ne.symm d2) b2, b4.at fun o e => k _ o (Ne.symm d4) e, b5.at fun o e => k _ o (Ne.symm d5) e, b6.at fun o e => k _ o (Ne.symm d6) e, b7.at fun o e => k _ o (Ne.symm d7) e, ?_⟩
      rcases bz with ⟨z1, a, b, z2⟩ | ⟨T, f, oT, z1, z2, r1, r2, r3, r4⟩
      · exact .inl ⟨k _ _ (Ne.symm d1) z1, a, b, k _ _ (Ne.symm d3) z2⟩
      · exact .inr ⟨T, f, oT, k _ _ (Ne.symm d1) z1, k _ _ r4 z2, r1, r2, r3, r4⟩
    case item =>
      rintro i s1 Q1 E1 hi ⟨b2, b4, b5, b6, b7, bz⟩ hds q
      have ex := Array.getElem?_eq_getElem (Nat.lt_of_lt_of_le hi (Nat.min_le_left ..))
      have ey := Array.getElem?_eq_getElem (Nat.lt_of_lt_of_le hi (Nat.min_le_right ..))
      have lt : ∀ {c o}, s1.heap.get? c = some o → s1.heap.objs.size ≠ c := fun e => Nat.ne_of_gt (Heap.lt_size e)
      have n1 : s1.heap.objs.size ≠ i1 := let ⟨_, e, _⟩ := b4; lt e
      have n2 : s1.heap.objs.size ≠ i2 := let ⟨_, e, _⟩ := b5; lt e
      rcases bz with ⟨z1, a, b, z2⟩ | ⟨T, f, oT, z1, z2, r1, r2, r3, r4⟩
      · refine RZ.pyNext_zipT_item D z1 b2 z2 b4 b5 b6 b7 ex ey fun g c1 c2 c3 c4 c5 c6 k => ?_
        exact q s1.heap.objs.size _ _ g s1.toks ⟨ex, ey⟩ (.inl ⟨_, c5, rfl, _, rfl⟩) ⟨k _ _ D.TIz D.TITO D.TIi1 D.TIi2 b2, c3, c4, b6.at fun o e => k _ o D.l1z D.l1TO D.l1i1 D.l1i2 e, b7.at fun o e => k _ o D.l2z D.l2TO D.l2i1 D.l2i2 e, .inr ⟨s1.heap.objs.size, false, _, c1, c5, lt z1, n1, n2, Nat.ne_of_gt hds⟩⟩
          fun c o hc e => k c o (fun x => hc (by simp [x])) (fun x => hc (by simp [x])) (fun x => hc (by simp [x])) (fun x => hc (by simp [x])) e
      · refine zt_item D z1 z2 b2 b4 b5 b6 b7 ex ey fun g c1 c3 c4 c5 k => ?_
        exact q s1.heap.objs.size _ _ g s1.toks ⟨ex, ey⟩ (.inl ⟨_, c5, rfl, _, rfl⟩) ⟨k _ _ D.TIz D.TIi1 D.TIi2 b2, c3, c4, b6.at fun o e => k _ o D.l1z D.l1i1 D.l1i2 e, b7.at fun o e => k _ o D.l2z D.l2i1 D.l2i2 e, .inr ⟨T, true, oT, c1, k _ _ r1 r2 r3 z2, r1, r2, r3, r4⟩⟩
          fun c o hc e => k c o (fun x => hc (by simp [x])) (fun x => hc (by simp [x])) (fun x => hc (by simp [x])) e
    case done =>
      rintro s1 Q1 E1 ⟨b2, b4, b5, b6, b7, bz⟩ q
      have fin : xs[min xs.size ys.size]? = none ∨ ys[min xs.size ys.size]? = none := by
        rcases Nat.le_total xs.size ys.size with e | e
        · exact .inl (by rw [Nat.min_eq_left e]; exact Array.getElem?_eq_none (Nat.le_refl _))
        · exact .inr (by rw [Nat.min_eq_right e]; exact Array.getElem?_eq_none (Nat.le_refl _))
      rcases bz with ⟨z1, a, b, z2⟩ | ⟨T, f, oT, z1, z2, r1, r2, r3, r4⟩
      · exact RZ.pyNext_zipT_end hA D z1 b2 z2 b4 b5 b6 b7 fin fun g k => q g s1.toks fun c o hc e => k c o (fun x => hc (by simp [x])) (fun x => hc (by simp [x])) (fun x => hc (by simp [x])) (fun x => hc (by simp [x])) e
      · exact zt_end hA D z1 z2 b2 b4 b5 b6 b7 fin fun g k => q g s1.toks fun c o hc e => k c o (fun x => hc (by simp [x])) (fun x => hc (by simp [x])) (fun x => hc (by simp [x])) e
end
theorem key_is {k : Key} {u : Value} (h : RelV (kV k) u) : keyIs k u = true := by
  cases k with
  | inl i => obtain ⟨t, rfl⟩ := h; exact keyIs_int i t
  | inr x => obtain ⟨t, rfl⟩ := h; exact keyIs_str x t
theorem kv_zip : ∀ {ks : List Key} {ys : List V} {us : List Value}, Vals ys us → KV (ks.zip ys) (ks.zip us)
  | [], _, _, _ => .nil
  | _ :: _, [], _, h => by cases h; exact .nil
  | k :: ks, y :: ys, _, h => by
    cases h with
    | cons r rr => exact .cons ⟨rfl, r⟩ (kv_zip rr)
def tDZip (K : PySem.W.Frag) (ta : TA) : TE := fun σ H Q => ta σ H fun vs H1 => ∃ (a b : Addr) (ks : List Key) (ys : List V), vs = [.ref a, .ref b] ∧ SqT K H1 a (ks.map kV) ∧ SqT K H1 b ys ∧ ks.length = ys.length ∧ ks.Nodup ∧ ks.length ≤ 100000 ∧
  ∀ p, H1 p = none → Q (.ref p) (upd H1 p (.dK (ks.zip ys)))
theorem pe_dzip {X : Cx} {e e2 : Expr} {ta : TA} {p p2 q pos : Pos} (hc : X.calm = true) (hg : Gl X "dict") (hm : X.mg "dict" = none) (hg2 : Gl X "zip") (hm2 : X.mg "zip" = none) (ha : PA X [e, e2] ta)
    (hs : starEach [e, e2] X.env = (false, eval e X.env) :: starEach [e2] X.env := by rfl) (hpl : (backTo q (starEach [e2] X.env)).any (·.1) = false := by rfl)
    (na : starEach [.Call (.Name "zip" p2) [e, e2] [] q] X.env = (false, eval (.Call (.Name "zip" p2) [e, e2] [] q) X.env) :: starEach [] X.env := by rfl) : PE X (.Call (.Name "dict" p) [.Call (.Name "zip" p2) [e, e2] [] q] [] pos) (tDZip X.K ta) := by
  refine ⟨fun pins s σ H Q I h => ?_⟩
  refine Call_ (ld_blt I hg hm boot_dict ?_)
  refine callWith_type1 (args_cons (Call_ (ld_blt I hg2 hm2 boot_zip (callWith_type1 (thn (ha.run q pins s σ H _ I h) fun us s1 ⟨vs, H1, I1, r1, q1⟩ => ?_) hs hpl))) na) rfl rfl
  obtain ⟨a, b, ks, ys, rfl, ta, tb, hl, nd, sm, q1⟩ := q1
  cases r1 with
  | cons r rr =>
    cases rr with
    | cons r' rr =>
      cases rr; cases r; cases r'
      obtain ⟨its, ra, pa, _⟩ := I1.tuple ta
      obtain ⟨its2, rb, pb, _⟩ := I1.tuple tb
      have la : its.length = ks.length := by rw [← ra.length, List.length_map]
      have lb : its2.length = ks.length := by rw [← rb.length, hl]
      obtain ⟨o1, ho1, _⟩ := id pa
      obtain ⟨o2, ho2, _⟩ := id pb
      refine RZ.call_zipT (show s1.heap.IsTuple a its.toArray from pa) (show s1.heap.IsTuple b its2.toArray from pb) fun h' hz hTI hTO h1 h2 hsz hk => args_nil ?_
      have D := PySem.W.ktu_apart s1.heap.objs.size a b (Heap.lt_size ho1) (Heap.lt_size ho2)
      have ok : ZtOk (s1.heap.objs.size + 4) (s1.heap.objs.size + 2) (s1.heap.objs.size + 3) s1.heap.objs.size (s1.heap.objs.size + 1) a b its.toArray its2.toArray h' :=
        ⟨hz, hTI, ⟨_, _, hTO⟩, h1, h2, Heap.IsTuple.at (show s1.heap.IsTuple a its.toArray from pa) fun o e => hk _ o e, Heap.IsTuple.at (show s1.heap.IsTuple b its2.toArray from pb) fun o e => hk _ o e⟩
      have size : min its.toArray.size its2.toArray.size = ks.length := by rw [List.size_toArray, List.size_toArray, la, lb, Nat.min_self]
      have have_ : PairsHave (mixKind X.prog X.w) (min its.toArray.size its2.toArray.size) (fun i k v => its.toArray[i]? = some k ∧ its2.toArray[i]? = some v) (ks.zip its2) := by
        refine ⟨by rw [size, List.length_zip, lb, Nat.min_self], fun i key v ⟨e1, e2⟩ => ?_⟩
        rw [List.getElem?_toArray] at e1 e2
        have hi : i < ks.length := by rw [← la]; exact (List.getElem?_eq_some_iff.mp e1).1
        have ek : (ks.map kV)[i]? = some (kV ks[i]) := by rw [List.getElem?_map, List.getElem?_eq_getElem hi]; rfl
        obtain ⟨u, e3, r⟩ := Vals.get ra ek
        rw [e1] at e3
        cases e3
        exact ⟨ks[i], List.getElem?_zip_eq_some.mpr ⟨List.getElem?_eq_getElem hi, e2⟩, key_is r⟩
      refine call_dict_pairs (knd := mixKind X.prog X.w) (zt_arg _ _ _ _ _ _ _ D its.toArray its2.toArray) (I1.ok.hd hc) ok have_ (by rw [size, show sizeLine = 16777216 by decide]; omega) fun h2 tk hD hk2 => ?_
      have keys : ((ks.zip its2).map (·.1)).Nodup := by
        have : (ks.zip its2).map (·.1) = ks := List.map_fst_zip (by rw [lb]; exact Nat.le_refl _)
        rw [this]; exact nd
      rw [merged_nil_of_nodup _ keys] at hD
      have up : ∀ b u, s1.heap.get? b = some u → h2.get? b = some u := fun b u e => by
        have lt := Heap.lt_size e
        refine hk2 b u (fun m => ?_) (hk b u e)
        simp only [List.mem_cons, List.not_mem_nil, or_false] at m
        have no : ∀ n : Nat, ¬ (s1.heap.objs.size + n < s1.heap.objs.size) := fun n => by omega
        rcases m with z | z | z | z <;> rw [z] at lt
        · exact no 4 lt
        · exact no 3 lt
        · exact no 0 lt
        · exact no 1 lt
      have big : sysModules < s1.heap.objs.size := I1.big
      refine ⟨.ref h'.objs.size, _, I1.laid (a := h'.objs.size) (o := .dK (ks.zip ys)) (t' := tk) up (by rw [hsz]; omega) ⟨?_, ?_, ks.zip its2, kv_zip rb, hD⟩, rfl, q1 _ (I1.hok.fresh (by rw [hsz]; omega))⟩
      · rw [List.length_zip, show sizeLine = 16777216 by decide]; omega
      · exact beq_eq_false_iff_ne.mpr (by rw [hsz]; exact Ne.symm (Nat.ne_of_lt (Nat.lt_of_lt_of_le big (Nat.le_add_right _ 5))))
section
variable {tp : Option (Addr × Addr)} {K : PySem.W.Frag} [WP K] {H H' H'' H0 H1 He Hq : Hp} {σ : L2.St} {ρ : Ro}
def dzD (xs ys : List PyData) : M C := match keys1 xs with
  | some ks => if xs.length = ys.length ∧ ks.Nodup ∧ xs.length ≤ 100000 then .ret (.own (.dK (ks.zip ys))) else .fail
  | none => .fail
def oDZip : List C → M C
  | [.val (.tuple xs), .val (.tuple ys)] => dzD xs ys
  | _ => .fail
def gDZip (gs : Ro → M (List C)) (ρ : Ro) : M C := (gs ρ).bind oDZip
theorem gDZip_eq {gs : Ro → M (List C)} : gDZip gs ρ = (gs ρ).bind oDZip := (rfl)
theorem oDZip_t {xs ys : List PyData} : oDZip [.val (.tuple xs), .val (.tuple ys)] = dzD xs ys := (rfl)
theorem keys1_len : ∀ {ds : List PyData} {ks : List Key}, keys1 ds = some ks → ks.length = ds.length
  | [], _, e => by cases e; rfl
  | d :: ds, ks, e => by
    unfold keys1 at e
    split at e
    · rename_i k ks' e1 e2
      cases e
      rw [List.length_cons, List.length_cons, keys1_len e2]
    · cases e
theorem kvr_zip : ∀ {ks : List Key} {vs : List V} {ds : List PyData}, VlAll K H vs ds → KvR K H (ks.zip vs) (ks.zip ds)
  | [], _, _, _ => ⟨rfl, .nil⟩
  | _ :: _, [], _, h => by cases h; exact ⟨rfl, .nil⟩
  | k :: ks, v :: vs, _, h => by
    cases h with
    | cons r rr =>
      obtain ⟨h1, h2⟩ := kvr_zip (ks := ks) rr
      exact ⟨by rw [List.zip_cons_cons, List.zip_cons_cons, List.map_cons, List.map_cons, h1], .cons r h2⟩
theorem re_dzip {ta : TA} {gs : Ro → M (List C)} (h1 : RA K ta gs) : RE K (tDZip K ta) (gDZip gs) := by
  intro tp He Hq ρ σ H Q r h
  refine h1 tp He Hq ρ σ H _ r (wp0_mono (fun c hc => ?_) (wp0_bind.mp h))
  intro vs H1 g1 t1 rx
  unfold oDZip at hc
  split at hc
  · rename_i xs ys
    obtain ⟨v, u, rfl, r1, r2⟩ := rx.two
    obtain ⟨a, vs, rfl, q1, q2, _⟩ := r1.tup
    obtain ⟨b, us, rfl, p1, p2, _⟩ := r2.tup
    unfold dzD at hc
    split at hc
    · rename_i ks ek
      split at hc
      · rename_i c
        obtain ⟨c1, c2, c3⟩ := c
        have e := keys1_vl q2 ek
        subst e
        have kl := keys1_len ek
        refine ⟨a, b, ks, us, rfl, q1, p1, by rw [kl, c1, p2.len], c2, by rw [kl]; exact c3, fun p hp => ?_⟩
        have hc : Post tp K H Q (.own (.dK (ks.zip ys))) := hc
        have sm : Same H1 (upd H1 p (.dK (ks.zip us))) := Same.new hp
        exact hc _ _ (g1.trans (.of sm)) (t1.same sm) ⟨p, rfl, g1.free t1 hp, t1.tne hp, _, upd_same, KvR.imlf (Im.new hp) _ _ (kvr_zip p2) trivial, trivial⟩
      · exact hc.elim
    · exact hc.elim
  · exact hc.elim
end
end Cs

set_option maxRecDepth 100000
set_option maxHeartbeats 4000000
/-! tuple(reversed(a tuple)) -/
namespace Cs
open PySem PySem.W PyProof.Rows PyProof.V PySem.Spec PySem.Calls L2
theorem rt_nolen : typeLookup (.type "reversed") "__len__" = pure none := by rw [typeLookup_type, builtinLookup_eq_fast]; kernel_rfl
theorem rt_hint : typeLookup (.type "reversed") "__length_hint__" = pure (some (.builtin "reversed.__length_hint__")) := by rw [typeLookup_type, builtinLookup_eq_fast]; kernel_rfl
theorem rt_hslot : Slot "reversed" "__length_hint__" "reversed.__length_hint__" :=
  .of (owner := "reversed") (n := "__length_hint__") (by rw [typeLookup_type, builtinLookup_eq_fast]; kernel_rfl) (by decide +kernel) (by decide +kernel) (by decide +kernel) (by first | exact .inl (by decide +kernel) | exact .inr (by decide +kernel)) (by rw [isSubtype_type]; kernel_rfl)
theorem rt_hentry : entryFor table "reversed.__length_hint__" = some Builtin.«reversed.__length_hint__» := entryFor_of_tree (by kernel_rfl)
theorem rt_hargs (a : Value) : argsOk "reversed.__length_hint__" ⟨[a], []⟩ := by
  unfold argsOk; rw [signature?_of (id := "reversed.__length_hint__") (n := ['_', '_', 't', 'n', 'i', 'h', '_', 'h', 't', 'g', 'n', 'e', 'l', '_', '_']) (o := ['d', 'e', 's', 'r', 'e', 'v', 'e', 'r']) (by kernel_rfl) RT.owner_rt]; kernel_rfl
theorem as_int (n : Int) (u : Tok) : asInt? (.int n u) = pure (some n) := rfl
theorem isTup_at {h h' : Heap} {t : Addr} {items : Array Value} (x : IsTup h t items) (e : ∀ o, h.get? t = some o → h'.get? t = some o) : IsTup h' t items := let ⟨o, ho, r⟩ := x; ⟨o, e _ ho, r⟩
section
variable {prog : Program} {w : World} {A : Around} {E : Value → Shared → Prop} {s : Shared}
/-- how many are to come -/
theorem rt_size {it t : Addr} {i : Int} {items : Array Value} {Q : Value → Shared → Prop} (Z : RT.IsRt s.heap it t i) (T : IsTup s.heap t items) (hn : items.size ≤ sizeLine) (hi : i + 1 ≤ (items.size : Int))
    (q : Q (.int (i + 1) (s.toks + 2)) { s with toks := s.toks + 3 }) : wpAny (model prog w) A (call (.builtin "reversed.__length_hint__") [.ref it]) Q E s := by
  obtain ⟨o, ho, hc, hd⟩ := id Z
  rw [sizeLine_eq] at hn
  refine wpAny_call_entry rt_hslot Z.typeIs rt_hentry ?_ (rt_hargs _)
  unfold Builtin.«reversed.__length_hint__»
  refine wpAny_bind (wpAny_of_eq (a := Value.ref it) rfl ?_)
  refine wpAny_bind (wpAny_field ho hd (x := .ref t) rfl ?_)
  rw [if_neg (show ¬ ((Value.ref t == Value.none) = true) from Bool.false_ne_true)]
  refine wpAny_bind (len_tuple T (by omega) ?_)
  refine wpAny_bind (wpAny_of_eq (a := some ((items.size : Nat) : Int)) rfl ?_)
  refine wpAny_bind (wpAny_field (s := { s with toks := s.toks + 1 + 1 }) ho hd (x := rawInt i) rfl ?_)
  show wpAny _ _ (if (items.size : Int) < i + 1 then _ else retInt (i + 1)) _ _ _
  rw [if_neg (by omega)]
  show wpAny _ _ (mkInt (i + 1) >>= fun v => ret v) _ _ _
  exact wpAny_bind (wpAny_mkInt (wpAny_pure ⟨_, rfl, q⟩))
theorem rt_lh {it t : Addr} {items : Array Value} {Q : Bool → Shared → Prop} (Z : RT.IsRt s.heap it t ((items.size : Int) - 1)) (T : IsTup s.heap t items) (hn : items.size ≤ sizeLine)
    (q : ∀ tk, Q (((items.size : Nat) : Int) != 0) { s with toks := tk }) : wpAny (model prog w) A (Builtin.List.listLengthHint (.ref it)) Q E s := by
  have ty : s.TypeIs (.ref it) "reversed" := Z.typeIs
  have fit : Builtin.List.listFitsIndex ((items.size : Nat) : Int) = true := by
    unfold Builtin.List.listFitsIndex; rw [sizeLine_eq] at hn; rw [Bool.and_eq_true]; exact ⟨decide_eq_true (by omega), decide_eq_true (by omega)⟩
  have few : Builtin.List.listTooLong ((items.size : Nat) : Int).toNat = false := by unfold Builtin.List.listTooLong; exact decide_eq_false (by rw [Int.toNat_natCast]; omega)
  unfold Builtin.List.listLengthHint
  refine wpAny_bind (wpAny_specialOf ty rt_nolen ?_); show wpAny _ A (specialOf (Value.ref it) (Str.ofString "__length_hint__") >>= _) _ _ _
  refine wpAny_bind (wpAny_specialOf ty rt_hint ?_); generalize hid : ("reversed.__length_hint__" : String) = id0
  wp_delta
  rw [show splitId id0 = some ("reversed", "__length_hint__") from by subst hid; decide +kernel]; subst hid
  refine wpAny_bind (wpAny_isInstance (b := true) ty (by rw [isSubtype_type]; kernel_rfl) ?_)
  show wpAny _ A (rule "list.length-hint.hint" >>= fun _ => _) _ _ _
  refine wpAny_bind (wpAny_rule ?_)
  refine wpAny_bind (wpAny_of_eq (rt_hslot.bind (.ref it)) ?_)
  refine wpAny_bind (wpAny_attempt (rt_size Z T hn (by omega) ?_))
  rw [show ((items.size : Int) - 1 + 1) = ((items.size : Nat) : Int) by omega]
  have pos : ¬ ((items.size : Nat) : Int) < 0 := by omega
  generalize ((items.size : Nat) : Int) = n at *
  refine wpAny_bind (wpAny_of_eq (as_int _ _) ?_)
  dsimp only
  rw [if_neg (by rw [fit]; decide)]
  rw [if_neg pos]
  rw [if_neg (by rw [few]; decide)]
  exact wpAny_pure (q _)
theorem rt_walks (hh : A.handled = none) (I t : Addr) (hne : t ≠ I) (items : Array Value) (hsz : items.size ≤ sizeLine) :
    Walks prog w A I [I, t] [I] items.size (fun i v => items[items.size - 1 - i]? = some v) (fun i h => i ≤ items.size ∧ RT.IsRt h I t ((items.size : Int) - 1 - (i : Int)) ∧ IsTup h t items) := by
  constructor
  case sub => intro b hb; rw [List.mem_singleton.mp hb]; exact List.mem_cons_self
  case frame => exact fun _ _ _ x k => ⟨x.1, x.2.1.at fun o e => k I (by simp) o e, isTup_at x.2.2 fun o e => k t (by simp) o e⟩
  case item =>
    rintro i s Q E hi ⟨h1, h2, h3⟩ hQ
    rw [show (items.size : Int) - 1 - (i : Int) = ((items.size - 1 - i : Nat) : Int) by omega] at h2
    have hx : items[items.size - 1 - i]? = some (items[items.size - 1 - i]'(by omega)) := Array.getElem?_eq_getElem (by omega)
    refine RT.next_rt_item h2 h3 hx hsz fun h' g1 g2 => ?_
    rw [show ((items.size - 1 - i : Nat) : Int) - 1 = (items.size : Int) - 1 - ((i + 1 : Nat) : Int) by omega] at g1
    exact hQ _ h' _ hx ⟨hi, g1, isTup_at h3 fun o eo => (g2.2 t hne).trans eo⟩ fun b o hb eo => g2.extBut b o (fun h => hb (by simp [h])) eo
  case done =>
    rintro s Q E ⟨_, h2, _⟩ hQ
    rw [show (items.size : Int) - 1 - (items.size : Int) = -1 by omega] at h2
    exact RT.next_rt_end hh h2 fun h' he => hQ h' s.toks fun b o hb eo => he b o (fun h => hb (by simp [h])) eo
  case self => exact fun _ _ _ _ x hQ => RT.iter_rt x.2.1 hQ
theorem rt_collect {it t : Addr} {items : Array Value} {Q : List Value → Shared → Prop} (hh : A.handled = none) (Z : RT.IsRt s.heap it t ((items.size : Int) - 1)) (T : IsTup s.heap t items) (hne : t ≠ it) (hn : items.size ≤ sizeLine)
    (hQ : ∀ (g : Heap) (tk : Nat) (acc : Array Value), (∀ b o, b ≠ it → s.heap.get? b = some o → g.get? b = some o) → ItemsOf (fun i v => items[items.size - 1 - i]? = some v) acc items.size → Q acc.toList { s with heap := g, toks := tk }) :
    wpAny (model prog w) A (collect (.ref it)) Q E s := by
  have W := (rt_walks (prog := prog) (w := w) (A := A.in1) hh it t hne items hn).toS
  obtain ⟨oi, hoi, _⟩ := id Z
  obtain ⟨ot, hot, _⟩ := id T
  have hSf : s.heap.objs.size ∉ [it, t] := fun m => by
    rcases List.mem_cons.mp m with z | z
    · exact Nat.ne_of_gt (Heap.lt_size hoi) z
    · exact Nat.ne_of_gt (Heap.lt_size hot) (List.mem_singleton.mp z)
  let g0 : Heap := s.heap.push { cls := .type "list", data := .seq ([] : List Value).toArray }
  have hS0 : g0.get? s.heap.objs.size = some { cls := .type "list", data := .seq ([] : List Value).toArray } := Heap.get?_push_size _ rfl
  have Z0 : RT.IsRt g0 it t ((items.size : Int) - 1) := Z.at fun o e => Heap.get?_push_of_some _ e
  have T0 : IsTup g0 t items := isTup_at T fun o e => Heap.get?_push_of_some _ e
  have ty : ({ s with heap := g0 } : Shared).TypeIs (.ref it) "reversed" := RT.IsRt.typeIs (s := { s with heap := g0 }) Z0
  have ns : Builtin.List.listSameRef (.ref s.heap.objs.size) (.ref it) = false := by simp [Builtin.List.listSameRef, Nat.ne_of_gt (Heap.lt_size hoi)]
  unfold collect
  refine wpAny_bind (wpAny_runValue (codeAny_builtin F.entry_proto_collect ?_)); rw [Around.under_plainId F.plain_proto_collect _]
  show wpAny _ A.in1 (newList [] >>= fun l' => again (.builtin "list.__iadd__" ⟨[l', .ref it], []⟩)) _ _ s; refine wpAny_bind (wpAny_newObj_type ?_)
  refine wpAny_pure ⟨plainId_quiet F.plain_list_iadd _, codeAny_builtin F.entry_list_iadd ?_⟩; rw [Around.under_plainId F.plain_list_iadd _]
  show wpAny _ A.in1 (Builtin.List.listExtendWith (.ref s.heap.objs.size) (.ref it) (.ref s.heap.objs.size)) _ _ _; unfold Builtin.List.listExtendWith
  refine wpAny_bind (wpAny_typeOf ty ?_); rw [if_neg (by rw [ns]; decide)]
  refine wpAny_bind (RT.iter_rt (s := { s with heap := g0 }) Z0 ?_); refine wpAny_bind (wpAny_holding ?_)
  refine rt_lh (s := { s with heap := g0 }) Z0 T0 hn fun tk => ?_
  have e0 : ((items.size : Nat) : Int) - 1 - ((0 : Nat) : Int) = (items.size : Int) - 1 := by omega
  by_cases hz : items.size = 0
  · rw [show ((((items.size : Nat) : Int)) != 0) = false by rw [hz]; rfl, if_neg (by decide)]
    have up : ∀ b o, b ≠ s.heap.objs.size → g0.get? b = some o → g0.get? b = some o := fun _ _ _ e => e
    have hS := hS0
    refine wpAny_pure ⟨plainId_quiet F.plain_extend_loop _, codeAny_extend_loopS W hn _ hSf _ items.size 0 _ _ _ rfl (Nat.zero_le _) ⟨Nat.zero_le _, by rw [e0]; exact Z0.at fun o e => up it o (Nat.ne_of_lt (Heap.lt_size hoi)) e, isTup_at T0 fun o e => up t o (Nat.ne_of_lt (Heap.lt_size hot)) e⟩ hS (ItemsOf.nil _) fun s2 acc c2 mv hS2 ha => ?_⟩
    show wpAny _ A (load s.heap.objs.size >>= _) _ _ s2; refine wpAny_bind (wpAny_load hS2 ?_); refine wpAny_pure ?_; rw [Moved.eq_with mv]
    refine hQ s2.heap s2.toks acc (fun b o hb e => mv.heap b o (fun m => ?_) (up b o (Nat.ne_of_lt (Heap.lt_size e)) (Heap.get?_push_of_some _ e))) ha
    rcases List.mem_cons.mp m with z | z
    · exact absurd (Heap.lt_size e) (by rw [z]; exact Nat.lt_irrefl _)
    · exact hb (List.mem_singleton.mp z)
  · rw [show ((((items.size : Nat) : Int)) != 0) = true from bne_iff_ne.mpr (by omega), if_pos (by rfl)]
    refine wpAny_bind (wpAny_rule ?_); refine wpAny_bind ?_
    show wpAny _ A.in1 (updateSeq s.heap.objs.size (·.push .none) >>= fun _ => updateSeq s.heap.objs.size (·.pop)) _ _ _
    refine wpAny_bind (wpAny_updateSeq hS0 rfl ?_)
    have hS1 := Heap.get?_update_self (Obj.mapSeq (·.push Value.none)) hS0 rfl
    refine wpAny_updateSeq hS1 rfl ?_
    have hS := Heap.get?_update_self (Obj.mapSeq (·.pop)) hS1 rfl
    have up : ∀ b o, b ≠ s.heap.objs.size → g0.get? b = some o → ((g0.update s.heap.objs.size (Obj.mapSeq (·.push Value.none))).update s.heap.objs.size (Obj.mapSeq (·.pop))).get? b = some o := fun b o hb e => (Heap.get?_update_other _ _ (Ne.symm hb)).trans ((Heap.get?_update_other _ _ (Ne.symm hb)).trans e)
    refine wpAny_pure ⟨plainId_quiet F.plain_extend_loop _, codeAny_extend_loopS W hn _ hSf _ items.size 0 _ _ _ rfl (Nat.zero_le _) ⟨Nat.zero_le _, by rw [e0]; exact Z0.at fun o e => up it o (Nat.ne_of_lt (Heap.lt_size hoi)) e, isTup_at T0 fun o e => up t o (Nat.ne_of_lt (Heap.lt_size hot)) e⟩ hS (ItemsOf.nil _) fun s2 acc c2 mv hS2 ha => ?_⟩
    show wpAny _ A (load s.heap.objs.size >>= _) _ _ s2; refine wpAny_bind (wpAny_load hS2 ?_); refine wpAny_pure ?_; rw [Moved.eq_with mv]
    refine hQ s2.heap s2.toks acc (fun b o hb e => mv.heap b o (fun m => ?_) (up b o (Nat.ne_of_lt (Heap.lt_size e)) (Heap.get?_push_of_some _ e))) ha
    rcases List.mem_cons.mp m with z | z
    · exact absurd (Heap.lt_size e) (by rw [z]; exact Nat.lt_irrefl _)
    · exact hb (List.mem_singleton.mp z)
theorem rt_tuple {it t : Addr} {items : Array Value} {Q : Value → Shared → Prop} (hh : A.handled = none) (Z : RT.IsRt s.heap it t ((items.size : Int) - 1)) (T : IsTup s.heap t items) (hne : t ≠ it) (hn : items.size ≤ sizeLine)
    (hQ : ∀ (g : Heap) (tk : Nat) (acc : Array Value), (∀ b o, b ≠ it → s.heap.get? b = some o → g.get? b = some o) → ItemsOf (fun i v => items[items.size - 1 - i]? = some v) acc items.size →
      Q (.ref g.objs.size) { s with heap := g.push { cls := .type "tuple", data := .seq acc }, toks := tk }) : wpAny (model prog w) A (call (.type "tuple") [.ref it]) Q E s := by
  have new : codeAny (model prog w) A.in1 (.call (.builtin "tuple.__new__") ⟨[.type "tuple", .ref it], []⟩) (wants (fun obj s₁ => s₁.TypeIs obj "tuple" ∧ Q obj s₁) E) s := by
    refine codeAny_of_tree ?_
    show wpAny _ A.in1.in1 (do checkBuiltinCall "tuple.__new__" ⟨[.type "tuple", .ref it], []⟩; again (.builtin "tuple.__new__" ⟨[.type "tuple", .ref it], []⟩)) _ _ s
    refine wpAny_bind (wpAny_of_eq (F.newCall_tuple_1 _) (wpAny_pure ⟨plainId_quiet F.plain_tuple_new _, codeAny_builtin F.entry_tuple_new ?_⟩)); rw [Around.under_plainId F.plain_tuple_new _]
    have f1 := sub_tuple_self
    have f2 := init_tuple_lookup
    have f3 := madeHere_tuple
    have ty : s.TypeIs (.ref it) "reversed" := Z.typeIs
    have h1 : A.in1.in1.handled = none := hh
    wp_walk using wpAny_typeOf ty, rt_collect (A := A.in1.in1) h1 Z T hne hn
    intro g tk acc k ha
    show wpAny _ _ (Builtin.Tuple.tupleExact acc.toList.toArray >>= fun v => ret v) _ _ _; unfold Builtin.Tuple.tupleExact
    refine wpAny_bind (wpAny_newObj_type ?_ (by show acc.toList.toArray.size ≤ sizeLine; simp only [Array.toArray_toList]; rw [ha.1]; exact hn)); refine wpAny_pure ?_
    rw [show acc.toList.toArray = acc by simp]
    exact ⟨⟨_, Heap.get?_push_size _ rfl, rfl⟩, hQ g tk acc k ha⟩
  refine callType_codes (Q₁ := fun obj s₁ => s₁.TypeIs obj "tuple" ∧ Q obj s₁) F.called_tuple (F.typeCall_tuple_1 _) F.entry_object_init new fun obj s₁ h₁ => ?_
  exact ⟨h₁.1, F.args_object_init_2 obj _, object_init_meets F.called_tuple.init.lookup F.called_tuple.made (by decide) prog w A.in1 _ s₁ ⟨h₁.1, rfl, h₁.2⟩⟩
end
def tTRev (K : PySem.W.Frag) (te : TE) : TE := fun σ H Q => te σ H fun v H1 => ∃ (a : Addr) (xs : List V), v = .ref a ∧ SqT K H1 a xs ∧ ∀ q, H1 q = none → Q (.ref q) (upd H1 q (.tup xs.reverse))
theorem pe_trev {X : Cx} {e : Expr} {te : TE} {p p2 pos pos2 : Pos} (hc : X.calm = true) (hg : Gl X "tuple") (hm : X.mg "tuple" = none) (hg2 : Gl X "reversed") (hm2 : X.mg "reversed" = none) (he : PE X e te)
    (hs : starEach [e] X.env = (false, eval e X.env) :: starEach [] X.env := by rfl)
    (na : starEach [.Call (.Name "reversed" p2) [e] [] pos2] X.env = (false, eval (.Call (.Name "reversed" p2) [e] [] pos2) X.env) :: starEach [] X.env := by rfl) : PE X (.Call (.Name "tuple" p) [.Call (.Name "reversed" p2) [e] [] pos2] [] pos) (tTRev X.K te) := by
  refine ⟨fun pins s σ H Q I h => ?_⟩
  refine Call_ (ld_blt I hg hm boot_tuple (callWith_type1 (args_cons (Call_ (ld_blt I hg2 hm2 boot_reversed (callWith_type1 (args_cons (thn (he.run pins s σ H _ I h) fun u s1 ⟨v, H1, I1, r1, q1⟩ => args_nil ?_) hs) hs rfl))) na) na rfl))
  obtain ⟨a, xs, rfl, hq, q⟩ := q1
  obtain rfl : u = Value.ref a := r1
  obtain ⟨its, rv, pt, hz⟩ := I1.tuple hq
  have sl := sizeLine_eq
  have hn : its.toArray.size ≤ sizeLine := by rw [List.size_toArray, ← rv.length]; exact hz
  refine RT.call_reversed_tup pt (fun A E Q k => len_tuple pt (by omega) k) (args_nil ?_)
  let g : Heap := s1.heap.push (RT.rtObj a ((its.toArray.size : Int) - 1))
  have I2 : Inv X pins σ H1 { s1 with heap := g, toks := s1.toks + 1 + 1 } := I1.kept (t' := s1.toks + 1 + 1) fun b o e => Heap.get?_push_of_some _ e
  obtain ⟨f0, f1, f2, f3, f4, f5⟩ := I1.fpOk (H' := H1) (b := s1.heap.objs.size) (Nat.le_refl _) (I1.hok.fresh (Nat.le_refl _))
  obtain ⟨ot, hot, _⟩ := id pt
  have hne : a ≠ s1.heap.objs.size := Nat.ne_of_lt (Heap.lt_size hot)
  refine rt_tuple (s := { s1 with heap := g, toks := s1.toks + 1 + 1 }) (I1.ok.hd hc) ⟨_, Heap.get?_push_size _ rfl, rfl, rfl⟩ (isTup_at pt fun o e => Heap.get?_push_of_some _ e) hne hn fun h' tk acc hk hi => ?_
  have I3 : Inv X pins σ H1 { s1 with heap := h', toks := tk } := I2.turned (t' := tk) (fun b o hb e => hk b o hb e) f0 f1 f3 f4 f5
  refine ⟨.ref h'.objs.size, upd H1 h'.objs.size (.tup xs.reverse), I3.laid (t' := tk) (fun c o e => Heap.get?_push_of_some _ e) (Nat.le_refl _) (show ObjOk X.prog X.w _ _ _ (.tup xs.reverse) from ⟨by rw [List.length_reverse]; exact hz, acc.toList, RT.vals_rev rv hi, ?_⟩), rfl, q _ (I3.hok.fresh (Nat.le_refl _))⟩
  rw [Array.toArray_toList]
  exact IsTup.new _ _
section
variable {tp : Option (Addr × Addr)} {K : PySem.W.Frag} [WP K] {H H' H'' H0 H1 He Hq : Hp} {σ : L2.St} {ρ : Ro}
def oTRev : C → M C
  | .val (.tuple ds) => .ret (.val (.tuple ds.reverse))
  | _ => .fail
def gTRev (g : Ro → M C) (ρ : Ro) : M C := (g ρ).bind oTRev
theorem gTRev_eq {g : Ro → M C} : gTRev g ρ = (g ρ).bind oTRev := (rfl)
theorem oTRev_t {ds : List PyData} : oTRev (.val (.tuple ds)) = .ret (.val (.tuple ds.reverse)) := (rfl)
theorem vlAll_rev : ∀ {vs : List V} {ds : List PyData}, VlAll K H vs ds → VlAll K H vs.reverse ds.reverse
  | _, _, .nil => .nil
  | _, _, .cons h r => by rw [List.reverse_cons, List.reverse_cons]; exact (vlAll_rev r).app (.cons h .nil)
theorem re_trev {te : TE} {g : Ro → M C} (h1 : RE K te g) : RE K (tTRev K te) (gTRev g) := by
  intro tp He Hq ρ σ H Q r h
  refine h1 tp He Hq ρ σ H _ r (wp0_mono (fun c hc => ?_) (wp0_bind.mp h))
  intro v H1 g1 t1 rx
  unfold oTRev at hc
  split at hc
  · rename_i ds
    obtain ⟨a, vs, rfl, q1, q2, _⟩ := rx.tup
    refine ⟨a, vs, rfl, q1, fun q hq => ?_⟩
    have hc : Post tp K H Q (.val (.tuple ds.reverse)) := hc
    have sm : Same H1 (upd H1 q (.tup vs.reverse)) := Same.new hq
    exact hc _ _ (g1.trans (.of sm)) (t1.same sm) ⟨.tup upd_same ((vlAll_rev q2).imlf (Im.new hq) _ _ rfl), rfl⟩
  · exact hc.elim
end
end Cs

set_option maxRecDepth 100000
set_option maxHeartbeats 4000000
/-! <= of two lists of ints -/
namespace Cs
open PySem PySem.W PyProof.Rows PyProof.V PySem.Spec PySem.Calls L2
def IntArr (items : Array Value) (ns : List Int) : Prop := items.size = ns.length ∧ ∀ j (h : j < items.size), ∃ t, items[j] = .int (ns.getD j 0) t
theorem lexLe_step {ns ms : List Int} {i : Nat} (h1 : i < ns.length) (h2 : i < ms.length) : lexLeI (ns.drop i) (ms.drop i) = if ns.getD i 0 = ms.getD i 0 then lexLeI (ns.drop (i + 1)) (ms.drop (i + 1)) else decide (ns.getD i 0 ≤ ms.getD i 0) := by
  rw [List.drop_eq_getElem_cons h1, List.drop_eq_getElem_cons h2, lexLeI]
  have a : ns.getD i 0 = ns[i] := by rw [List.getD_eq_getElem?_getD, List.getElem?_eq_getElem h1]; rfl
  have b : ms.getD i 0 = ms[i] := by rw [List.getD_eq_getElem?_getD, List.getElem?_eq_getElem h2]; rfl
  rw [a, b]
theorem lexLe_end {ns ms : List Int} {i : Nat} (hi : i ≤ min ns.length ms.length) (h : min ns.length ms.length ≤ i) : lexLeI (ns.drop i) (ms.drop i) = decide (ns.length ≤ ms.length) := by
  by_cases c : ns.length ≤ i
  · rw [List.drop_of_length_le c, lexLeI, decide_eq_true (by omega)]
  · rw [List.drop_of_length_le (l := ms) (by omega), List.drop_eq_getElem_cons (by omega), lexLeI, decide_eq_false (by omega)]
theorem le_loop (l b : Addr) (xs ys : Array Value) (n1 n2 : Nat) (d1 d2 : Option Addr) (s1 s2 : Array (Option Value)) {ns ms : List Int} (A1 : IntArr xs ns) (A2 : IntArr ys ms) (k : Nat) :
    ∀ i : Nat, i ≤ min ns.length ms.length → min ns.length ms.length - i = k → Meets (Builtin.«list.__eq__.loop» ⟨[.ref l, .ref b, rawInt i, rawInt 1], []⟩)
      (fun A R s => s.heap.get? l = some { cls := .type "list", dict := d1, data := .seq xs n1, slots := s1 } ∧ s.heap.get? b = some { cls := .type "list", dict := d2, data := .seq ys n2, slots := s2 } ∧ R (.ok (.ret (.bool (lexLeI (ns.drop i) (ms.drop i))))) s) := by
  induction k with
  | zero =>
    intro i hm hk prog w A R s ⟨hl, hb, h⟩
    obtain ⟨hp, g, d, tk, os⟩ := s
    rw [lexLe_end hm (by omega), ← A1.1, ← A2.1] at h
    have z := A1.1
    have z2 := A2.1
    wp_walk using wpAny_loadPart' hl, wpAny_loadPart' hb
    by_cases c : xs.size ≤ i
    · rw [show xs[((i : Nat) : Int).toNat]? = none by simp; omega]
      wp_walk using wpAny_loadPart' hl, wpAny_loadPart' hb
      exact h
    · rw [show xs[((i : Nat) : Int).toNat]? = some (xs[i]'(by omega)) by simp, show ys[((i : Nat) : Int).toNat]? = none by simp; omega]
      wp_walk using wpAny_loadPart' hl, wpAny_loadPart' hb
      exact h
  | succ k ih =>
    intro i hm hk prog w A R s ⟨hl, hb, h⟩
    obtain ⟨hp, g, d, tk, os⟩ := s
    have c1 : i < xs.size := by rw [A1.1]; omega
    have c2 : i < ys.size := by rw [A2.1]; omega
    obtain ⟨t, ex⟩ := A1.2 i c1
    obtain ⟨u, ey⟩ := A2.2 i c2
    have g1 : xs[((i : Nat) : Int).toNat]? = some (.int (ns.getD i 0) t) := by simp [c1, ex]
    have g2 : ys[((i : Nat) : Int).toNat]? = some (.int (ms.getD i 0) u) := by simp [c2, ey]
    rw [lexLe_step (by omega) (by omega)] at h
    wp_walk using wpAny_loadPart' hl, wpAny_loadPart' hb
    rw [g1, g2]
    refine wpAny_bind (SeqAt.EqAt.int_int _ _ _ _ prog w _ _ ?_)
    by_cases q : ns.getD i 0 = ms.getD i 0
    · rw [if_pos q] at h
      rw [show (ns.getD i 0 == ms.getD i 0) = true from beq_iff_eq.mpr q]
      wp_walk
      rw [show ((i : Int) + 1) = ((i + 1 : Nat) : Int) by omega]
      exact ⟨plainId_quiet MeetsSeq3.plain_eq_loop _, codeAny_builtin MeetsSeq3.entry_eq_loop (by rw [Around.under_plainId MeetsSeq3.plain_eq_loop _]; exact ih (i + 1) (by omega) (by omega) prog w A R _ ⟨hl, hb, h⟩)⟩
    · rw [if_neg q] at h
      rw [show (ns.getD i 0 == ms.getD i 0) = false from beq_eq_false_iff_ne.mpr q]
      have le := Ob.RcOp.le_int (A := A.in1) (s := ⟨hp, g, d, tk, os⟩) (ns.getD i 0) (ms.getD i 0) t u prog w
      wp_walk using wpAny_loadPart' hl, wpAny_loadPart' hb
      rw [g1, g2]
      wp_walk using le
      exact h
theorem le_list (l b : Addr) (xs ys : Array Value) (n1 n2 : Nat) (d1 d2 : Option Addr) (s1 s2 : Array (Option Value)) {ns ms : List Int} (A1 : IntArr xs ns) (A2 : IntArr ys ms) :
    Meets (Builtin.«list.__le__» ⟨[.ref l, .ref b], []⟩)
      (fun A R s => s.heap.get? l = some { cls := .type "list", dict := d1, data := .seq xs n1, slots := s1 } ∧ s.heap.get? b = some { cls := .type "list", dict := d2, data := .seq ys n2, slots := s2 } ∧ R (.ok (.ret (.bool (lexLeI ns ms)))) s) := by
  intro prog w A R s ⟨hl, hb, h⟩
  obtain ⟨hp, g, d, tk, os⟩ := s
  have f3 := AutoSeq1.sub_list_list
  wp_walk using wpAny_loadPart' hl, wpAny_loadPart' hb
  exact ⟨plainId_quiet MeetsSeq3.plain_eq_loop _, codeAny_builtin MeetsSeq3.entry_eq_loop (by rw [Around.under_plainId MeetsSeq3.plain_eq_loop _]; exact le_loop l b xs ys n1 n2 d1 d2 s1 s2 A1 A2 _ 0 (Nat.zero_le _) rfl prog w A R _ ⟨hl, hb, h⟩)⟩
def rLeL (K : PySem.W.Frag) : R2 := fun x y H Q => ∃ (a b : Addr) (ns ms : List Int), x = .ref a ∧ y = .ref b ∧ SqL K H a (ns.map V.int) ∧ SqL K H b (ms.map V.int) ∧ Q (.bl (lexLeI ns ms)) H
theorem intArr {its : List Value} {ns : List Int} (h : IntsAre its ns) : IntArr its.toArray ns := ⟨by rw [List.size_toArray]; exact h.length, fun j h1 => PyProof.Rows.IntsAre.int_at h _ _ (by simp at h1; simp [h1])⟩
theorem op_leL {X : Cx} (hu : X.A.units < cLine) : OpR X (compareOp .LtE) (rLeL X.K) := by
  intro pins s σ H x y v u Q I rx ry h
  obtain ⟨a, b, ns, ms, rfl, rfl, ha, hb, q⟩ := h
  cases rx
  cases ry
  obtain ⟨its, r1, p1, _⟩ := I.list ha
  obtain ⟨its2, r2, p2, _⟩ := I.list hb
  obtain ⟨⟨cls, dd, data, sl⟩, ho, hc, n, hd⟩ := id p1.isList
  obtain ⟨⟨cls2, dd2, data2, sl2⟩, ho2, hc2, n2, hd2⟩ := id p2.isList
  simp only at hc hd hc2 hd2
  subst hc hd hc2 hd2
  show wpAny (model X.prog X.w) X.A (richCompare .LtE (.ref a) (.ref b)) (EP X pins σ Q) X.xe s
  exact richCompare_meets_room (op := .LtE) ⟨_, ho, rfl⟩ ⟨_, ho2, rfl⟩ F.slot_list_le F.entry_list_le (F.args_list_le_2 _ _) (le_list a b its.toArray its2.toArray n n2 dd dd2 sl sl2 (intArr (Vals.ints r1)) (intArr (Vals.ints r2))) ⟨ho, ho2, ⟨(fun x => nomatch x), ⟨.bl _, H, I, rfl, q⟩⟩⟩ hu
theorem opLeL (K : PySem.W.Frag) {X : Cx} (hu : X.A.units < cLine) (h : X.K = K := by rfl) : OpR X (compareOp .LtE) (rLeL K) := h ▸ op_leL hu
section
variable {tp : Option (Addr × Addr)} {K : PySem.W.Frag} [WP K] {H H' H'' H0 H1 He Hq : Hp} {σ : L2.St} {ρ : Ro}
def leLD (xs ys : List PyData) : M C := match intsOf xs, intsOf ys with
  | some ns, some ms => .ret (.val (.bool (lexLeI ns ms)))
  | _, _ => .fail
def oLeL (c d : C) : M C := match c.items, d.items with
  | some xs, some ys => leLD xs ys
  | _, _ => .fail
theorem os_leL : OpS K (rLeL K) oLeL := by
  intro tp H0 H x y cx cy Q g t rx ry h
  unfold oLeL at h
  split at h
  · rename_i xs ys e1 e2
    obtain ⟨a, vs, rfl, q1, q2, _⟩ := rx.rd e1
    obtain ⟨b, us, rfl, p1, p2, _⟩ := ry.rd e2
    unfold leLD at h
    split at h
    · rename_i ns ms f1 f2
      have g1 := intsOf_dp (K := K) q2.dp f1
      have g2 := intsOf_dp (K := K) p2.dp f2
      subst g1 g2
      exact ⟨a, b, ns, ms, rfl, rfl, .inl q1, .inl p1, Post.bl h g t⟩
    · exact h.elim
  · exact h.elim
theorem oLeL_ii {c d : C} {xs ys : List PyData} (h1 : c.items = some xs) (h2 : d.items = some ys) : oLeL c d = leLD xs ys := by unfold oLeL; rw [h1, h2]
theorem leLD_i {ns ms : List Int} : leLD (ns.map .int) (ms.map .int) = .ret (.val (.bool (lexLeI ns ms))) := by unfold leLD; rw [intsOf_map, intsOf_map]
end
end Cs

set_option maxRecDepth 100000
set_option maxHeartbeats 4000000
/-! enumerate(a tuple) -/
namespace Cs
open PySem PySem.W PyProof.Rows PyProof.V PySem.Spec PySem.Calls L2
set_option maxHeartbeats 4000000 in
theorem et_new (l : Addr) (xs : Array Value) :
    Meets (Builtin.«enumerate.__new__» ⟨[.type "enumerate", .ref l], []⟩) (fun _ R s => s.heap.IsTuple l xs ∧
      R (.ok (.ret (.ref (s.heap.objs.size + 1)))) { s with heap := (s.heap.push { cls := .type "tuple_iterator", data := .fields #[.ref l, .int 0 0] }).push { cls := .type "enumerate", data := .fields #[.none, .bool false, .ref s.heap.objs.size, rawInt 0, .none, .none] } }) :=
  .of_wp fun prog w A R s h => by
    obtain ⟨hp, g, d, tk, os⟩ := s
    obtain ⟨hL, h⟩ := h
    have hsub := sub_enumerate
    have hz : (hp.push { cls := .type "tuple_iterator", data := .fields #[.ref l, .int 0 0] }).objs.size = hp.objs.size + 1 := Heap.size_push ..
    have hL1 : Heap.IsTuple (Shared.heap ⟨hp, g, d, tk, os⟩) l xs := hL
    wp_walk
    refine wpAny_stack_any fun st => wpAny_pure ?_
    split
    · rename_i c _ _ _ _ _
      cases (c == Value.type "enumerate")
      · wp_walk using wpAny_pyIter_tuple hL1
        refine ⟨_, rfl, ?_⟩
        show R (.ok (.ret (.ref (Heap.push hp _).objs.size))) _
        rw [hz]; exact h
      · wp_walk using wpAny_pyIter_tuple hL1
        refine ⟨_, rfl, ?_⟩
        show R (.ok (.ret (.ref (Heap.push hp _).objs.size))) _
        rw [hz]; exact h
    · wp_walk using wpAny_pyIter_tuple hL1
      refine ⟨_, rfl, ?_⟩
      show R (.ok (.ret (.ref (Heap.push hp _).objs.size))) _
      rw [hz]; exact h
section
variable {prog : Program} {w : World} {A : Around} {E : Value → Shared → Prop} {s : Shared}
theorem et_call {l : Addr} {xs : Array Value} {Q : Value → Shared → Prop} (hL : s.heap.IsTuple l xs)
    (h : ∀ g, IsEnum g (s.heap.objs.size + 1) s.heap.objs.size 0 .none → g.IsTupleIter s.heap.objs.size l 0 → g.objs.size = s.heap.objs.size + 2 → (∀ b o, s.heap.get? b = some o → g.get? b = some o) → Q (.ref (s.heap.objs.size + 1)) { s with heap := g }) :
    wpAny (model prog w) A (call (.type "enumerate") [.ref l]) Q E s := by
  refine callType_new F.called_enumerate (by decide) (F.typeCall_enumerate_1 _) (F.newCall_enumerate_1 _) (fun obj => F.args_object_init_2 obj _) F.entry_enumerate_new (et_new l xs) ⟨hL, ?_⟩
  have hz : (s.heap.push { cls := .type "tuple_iterator", data := .fields #[.ref l, .int 0 0] }).objs.size = s.heap.objs.size + 1 := Heap.size_push ..
  have he : IsEnum ((s.heap.push { cls := .type "tuple_iterator", data := .fields #[.ref l, .int 0 0] }).push { cls := .type "enumerate", data := .fields #[.none, .bool false, .ref s.heap.objs.size, rawInt 0, .none, .none] }) (s.heap.objs.size + 1) s.heap.objs.size 0 .none := by
    have e := Heap.get?_push_size (s.heap.push { cls := .type "tuple_iterator", data := .fields #[.ref l, .int 0 0] }) (o := { cls := .type "enumerate", data := .fields #[.none, .bool false, .ref s.heap.objs.size, rawInt 0, .none, .none] }) rfl
    rw [hz] at e; exact e
  exact ⟨⟨_, he, rfl⟩, h _ he ⟨_, Heap.get?_push_of_some _ (Heap.get?_push_size _ rfl), rfl, rfl⟩ (by rw [Heap.size_push, hz]) fun b o x => Heap.get?_push_of_some _ (Heap.get?_push_of_some _ x)⟩
end
/-- the tuple at a, each item in a new pair -/
def IteT (K : PySem.W.Frag) (a : Addr) : It :=
  ⟨fun i H => ∃ (xs : List V) (x : V), SqT K H a xs ∧ xs[i]? = some x, fun i H v H' => ∃ T x, v = .ref T ∧ H T = none ∧ H' = upd H T (.tup [.int (i : Nat), x]) ∧ ∀ xs, SqT K H a xs → xs[i]? = some x, fun i H => ∃ xs : List V, SqT K H a xs ∧ xs.length ≤ i⟩
def EtSt (a e it : Addr) (i : Nat) (h : Heap) : Prop := (∃ old, IsEnum h e it ((i : Nat) : Int) old) ∧ h.IsTupleIter it a i ∧ e ≠ it ∧ a ≠ it ∧ e ≠ a
theorem et_last {prog : Program} {w : World} {A : Around} (hh : A.handled = none) (it t : Addr) (i : Nat) (items : Array Value) (hx : items[i]? = none) :
    Draws prog w A it [it, t] 0 (fun _ _ => True) (fun _ h => h.IsTupleIter it t i ∧ h.IsTuple t items) := by
  constructor
  case live => exact fun _ _ st => let ⟨o, ho, _⟩ := st.1; ⟨o, ho⟩
  case frame => exact fun _ _ _ st k => ⟨st.1.at fun o e => k it (by simp) o e, st.2.at fun o e => k t (by simp) o e⟩
  case item => exact fun i s Q E hi => absurd hi (Nat.not_lt_zero _)
  case done => exact fun s Q E st hE => RZ.nextOf_tuple_end hh st.1 st.2 hx fun h' e a b => hE h' e a b
theorem et_turn {P : Program} {w : World} {K : PySem.W.Frag} {elts : List Expr} {kk : Nat} {tpos : Pos} (a e it : Addr) : Turn P w K (.Tuple elts kk tpos) (IteT K a) [e, it] e (EtSt a e it) := by
  constructor
  case mem => exact List.mem_cons_self
  case obj =>
    rintro i h ⟨⟨old, he⟩, ⟨o, ho, hc, hd⟩, _⟩ b hb
    have hb : b = e ∨ b = it := by simpa using hb
    rcases hb with rfl | rfl
    · exact ⟨_, he, fun v q => nomatch q⟩
    · exact ⟨o, ho, fun v q => by rw [hd] at q; cases q⟩
  case keep => exact fun i h h' ⟨⟨old, he⟩, hi, r⟩ k => ⟨⟨old, k e (by simp) _ he⟩, hi.at fun o q => k it (by simp) o q, r⟩
  case item =>
    intro X hP hw hK hc i pins s σ H E I hf ⟨⟨old, he⟩, hit, n1, n2, n3⟩ ⟨xs, x, hq, hx⟩
    subst hP hw hK
    obtain ⟨its, rv, p, hz⟩ := I.tuple hq
    obtain ⟨u, hu, ru⟩ := rv.get hx
    have hel : e < s.heap.objs.size := Heap.lt_size he
    have hil : it < s.heap.objs.size := by obtain ⟨_, q, _⟩ := hit; exact Heap.lt_size q
    have hi : i < its.toArray.size := by rw [List.size_toArray]; exact (List.getElem?_eq_some_iff.mp hu).1
    have pT : s.heap.IsTuple a its.toArray := p
    have D := Draws.tuple (prog := X.prog) (w := X.w) (A := X.A.in1) (I.ok.hd hc) it a n2 its.toArray
    refine wpAny_pyNext_enum_itemD D he ⟨hit, pT⟩ hi n1 (by simp only [List.mem_cons, List.not_mem_nil, or_false, not_or]; exact ⟨n1, n3⟩) fun x' g tk hx' ho st' hT hsz hk => ?_
    obtain ⟨hit', _⟩ := st'
    have ex : x' = u := by
      rw [List.getElem?_toArray, hu] at hx'
      exact (Option.some.inj hx').symm
    subst ex
    refine ⟨_, rfl, wpAny_letOwnedTupleGo_enum (s := { s with heap := g, toks := tk + 1 }) ho fun g2 he' sb => ?_⟩
    have hT2 : g2.get? s.heap.objs.size = some { cls := .type "tuple", data := .seq #[.int i tk, x'] } := (sb.2 _ (Nat.ne_of_gt hel)).trans hT
    have new : ObjOk X.prog X.w (upd H s.heap.objs.size (.tup [.int (i : Nat), x])) g2 s.heap.objs.size (.tup [.int (i : Nat), x]) := ⟨by show 2 ≤ sizeLine; decide, [.int i tk, x'], .cons ⟨_, rfl⟩ (.cons ru .nil), ⟨_, hT2, rfl, _, rfl⟩⟩
    have I1 : Inv X pins σ (upd H s.heap.objs.size (.tup [.int (i : Nat), x])) { s with heap := g2, toks := tk + 1 } :=
      I.turnedNew (ch := [e, it]) (fun b ob hb q => (sb.2 b (fun z => hb (by simp [z]))).trans (hk b ob (fun z => hb (by simp [z])) (fun z => hb (by simp [z])) q)) hf (Nat.le_refl _) new
    refine ⟨.ref s.heap.objs.size, _, I1, rfl, ⟨_, x, rfl, I.hok.fresh (Nat.le_refl _), rfl, fun ys hy => by rw [I.tuple_inj hy hq]; exact hx⟩, ⟨⟨x', ?_⟩, hit'.at fun o q => (sb.2 it (Ne.symm n1)).trans q, n1, n2, n3⟩, fun b hb => ?_⟩
    · rw [show ((i + 1 : Nat) : Int) = (i : Int) + 1 by omega]; exact he'
    · have hb : b = e ∨ b = it := by simpa using hb
      rcases hb with rfl | rfl
      · rw [upd_ne (Nat.ne_of_lt hel)]; exact (hf _ (by simp)).1
      · rw [upd_ne (Nat.ne_of_lt hil)]; exact (hf _ (by simp)).1
  case done =>
    intro X hP hw hK hc i pins s σ H E I hf ⟨⟨old, he⟩, hit, n1, n2, n3⟩ ⟨xs, hq, hx⟩
    subst hP hw hK
    obtain ⟨its, rv, p, hz⟩ := I.tuple hq
    obtain ⟨f0, f1, f2, f3, f4, f5⟩ := hf it (by simp)
    have hl := rv.length
    have pT : s.heap.IsTuple a its.toArray := p
    exact wpAny_pyNext_enum_endD (et_last (prog := X.prog) (w := X.w) (A := X.A.in1) (I.ok.hd hc) it a i its.toArray (by simp; omega)) he ⟨hit, pT⟩ fun h' eb => ⟨rfl, I.turned (t' := s.toks) (fun b o hb q => eb b o hb q) f0 f1 f3 f4 f5⟩
  case self => exact fun A i s Q E st h => let ⟨⟨_, he⟩, _⟩ := st; wpAny_pyIter_enum he h
def iEnT (K : PySem.W.Frag) (ta : TA) : TI := fun σ H R => ta σ H fun vs H1 => ∃ (a : Addr) (xs : List V), vs = [.ref a] ∧ SqT K H1 a xs ∧ R (IteT K a) H1
theorem pi_enT {X : Cx} {e : Expr} {ta : TA} {p pos tpos : Pos} {elts : List Expr} {kk : Nat} (hg : Gl X "enumerate") (hm : X.mg "enumerate" = none) (ha : PA X [e] ta) (hs : starEach [e] X.env = [(false, eval e X.env)] := by rfl) :
    PI X (.Tuple elts kk tpos) (.Call (.Name "enumerate" p) [e] [] pos) (iEnT X.K ta) := by
  refine ⟨fun pins s σ H R I h => ?_⟩
  refine Call_ (ld_blt I hg hm boot_enumerate (PyProof.Rows.callWith_type1 (thn (ha.run pos pins s σ H _ I h) fun us s1 ⟨vs, H1, I1, r1, q1⟩ => ?_) hs rfl))
  obtain ⟨a, xs, rfl, hq, q⟩ := q1
  cases r1 with
  | cons r rr =>
    cases rr
    cases r
    obtain ⟨its, rv, pt, hz⟩ := I1.tuple hq
    obtain ⟨ot, hot, _⟩ := id pt
    refine et_call (show s1.heap.IsTuple a its.toArray from pt) fun g he hit hsz hk => wpAny_pyIter_enum he ?_
    have I2 : Inv X pins σ H1 { s1 with heap := g } := I1.kept (t' := s1.toks) hk
    have lt := Heap.lt_size hot
    refine ⟨s1.heap.objs.size + 1, [s1.heap.objs.size + 1, s1.heap.objs.size], _, _, H1, rfl, I2, et_turn a (s1.heap.objs.size + 1) s1.heap.objs.size, ⟨⟨.none, he⟩, hit, Nat.succ_ne_self _, Nat.ne_of_lt lt, Nat.ne_of_gt (Nat.lt_succ_of_lt lt)⟩, fun b hb => ?_, q⟩
    have hb : b = s1.heap.objs.size + 1 ∨ b = s1.heap.objs.size := by simpa using hb
    have le : s1.heap.objs.size ≤ b := by
      rcases hb with z | z
      · rw [z]; exact Nat.le_add_right _ _
      · rw [z]; exact Nat.le_refl _
    exact I1.fpOk le (I1.hok.fresh le)
section
variable {tp : Option (Addr × Addr)} {K : PySem.W.Frag} [WP K] {H H' H'' H0 H1 He Hq : Hp} {σ : L2.St} {ρ : Ro}
def enD : List PyData → Nat → List PyData
  | [], _ => []
  | d :: ds, i => .tuple [.int (i : Nat), d] :: enD ds (i + 1)
theorem enD_len : ∀ (ds : List PyData) (i : Nat), (enD ds i).length = ds.length
  | [], _ => rfl
  | d :: ds, i => by rw [enD, List.length_cons, enD_len ds, List.length_cons]
theorem enD_get : ∀ (ds : List PyData) (i j : Nat) (e : PyData), (enD ds i)[j]? = some e → ∃ d, ds[j]? = some d ∧ e = .tuple [.int ((i + j : Nat) : Int), d]
  | [], _, j, e, h => by simp [enD] at h
  | d :: ds, i, 0, e, h => by
    rw [enD] at h
    exact ⟨d, rfl, (Option.some.inj h).symm⟩
  | d :: ds, i, j + 1, e, h => by
    rw [enD] at h
    obtain ⟨x, h1, h2⟩ := enD_get ds (i + 1) j e (by simpa using h)
    exact ⟨x, by simpa using h1, by rw [h2, show i + 1 + j = i + (j + 1) by omega]⟩
def enC : List C → M (List PyData)
  | [.val (.tuple ds)] => .ret (enD ds 0)
  | _ => .fail
def gEnT (gs : Ro → M (List C)) (ρ : Ro) : M (List PyData) := (gs ρ).bind enC
theorem gEnT_eq {gs : Ro → M (List C)} : gEnT gs ρ = (gs ρ).bind enC := (rfl)
theorem enC_t {ds : List PyData} : enC [.val (.tuple ds)] = .ret (enD ds 0) := (rfl)
theorem wk_enT {a : Addr} {vs : List V} {ds : List PyData} (h : SqT K H1 a vs) (hd : VlAll K H1 vs ds) : Wk K H1 (IteT K a) [] (enD ds 0) := by
  intro H' im kp
  have hs := im.sqT h
  have e1 := hd.imlf im ds _ rfl
  refine ⟨⟨vs, hs, by rw [hd.len, enD_len]; exact Nat.le_refl _⟩, fun i d e => ?_⟩
  obtain ⟨x, q1, rfl⟩ := enD_get ds 0 i d e
  obtain ⟨v, v1, v2⟩ := e1.get q1
  refine ⟨⟨vs, v, hs, v1⟩, fun z H'' yl => ?_⟩
  obtain ⟨T, x', rfl, hT, rfl, g1⟩ := yl
  have := g1 vs hs
  rw [v1] at this
  cases this
  have im2 : Im H' (upd H' T (.tup [.int (i : Nat), v])) := Im.new hT
  refine ⟨Same.new hT, .tup upd_same (.cons ?_ (.cons (v2.imlf im2 x _ rfl) .nil))⟩
  rw [Nat.zero_add]
  exact .int _
theorem ri_enT {ta : TA} {gs : Ro → M (List C)} {s : Bool} (h1 : RA K ta gs) : RI K s (iEnT K ta) (gEnT gs) := by
  intro tp He Hq ρ σ H Q r h
  refine h1 tp He Hq ρ σ H _ r (wp0_mono (fun c hc => ?_) (wp0_bind.mp h))
  intro vs H1 g1 t1 rx
  unfold enC at hc
  split at hc
  · rename_i ds
    obtain ⟨v, rfl, r1⟩ := rx.one
    obtain ⟨a, vs, rfl, q1, q2, _⟩ := r1.tup
    exact ⟨a, vs, rfl, q1, hc _ H1 [] g1 t1 rfl (wk_enT q1 q2) (fun _ m => by simp at m) (fun _ _ _ _ m => by simp at m)⟩
  · exact hc.elim
end
end Cs

set_option maxRecDepth 100000
set_option maxHeartbeats 4000000
/-! a text in a module's tuple or dict; sorted of texts -/
namespace Cs
open PySem PySem.Spec PyProof.Rows L2
section
variable {tp : Option (Addr × Addr)} {K : PySem.W.Frag} [WP K] {H H' H'' H0 H1 He Hq : Hp} {σ : L2.St} {ρ : Ro}
def gInK (n : Bool) (ds : List PyData) (g : Ro → M C) (ρ : Ro) : M C := (g ρ).bind fun c => oInX n c.dat (some (.tuple ds))
theorem re_inK {n : Bool} {a : Addr} {ds : List PyData} {t : TE} {g : Ro → M C} (hk : KTup K a ds) (ha : RE K t g) : RE K (tOp (rInU K n) t (tC (.ref a))) (gInK n ds g) := by
  intro tp He Hq ρ σ H Q rl h
  refine ha tp He Hq ρ σ H _ rl (wp0_mono (fun c h1 => ?_) (wp0_bind.mp h))
  intro x H1 g1 t1 rx
  show rInU K n x (.ref a) H1 Q
  have key : ∀ d, c.dat = some d → rInU K n x (.ref a) H1 Q := fun d hd => by
    rw [hd] at h1
    have h2 : wp0 (oInD n d ds) (Post tp K H Q) := by
      cases d <;> exact h1
    unfold oInD at h2
    split at h2
    · rename_i e
      simp only [Bool.and_eq_true] at e
      exact .inl ⟨d, ds, rx.dp hd, .inr (hk.dp H1), e.1, e.2, Post.bl h2 g1 t1⟩
    · exact h2.elim
  cases hd : c.dat with
  | some d => exact key d hd
  | none => rw [hd] at h1; exact h1.elim
def rInKd (K : PySem.W.Frag) (n : Bool) : R2 := fun x y H Q => ∃ (z : Str) (d : Addr) (r : Option Value), x = .str z ∧ y = .ref d ∧ PySem.W.nsIn K d z = some r ∧ Q (.bl (n ^^ r.isSome)) H
theorem opInKd (K : PySem.W.Frag) {X : Cx} {d : Addr} {es : Array DictEntry} {m : Nat} (D : KDict X.K X.w d es m) (h : X.K = K := by rfl) : OpR X (compareOp .In) (fun x y H Q => y = .ref d ∧ rInKd K false x y H Q) := by
  subst h
  intro pins s σ H x y v u Q I rx ry h
  obtain ⟨e0, z, d', r, e1, e2, e3, q⟩ := h
  subst e0
  cases e2
  rw [Bool.false_xor] at q
  exact op_in_kd D pins s σ H x _ v u Q I rx ry ⟨z, r, e1, rfl, e3, q⟩
theorem opNotInKd (K : PySem.W.Frag) {X : Cx} {d : Addr} {es : Array DictEntry} {m : Nat} (D : KDict X.K X.w d es m) (h : X.K = K := by rfl) : OpR X (compareOp .NotIn) (fun x y H Q => y = .ref d ∧ rInKd K true x y H Q) := by
  subst h
  intro pins s σ H x y v u Q I rx ry h
  obtain ⟨e0, z, d', r, e1, e2, e3, q⟩ := h
  subst e0
  cases e2
  rw [Bool.true_xor] at q
  exact op_notIn_kd D pins s σ H x _ v u Q I rx ry ⟨z, r, e1, rfl, e3, q⟩
def kInD (n : Bool) (ks : List Str) : C → M C
  | .val (.str z) => .ret (.val (.bool (n ^^ decide (z ∈ ks))))
  | _ => .fail
def gInKd (n : Bool) (ks : List Str) (g : Ro → M C) (ρ : Ro) : M C := (g ρ).bind (kInD n ks)
theorem gInKd_eq {n : Bool} {ks : List Str} {g : Ro → M C} : gInKd n ks g ρ = (g ρ).bind (kInD n ks) := (rfl)
theorem gInK_eq {n : Bool} {ds : List PyData} {g : Ro → M C} : gInK n ds g ρ = (g ρ).bind fun c => oInX n c.dat (some (.tuple ds)) := (rfl)
theorem re_inKd {n : Bool} {d : Addr} {ks : List Str} {t : TE} {g : Ro → M C} (hk : ∀ z : Str, ∃ r, PySem.W.nsIn K d z = some r ∧ r.isSome = decide (z ∈ ks)) (ha : RE K t g) : RE K (tOp (fun x y H Q => y = .ref d ∧ rInKd K n x y H Q) t (tC (.ref d))) (gInKd n ks g) := by
  intro tp He Hq ρ σ H Q rl h
  refine ha tp He Hq ρ σ H _ rl (wp0_mono (fun c h1 => ?_) (wp0_bind.mp h))
  intro x H1 g1 t1 rx
  show (V.ref d) = .ref d ∧ rInKd K n x (.ref d) H1 Q
  unfold kInD at h1
  split at h1
  · rename_i z
    obtain ⟨r, e1, e2⟩ := hk z
    refine ⟨rfl, z, d, r, ?_, rfl, e1, ?_⟩
    · have := rx.dp (d := .str z) rfl
      cases this
      rfl
    · rw [e2]; exact Post.bl h1 g1 t1
  · exact h1.elim
/-! sorted of texts -/
def strsOf : List PyData → Option (List Str)
  | [] => some []
  | .str i :: ds => (strsOf ds).map (i :: ·)
  | _ :: _ => none
theorem strsOf_map : ∀ ns : List Str, strsOf (ns.map PyData.str) = some ns
  | [] => rfl
  | n :: ns => by rw [List.map_cons, strsOf, strsOf_map ns]; rfl
theorem strsOf_dp : ∀ {vs : List V} {ds : List PyData} {ns : List Str}, DpAll K H vs ds → strsOf ds = some ns → vs = ns.map V.str
  | _, [], ns, h, e => by cases e; cases h; rfl
  | _, .str i :: ds, ns, h, e => by
    unfold strsOf at e
    cases q : strsOf ds with
    | none => rw [q] at e; cases e
    | some ms =>
      rw [q] at e
      cases e
      cases h with
      | cons h1 h2 =>
        cases h1
        rw [strsOf_dp h2 q]
        rfl
  | _, .none :: _, _, _, e => by cases e
  | _, .bool _ :: _, _, _, e => by cases e
  | _, .int _ :: _, _, _, e => by cases e
  | _, .list _ :: _, _, _, e => by cases e
  | _, .tuple _ :: _, _, _, e => by cases e
  | _, .dict _ :: _, _, _, e => by cases e
omit [WP K] in
theorem vl_strs : ∀ (ns : List Str), VlAll K H (ns.map V.str) (ns.map PyData.str)
  | [] => .nil
  | n :: ns => .cons (.str n) (vl_strs ns)
def srtS (ns : List Str) : M C := if ns.length < 64 then .any (fun d => ∃ ns' : List Str, ns'.Perm ns ∧ sortedS ns' = true ∧ d = .list (ns'.map .str)) srtK else .fail
def srtDS : PyData → M C
  | .list ds => match strsOf ds with
    | some ns => srtS ns
    | none => .fail
  | _ => .fail
abbrev oSortS := o1 srtDS
theorem cs_sortS : CallS K (rSortedS K) oSortS := by
  intro tp H0 H vs cs Q g t r h
  obtain ⟨v, d, rfl, hd, h⟩ := o1_ok r h
  unfold srtDS at h
  split at h
  · split at h
    · rename_i ns e
      cases hd with
      | lst hs ha =>
        have e2 := strsOf_dp ha e
        subst e2
        unfold srtS at h
        split at h
        · rename_i h64
          exact ⟨_, ns, rfl, hs, h64, fun ns' p hp hw hn => Post.lst (h _ ⟨ns', hp, hw, rfl⟩) g t hn (vl_strs ns') (lfAll_iff.mpr fun d m => by obtain ⟨i, _, rfl⟩ := List.mem_map.mp m; rfl)⟩
        · exact h.elim
    · exact h.elim
  · exact h.elim
theorem srtDS_l {ns : List Str} : srtDS (.list (ns.map .str)) = srtS ns := by unfold srtDS; dsimp only; rw [strsOf_map]
theorem callSortS (K : PySem.W.Frag) {X : Cx} (h : X.K = K := by rfl) : CallR X (.builtin "sorted") (rSortedS K) := by
  subst h
  exact cr_sortedS
end
/-! what the module's tuples and dicts of texts hold -/
def chkS : List Value → List Str → Bool
  | [], [] => true
  | .str i _ :: vs, n :: ns => (i == n) && chkS vs ns
  | _, _ => false
def ktupS (ns : List Str) (o : Obj) : Bool := match o with
  | ⟨.type c, none, .seq its _, _⟩ => (c == "tuple") && ((chkS its.toList ns) && decide (ns.length ≤ 1000))
  | _ => false
theorem chkS_vals : ∀ (vs : List Value) (ns : List Str), chkS vs ns = true → Vals (ns.map V.str) vs
  | vs, ns, h => by
    unfold chkS at h
    split at h
    · exact .nil
    · rename_i i t us n ms
      simp only [Bool.and_eq_true, beq_iff_eq] at h
      obtain ⟨rfl, h⟩ := h
      exact .cons ⟨t, rfl⟩ (chkS_vals us ms h)
    · cases h
theorem lf_strsK (ns : List Str) : lfAll (ns.map PyData.str) = true := lfAll_iff.mpr fun d m => by
  obtain ⟨i, _, rfl⟩ := List.mem_map.mp m
  rfl
theorem ktupS_of {K : PySem.W.Frag} {a : Addr} {o : Obj} {ns : List Str} (h : K.lookup a = some o) (b : ktupS ns o = true) : KTup K a (ns.map PyData.str) := by
  unfold ktupS at b
  split at b
  · rename_i c its n sl
    simp only [Bool.and_eq_true, beq_iff_eq, decide_eq_true_eq] at b
    obtain ⟨rfl, b1, b2⟩ := b
    have v := chkS_vals _ _ b1
    refine ⟨_, its, n, ns.map V.str, h, rfl, rfl, rfl, ?_, v, fun H => vl_strs ns, lf_strsK ns⟩
    have hl := v.length
    rw [List.length_map] at hl
    have : its.size = its.toList.length := by simp
    rw [this, ← hl, show sizeLine = 16777216 by decide]
    omega
  · cases b
def chkK : List DictEntry → List Str → Bool
  | [], [] => true
  | e :: es, k :: ks => (match e.key with
    | .str x _ => x == k
    | _ => false) && chkK es ks
  | _, _ => false
theorem chkK_find : ∀ {es : List DictEntry} {ks : List Str} (z : Str), chkK es ks = true → (es.find? (·.key.isStr z)).isSome = decide (z ∈ ks) ∧ es.any (·.refKey) = false
  | [], [], z, _ => ⟨by simp, rfl⟩
  | [], _ :: _, _, h => by cases h
  | _ :: _, [], _, h => by cases h
  | e :: es, k :: ks, z, h => by
    unfold chkK at h
    rw [Bool.and_eq_true] at h
    obtain ⟨h1, h2⟩ := h
    obtain ⟨i1, i2⟩ := chkK_find z h2
    split at h1
    · rename_i x t q
      have e1 : x = k := by simpa using h1
      subst e1
      have r : e.refKey = false := by unfold DictEntry.refKey; rw [q]
      refine ⟨?_, by rw [List.any_cons, r, i2]; rfl⟩
      rw [List.find?_cons]
      have s : e.key.isStr z = decide (x = z) := by rw [q]; rfl
      rw [s]
      by_cases c : x = z
      · rw [decide_eq_true c]; simp [c]
      · rw [decide_eq_false c]
        show (es.find? (·.key.isStr z)).isSome = _
        rw [i1]
        simp [show ¬ z = x from fun y => c y.symm]
    · cases h1
theorem keys_of {K : PySem.W.Frag} {d : Addr} {es : Array DictEntry} {m : Nat} {ks : List Str} {c : Value} {o : Option Addr} {sl : Array (Option Value)} (h : K.lookup d = some ⟨c, o, .dict es m, sl⟩) (b : chkK es.toList ks = true) (z : Str) : ∃ r, PySem.W.nsIn K d z = some r ∧ r.isSome = decide (z ∈ ks) := by
  obtain ⟨h1, h2⟩ := chkK_find z b
  unfold PySem.W.nsIn
  rw [h]
  show ∃ r, (match es.toList.find? (·.key.isStr z) with | some e => some (some e.val) | none => if es.toList.any (·.refKey) then none else some none) = some r ∧ _
  cases q : es.toList.find? (·.key.isStr z) with
  | some e => rw [q] at h1; exact ⟨_, rfl, h1⟩
  | none =>
    rw [q] at h1
    exact ⟨none, by rw [h2]; rfl, h1⟩
end Cs

set_option maxRecDepth 100000
set_option maxHeartbeats 4000000
/-! dicts and sets whose keys are tuples of None, ints and texts -/
namespace Cs
open PySem PySem.Spec PyProof.Rows L2
def nk1 : PyData → Option NestedKey
  | .none => some .none
  | .int i => some (.num i)
  | .str x => some (.text x)
  | _ => none
def nks : List PyData → Option (List NestedKey)
  | [] => some []
  | d :: ds => match nk1 d, nks ds with
    | some k, some ks => some (k :: ks)
    | _, _ => none
def nkD : PyData → Option NestedKey
  | .tuple ds => (nks ds).map .tup
  | _ => none
def nkDs : List PyData → Option (List NestedKey)
  | [] => some []
  | d :: ds => match nkD d, nkDs ds with
    | some k, some ks => some (k :: ks)
    | _, _ => none
/-- a set's method with one argument -/
theorem pe_saddN {X : Cx} {o e : Expr} {to : TE} {t : TE} {apos cpos : Pos} (hu : X.A.units + 16 < cLine) (ho : PE X o to) (ha : PE X e t)
    (m : M1 X o "add" apos e cpos) :
    PE X (.Call (.Attribute o "add" apos) [e] [] cpos) (fun σ H Q => to σ H fun x H1 => (∃ a L, x = V.ref a ∧ H1 a = some (SnO X.w a L)) ∧ t σ H1 fun y H2 => rAddN X.w x [y] H2 Q) := by
  refine ⟨fun pins s σ H Q I h => ?_⟩
  refine wpAny_Call_method m.base m.few m.line PySem.F.plainAttrs_set PySem.F.slot_set_add PySem.F.type_set_add (thn (ho.run pins s σ H _ I h) fun c s1 ⟨x, H1, I1, rx, ⟨a, L, ex, e1⟩, q1⟩ => ?_)
  subst ex
  cases (show c = Value.ref a from rx)
  obtain ⟨_, _, _, ⟨ob, h1, h2, _⟩, _⟩ := (I1.hok a _ e1).1
  refine ⟨⟨ob, h1, h2.1⟩, fun b z => by cases z; exact ⟨ob, h1, h2.2.1⟩, ?_⟩
  rw [m.trees]
  refine Calls.callWith_builtin rfl (Calls.evalArgs_plain (Calls.spliced_cons (thn (ha.run pins s1 σ H1 _ I1 q1) fun f s2 ⟨y, H2, I2, ry, q2⟩ => Calls.spliced_nil ?_)))
  exact mt_addN hu pins s2 σ H2 (.ref a) [y] (.ref a) [f] Q I2 rfl (.cons ry .nil) q2
section
variable {tp : Option (Addr × Addr)} {K : PySem.W.Frag} [WP K] {H H' H'' H0 H1 H2 He : Hp} {Hq : Hp} {σ : L2.St} {ρ : Ro}
theorem nk1_vl {y : V} {d : PyData} {k : NestedKey} (h : Vl K H y d) (e : nk1 d = some k) : lfV k = some y ∧ k.data = d := by
  cases h <;> cases e <;> exact ⟨rfl, rfl⟩
theorem nks_vl : ∀ {ds : List PyData} {us : List V} {ks : List NestedKey}, VlAll K H us ds → nks ds = some ks → us.map some = ks.map lfV ∧ NestedKey.datas ks = ds
  | [], _, _, h, e => by cases h; cases e; exact ⟨rfl, rfl⟩
  | d :: ds, _, ks, h, e => by
    cases h with
    | cons h1 h2 =>
      unfold nks at e
      split at e
      · rename_i k ks' e1 e2
        cases e
        obtain ⟨a1, a2⟩ := nk1_vl h1 e1
        obtain ⟨b1, b2⟩ := nks_vl h2 e2
        exact ⟨by rw [List.map_cons, List.map_cons, a1, b1], by simp only [NestedKey.datas, a2, b2]⟩
      · cases e
theorem nkD_vl {y : V} {d : PyData} {k : NestedKey} (h : Vl K H y d) (e : nkD d = some k) : ∃ b, y = .ref b ∧ KeyH H k b := by
  cases h with
  | tup h1 h2 =>
    obtain ⟨ks, e1, rfl⟩ := Option.map_eq_some_iff.mp e
    exact ⟨_, rfl, ks, _, rfl, h1, (nks_vl h2 e1).1⟩
  | _ => cases e
omit [WP K] in
theorem vl_leafs : ∀ {ks : List NestedKey} {us : List V}, us.map some = ks.map lfV → VlAll K H us (NestedKey.datas ks)
  | [], [], _ => .nil
  | [], _ :: _, h => by cases h
  | _ :: _, [], h => by cases h
  | k :: ks, u :: us, h => by
    rw [List.map_cons, List.map_cons] at h
    injection h with h1 h2
    refine .cons ?_ (vl_leafs h2)
    cases k with
    | none => cases h1; exact .non
    | num i => cases h1; exact .int i
    | text x => cases h1; exact .str x
    | tup _ => cases h1
theorem vl_key {k : NestedKey} {b : Addr} (h : KeyH H k b) : Vl K H (.ref b) k.data := by
  obtain ⟨ks, us, rfl, h1, h2⟩ := h
  exact .tup h1 (vl_leafs h2)
/-! ### dicts -/
def C.kvN : C → Option (List (NestedKey × PyData))
  | .own (.xo (.dN ds)) => some ds
  | .bor (.xo (.dN ds)) => some ds
  | .bor (.xo (.lN ds)) => some ds
  | _ => none
theorem RC.dN {v : V} {c : C} {ds : List (NestedKey × PyData)} (h : RC tp K H0 H v c) (e : c.kvN = some ds) : ∃ a xs vs, v = .ref a ∧ Rd H a (DnO (WP.P K) (WP.w K) a xs) ∧ KN H vs xs ∧ KvR K H vs ds := by
  unfold C.kvN at e
  split at e
  · cases e
    obtain ⟨a, rfl, _, _, xs, vs, h1, h2, h3⟩ := h
    exact ⟨a, xs, vs, rfl, .inl h1, h2, h3⟩
  · cases e
    obtain ⟨a, rfl, xs, vs, h1, h2, h3⟩ := h
    exact ⟨a, xs, vs, rfl, h1.1, h2, h3⟩
  · cases e
    obtain ⟨a, rfl, xs, vs, h1, h2, h3⟩ := h
    exact ⟨a, xs, vs, rfl, .inr h1.1, h2, h3⟩
  · cases e
def lkN (c : C) (d : PyData) : Option (Option PyData) := match c.kvN, nkD d with
  | some ds, some k => some (valD ds k)
  | _, _ => none
theorem lkN_ok {x y : V} {c : C} {d : PyData} {o : Option PyData} (rx : RC tp K H0 H x c) (hy : Vl K H y d) (e : lkN c d = some o) :
    ∃ a o', x = .ref a ∧ DGetN (WP.P K) (WP.w K) H a y o' ∧ ((o' = none ∧ o = none) ∨ ∃ v z, o' = some v ∧ o = some z ∧ Vl K H v z) := by
  unfold lkN at e
  split at e
  · rename_i ds k e1 e2
    cases e
    obtain ⟨a, xs, vs, rfl, r, kn, h⟩ := rx.dN e1
    obtain ⟨b, rfl, hb⟩ := nkD_vl hy e2
    exact ⟨a, valV vs k, rfl, ⟨xs, vs, k, b, r, kn, rfl, hb, rfl⟩, h.get k⟩
  · cases e
def oNGet : C → C → M C
  | c, .val d => (match lkN c d with
    | some (some z) => .ret (.val z)
    | _ => .fail)
  | _, _ => .fail
theorem re_dgetN {td ty : TE} {gd gy : Ro → M C} (h1 : RE K td gd) (h2 : RE K ty gy) : RE K (tDGetN (WP.P K) (WP.w K) td ty) (gOp oNGet gd gy) := by
  intro tp He Hq ρ σ H Q r h
  refine h1 tp He Hq ρ σ H _ r (wp0_mono (fun c hc => ?_) (wp0_bind.mp h))
  intro x H1 g1 t1 rx
  refine h2 tp He Hq ρ σ H1 _ (r.go g1 t1) (wp0_mono (fun c' hc' => ?_) (wp0_bind.mp hc))
  intro y H2 g2 t2 ry
  have rx2 := rx.gr g2 t1
  unfold oNGet at hc'
  split at hc'
  · rename_i d
    split at hc'
    · rename_i z e
      obtain ⟨a, o', ex, dg, q⟩ := lkN_ok rx2 ry.1 e
      rcases q with ⟨_, z⟩ | ⟨v, z', e1, e2, hv⟩
      · cases z
      · cases e2
        subst e1
        exact ⟨a, v, ex, dg, hc' v H2 (g1.trans g2) t2 ⟨hv, rfl⟩⟩
    · exact hc'.elim
  · exact hc'.elim
def oNIn (n : Bool) : C → C → M C
  | .val d, c => (match lkN c d with
    | some o => .ret (.val (.bool (n ^^ o.isSome)))
    | _ => .fail)
  | _, _ => .fail
theorem re_dinN {n : Bool} {td ty : TE} {gd gy : Ro → M C} (h1 : RE K ty gy) (h2 : RE K td gd) : RE K (tDInN' (WP.P K) (WP.w K) n ty td) (gOp (oNIn n) gy gd) := by
  intro tp He Hq ρ σ H Q r h
  refine h1 tp He Hq ρ σ H _ r (wp0_mono (fun c hc => ?_) (wp0_bind.mp h))
  intro y H1 g1 t1 ry
  refine h2 tp He Hq ρ σ H1 _ (r.go g1 t1) (wp0_mono (fun c' hc' => ?_) (wp0_bind.mp hc))
  intro x H2 g2 t2 rx
  have ry2 := ry.gr g2 t1
  unfold oNIn at hc'
  split at hc'
  · rename_i d
    split at hc'
    · rename_i o e
      obtain ⟨a, o', ex, dg, q⟩ := lkN_ok rx ry2.1 e
      refine ⟨a, o', ex, dg, ?_⟩
      have : o'.isSome = o.isSome := by
        rcases q with ⟨e1, e2⟩ | ⟨v, z', e1, e2, _⟩ <;> (rw [e1, e2]; try rfl)
      rw [this]
      exact Post.bl hc' (g1.trans g2) t2
    · exact hc'.elim
  · exact hc'.elim
def oNGet1 (c : C) : C → M C
  | .val d => (match lkN c d with
    | some o => .ret (.val (o.getD .none))
    | _ => .fail)
  | _ => .fail
def gNGet1 (gd gy : Ro → M C) (ρ : Ro) : M C := (gd ρ).bind fun c => if c.kvN.isSome = true then (gy ρ).bind (oNGet1 c) else .fail
theorem re_dget1N {td ty : TE} {gd gy : Ro → M C} (h1 : RE K td gd) (h2 : RE K ty gy) : RE K (tDGet1N (WP.P K) (WP.w K) td ty) (gNGet1 gd gy) := by
  intro tp He Hq ρ σ H Q r h
  refine h1 tp He Hq ρ σ H _ r (wp0_mono (fun c hc => ?_) (wp0_bind.mp h))
  intro x H1 g1 t1 rx
  split at hc
  · rename_i isd
    obtain ⟨ds, e0⟩ := Option.isSome_iff_exists.mp isd
    obtain ⟨a, xs, vs, rfl, rd, kn, _⟩ := rx.dN e0
    refine ⟨a, rfl, ⟨xs, vs, rd, kn⟩, ?_⟩
    refine h2 tp He Hq ρ σ H1 _ (r.go g1 t1) (wp0_mono (fun c' hc' => ?_) (wp0_bind.mp hc))
    intro y H2 g2 t2 ry
    have rx2 := rx.gr g2 t1
    unfold oNGet1 at hc'
    split at hc'
    · rename_i d
      split at hc'
      · rename_i o e
        obtain ⟨b, o', ex, dg, q⟩ := lkN_ok rx2 ry.1 e
        cases ex
        refine ⟨o', dg, ?_⟩
        rcases q with ⟨e1, e2⟩ | ⟨v, z', e1, e2, hv⟩
        · subst e1 e2
          exact hc' _ H2 (g1.trans g2) t2 ⟨.non, rfl⟩
        · subst e1 e2
          exact hc' _ H2 (g1.trans g2) t2 ⟨hv, rfl⟩
      · exact hc'.elim
    · exact hc'.elim
  · exact hc.elim
def gNewN (_ : Ro) : M C := .ret (.own (.xo (.dN [])))
theorem re_newN : RE K (tDNewN (WP.P K) (WP.w K)) gNewN := by
  intro tp He Hq ρ σ H Q r h
  intro p hp
  exact (show Post tp K H Q (.own (.xo (.dN []))) from h) _ _ (.of (Same.new hp)) (r.tok.same (Same.new hp)) ⟨p, rfl, hp, r.tok.tne hp, [], [], upd_same, .nil, rfl, .nil⟩
/-! d[k] = v -/
def kPutN (i : Nat) (ρ : Ro) (ds : List (NestedKey × PyData)) : C → C → M Res
  | .val d, .val kd => (match nkD kd with
    | some k => if lenOk (ds.length + 1) = true then .ret (.nx (ρ.set i (some (.own (.xo (.dN (putD ds k d))))))) else .fail
    | none => .fail)
  | _, _ => .fail
def nputAt (i : Nat) (gv gk : Ro → M C) (ρ : Ro) : Option (Option C) → M Res
  | some (some (.own (.xo (.dN ds)))) => (gv ρ).bind fun cv => (gk ρ).bind fun ck => kPutN i ρ ds cv ck
  | _ => .fail
def mNPut (i : Nat) (gv gk : Ro → M C) (ρ : Ro) : M Res := nputAt i gv gk ρ ρ[i]?
theorem XD.put {a : Addr} {xs : List NX} {vs : List (NestedKey × V)} {ds : List (NestedKey × PyData)} {k : NestedKey} {v : V} {d : PyData} {xs' : List NX} (q1 : H a = some (DnO (WP.P K) (WP.w K) a xs)) (q3 : KvR K H vs ds) (hv : Vl K H v d) (kn : KN H (putK vs k v) xs') :
    OwnX K (upd H a (DnO (WP.P K) (WP.w K) a xs')) a (.dN (putD ds k d)) :=
  ⟨xs', putK vs k v, upd_same, kn.up (ext_up q1), (q3.put hv).imlf (Im.mut q1 trivial) _ _ trivial⟩
theorem rs_dputN {i : Nat} {ty tv : TE} {gk gv : Ro → M C} (h1 : RE K tv gv) (h2 : RE K ty gk) : RS K (sDPutN (WP.P K) (WP.w K) (tVar i) ty tv) (mNPut i gv gk) := by
  intro tp He Hq ρ σ H D r h
  unfold mNPut nputAt at h
  split at h
  · rename_i ds e
    refine h1 tp He Hq ρ σ H _ r (wp0_mono (fun cv hcv => ?_) (wp0_bind.mp h))
    intro v H1 g1 t1 rv
    have r1 := r.go g1 t1
    obtain ⟨a, hs, _⟩ := r1.setO e
    refine ⟨.ref a, hs, ?_⟩
    refine h2 tp He Hq ρ σ H1 _ r1 (wp0_mono (fun ck hck => ?_) (wp0_bind.mp hcv))
    intro y H3 g3 t3 ry
    have r3 := r1.go g3 t3
    have rv3 := rv.gr g3 t1
    obtain ⟨a', hs', ⟨xs, vs, q1, q2, q3⟩, put⟩ := r3.setO e
    have : a' = a := by rw [hs] at hs'; cases hs'; rfl
    subst this
    unfold kPutN at hck
    split at hck
    · rename_i d kd
      split at hck
      · rename_i k ek
        split at hck
        · rename_i lo
          have lo' := lenOk_le lo
          obtain ⟨b, rfl, hb⟩ := nkD_vl ry.1 ek
          refine ⟨a', rfl, xs, vs, k, b, q1, q2, rfl, hb, by rw [q3.len]; omega, fun xs' kn => ?_⟩
          exact (show NxOk tp K He Hq D.nx _ from hck) σ _ Hq .refl (put _ _ (XD.put q1 q3 rv3.1 kn))
        · exact hck.elim
      · exact hck.elim
    · exact hck.elim
  · exact h.elim
/-! {k: v for ..} -/
def putCN (acc : List (NestedKey × PyData)) : C → C → Option (List (NestedKey × PyData))
  | .val kd, .val vd => (match nkD kd with
    | some k => if lenOk (acc.length + 1) = true then some (putD acc k vd) else none
    | none => none)
  | _, _ => none
def dcLN (a : C → Ro → M Ro) (c : Ro → M Bool) (gk gv : Ro → M C) : List PyData → Ro → List (NestedKey × PyData) → M C
  | [], _, acc => .ret (.own (.xo (.dN acc)))
  | d :: ds, ρ, acc => (a (.val d) ρ).bind fun ρ1 => (c ρ1).bind fun b => if b = true then (gk ρ1).bind (fun ck => (gv ρ1).bind fun cv => match putCN acc ck cv with
    | some acc' => dcLN a c gk gv ds ρ acc'
    | none => .fail) else dcLN a c gk gv ds ρ acc
def gDcN (its : Ro → M (List PyData)) (a : C → Ro → M Ro) (c : Ro → M Bool) (gk gv : Ro → M C) (vs : List Nat) (ρ : Ro) : M C := (its ρ).bind fun ds => dcLN a c gk gv ds (wipeR ρ vs) []
theorem re_dcN {wi : TI} {g : TG} {tt : TT} {tk tv : TE} {its : Ro → M (List PyData)} {a : C → Ro → M Ro} {c : Ro → M Bool} {gk gv : Ro → M C} {sl vs : List Nat} {s : Bool} (hi : RI K s wi its) (hg : RG K g a sl) (hc : RT K tt c) (hk : RE K tk gk) (hv : RE K tv gv)
    (hs : ∀ j ∈ sl, j ∈ vs) : RE K (tDcN (WP.P K) (WP.w K) wi g tt tk tv vs) (gDcN its a c gk gv vs) := by
  intro tp He Hq ρ σ H Q r h
  refine hi tp He Hq ρ σ H _ r (wp0_mono (fun ds hd => ?_) (wp0_bind.mp h))
  intro J H1 pa g1 t1 f w np _ D hD
  have r1 := r.go g1 t1
  have tD : TNe tp D := t1.tne hD
  have zl : sizeLine = 16777216 := by decide
  have upG : ∀ {H2 : Hp} {o : HO}, GrT tp H1 H2 → GrT tp H1 (upd H2 D o) := fun {H2 o} g b u e n => by
    have hne : b ≠ D := fun z => by subst z; rw [hD] at e; cases e
    rw [upd_ne hne]
    exact g b u e n
  have upT : ∀ {H2 : Hp} {o : HO}, TOk tp H2 → TOk tp (upd H2 D o) := fun {H2 o} t a l e => (t a l e).upd (tD a l e).1 (tD a l e).2
  refine ⟨fun i m H' => m = ds.length - i ∧ i ≤ ds.length ∧ ∃ acc, OwnX K H' D (.dN acc) ∧ GrT tp H1 H' ∧ TOk tp H' ∧ wp0 (dcLN a c gk gv (ds.drop i) (wipeR ρ vs) acc) (Post tp K H Q),
    ⟨ds.length, rfl, Nat.zero_le _, [], ⟨[], [], upd_same, .nil, rfl, .nil⟩, upG .refl, upT t1, hd⟩, ?_⟩
  rintro i m H' ⟨rfl, hi, acc, own, g', t', h'⟩
  obtain ⟨st, go⟩ := w H' (g'.im t1) (fun p hp o e => g' p o e (np p hp))
  by_cases hlt : i < ds.length
  · obtain ⟨d, hd'⟩ : ∃ d, ds[i]? = some d := ⟨ds[i], List.getElem?_eq_getElem hlt⟩
    obtain ⟨go1, yl⟩ := go i d hd'
    have ed : ds.drop i = d :: ds.drop (i + 1) := by
      rw [List.drop_eq_getElem_cons hlt]
      have : ds[i] = d := by rw [List.getElem?_eq_getElem hlt] at hd'; exact Option.some.inj hd'
      rw [this]
    rw [ed] at h'
    refine .inr ⟨go1, fun H2 => ∃ acc, OwnX K H2 D (.dN acc) ∧ GrT tp H1 H2 ∧ TOk tp H2 ∧ wp0 (dcLN a c gk gv (ds.drop (i + 1)) (wipeR ρ vs) acc) (Post tp K H Q),
      fun H2 ⟨acc, q⟩ => ⟨ds.length - (i + 1), by omega, rfl, hlt, acc, q⟩, fun x H2 y => ?_⟩
    obtain ⟨sm, dp⟩ := yl x H2 y
    have rw' := ((r1.go g' t').wipe vs)
    refine hg tp He Hq _ _ H' H2 x (.val d) _ rw' (.of sm) (t'.same sm) ⟨dp, rfl⟩ (wp0_mono (fun ρ1 h1 => ?_) (wp0_bind.mp (show wp0 ((a (.val d) (wipeR ρ vs)).bind _) _ from h')))
    intro σ2 off r2
    refine ⟨wipe_off off hs, ?_⟩
    refine hc tp He Hq ρ1 σ2 H2 _ r2 (wp0_mono (fun b hb => ?_) (wp0_bind.mp h1))
    intro H3 g3 t3
    have g13 : GrT tp H1 H3 := (g'.trans (.of sm)).trans g3
    have im3 : Im H' H3 := (Im.same sm).trans (g3.im (t'.same sm))
    have own3 : OwnX K H3 D (.dN acc) := own.to im3 fun φ e => g3 D _ (sm D _ e) tD.ne
    cases b with
    | true =>
      rw [if_pos rfl] at hb ⊢
      refine hk tp He Hq ρ1 σ2 H3 _ (r2.go g3 t3) (wp0_mono (fun ck hck => ?_) (wp0_bind.mp hb))
      intro y H4 g4 t4 ry
      refine hv tp He Hq ρ1 σ2 H4 _ ((r2.go g3 t3).go g4 t4) (wp0_mono (fun cv hcv => ?_) (wp0_bind.mp hck))
      intro v H5 g5 t5 rv
      have g35 := g4.trans g5
      have own5 : OwnX K H5 D (.dN acc) := own3.to (g35.im t3) fun φ e => g35 D _ e tD.ne
      obtain ⟨xs, kvs, q1, q2, q3⟩ := own5
      have ry5 := ry.gr g5 t4
      cases ep : putCN acc ck cv with
      | none => rw [ep] at hcv; exact hcv.elim
      | some acc' =>
        rw [ep] at hcv
        unfold putCN at ep
        split at ep
        · rename_i kd vd
          split at ep
          · rename_i k ek
            split at ep
            · rename_i lo
              cases ep
              have lo' := lenOk_le lo
              obtain ⟨q, rfl, hq⟩ := nkD_vl ry5.1 ek
              exact ⟨xs, kvs, k, q, q1, q2, rfl, hq, by rw [q3.len]; omega, fun xs' kn => ⟨putD acc k vd, XD.put q1 q3 rv.1 kn, upG (g13.trans g35), upT t5, hcv⟩⟩
            · cases ep
          · cases ep
        · cases ep
    | false =>
      rw [if_neg Bool.false_ne_true] at hb ⊢
      exact ⟨acc, own3, g13, t3, hb⟩
  · have e1 : i = ds.length := by omega
    subst e1
    rw [List.drop_length] at h'
    exact .inl ⟨st, (show Post tp K H Q (.own (.xo (.dN acc))) from h') _ H' (g1.trans g') t' ⟨D, rfl, g1.free t1 hD, tD, own⟩⟩
/-! ### sets -/
def C.sN : C → Option (List NestedKey)
  | .own (.xo (.sN ks)) => some ks
  | .bor (.xo (.sN ks)) => some ks
  | _ => none
theorem RC.sN {v : V} {c : C} {ks : List NestedKey} (h : RC tp K H0 H v c) (e : c.sN = some ks) : ∃ a L, v = .ref a ∧ Rd H a (SnO (WP.w K) a L) ∧ (∀ p ∈ L, KeyH H p.2 p.1) ∧ (L.map fun p => p.2).Perm ks := by
  unfold C.sN at e
  split at e
  · cases e
    obtain ⟨a, rfl, _, _, L, h1, h2, h3⟩ := h
    exact ⟨a, L, rfl, .inl h1, h2, h3⟩
  · cases e
    obtain ⟨a, rfl, L, h1, h2, h3⟩ := h
    exact ⟨a, L, rfl, h1.1, h2, h3⟩
  · cases e
theorem nkDs_vl : ∀ {ds : List PyData} {us : List V} {ks : List NestedKey}, VlAll K H us ds → nkDs ds = some ks → ∃ ps : List NP, us = ps.map (fun p => V.ref p.1) ∧ ps.map (·.2) = ks ∧ ∀ p ∈ ps, KeyH H p.2 p.1
  | [], _, _, h, e => by cases h; cases e; exact ⟨[], rfl, rfl, fun _ m => nomatch m⟩
  | d :: ds, _, ks, h, e => by
    cases h with
    | cons h1 h2 =>
      unfold nkDs at e
      split at e
      · rename_i k ks' e1 e2
        cases e
        obtain ⟨b, rfl, hb⟩ := nkD_vl h1 e1
        obtain ⟨ps, rfl, rfl, q⟩ := nkDs_vl h2 e2
        refine ⟨(b, k) :: ps, rfl, rfl, fun p m => ?_⟩
        rcases List.mem_cons.mp m with rfl | m
        · exact hb
        · exact q p m
      · cases e
def oSetN : List C → M C
  | [.val (.tuple ds)] => (match nkDs ds with
    | some ks => if (setN ks).length < 63 then .ret (.own (.xo (.sN (setN ks)))) else .fail
    | none => .fail)
  | _ => .fail
theorem cs_setN : CallS K (rSetN K (WP.w K)) oSetN := by
  intro tp H0 H vs cs Q g t r h
  unfold oSetN at h
  split at h
  · rename_i ds
    obtain ⟨v, rfl, q⟩ := r.one
    split at h
    · rename_i ks e
      split at h
      · rename_i few
        obtain ⟨q, _⟩ := q
        cases q with
        | tup h1 h2 =>
          rename_i l us
          obtain ⟨ps, rfl, rfl, hk⟩ := nkDs_vl h2 e
          refine ⟨l, ps, rfl, SqT.of h1, hk, few, fun a L ha sub pm => ?_⟩
          refine (show Post tp K H0 Q _ from h) _ _ (g.trans (.of (Same.new ha))) (t.same (Same.new ha)) ⟨a, rfl, g.free t ha, t.tne ha, L, upd_same, fun p m => ?_, pm⟩
          exact (hk p (sub p m)).up fun b us e => by
            rw [upd_ne fun z => by subst z; rw [ha] at e; cases e]
            exact e
      · exact h.elim
    · exact h.elim
  · exact h.elim
def oSetN0 : List C → M C
  | [] => .ret (.own (.xo (.sN [])))
  | _ => .fail
theorem cs_setN0 : CallS K (rSetN0 (WP.w K)) oSetN0 := by
  intro tp H0 H vs cs Q g t r h
  unfold oSetN0 at h
  split at h
  · cases vs with
    | nil => exact ⟨rfl, fun a ha => (show Post tp K H0 Q _ from h) _ _ (g.trans (.of (Same.new ha))) (t.same (Same.new ha)) ⟨a, rfl, g.free t ha, t.tne ha, [], upd_same, (fun _ m => nomatch m), List.Perm.refl _⟩⟩
    | cons _ _ => exact r.elim
  · exact h.elim
def oSIn (n : Bool) : C → C → M C
  | .val d, c => (match nkD d, c.sN with
    | some k, some ks => .ret (.val (.bool (n ^^ decide (k ∈ ks))))
    | _, _ => .fail)
  | _, _ => .fail
theorem os_sinN {n : Bool} : OpS K (rInN (WP.w K) n) (oSIn n) := by
  intro tp H0 H x y cx cy Q g t rx ry h
  unfold oSIn at h
  split at h
  · rename_i d
    split at h
    · rename_i k ks e1 e2
      obtain ⟨b, rfl, hb⟩ := nkD_vl rx.1 e1
      obtain ⟨a, L, rfl, rd, hk, pm⟩ := ry.sN e2
      refine ⟨k, b, a, L, rfl, rfl, hb, rd, hk, ?_⟩
      have : decide (k ∈ L.map fun p => p.2) = decide (k ∈ ks) := by
        by_cases c : k ∈ ks
        · rw [decide_eq_true c, decide_eq_true (pm.mem_iff.mpr c)]
        · rw [decide_eq_false c, decide_eq_false fun z => c (pm.mem_iff.mp z)]
      rw [show decide (k ∈ L.map (·.2)) = decide (k ∈ ks) from this]
      exact Post.bl h g t
    · exact h.elim
  · exact h.elim
def oSLen : List C → M C
  | [c] => (match c.sN with
    | some ks => .ret (.val (.int ks.length))
    | none => .fail)
  | _ => .fail
theorem cs_lenN : CallS K (rLenN (WP.w K)) oSLen := by
  intro tp H0 H vs cs Q g t r h
  unfold oSLen at h
  split at h
  · obtain ⟨v, rfl, q⟩ := r.one
    split at h
    · rename_i ks e
      obtain ⟨a, L, rfl, rd, hk, pm⟩ := q.sN e
      refine ⟨a, L, rfl, rd, hk, ?_⟩
      have e2 := pm.length_eq
      rw [List.length_map] at e2
      rw [e2]
      exact Post.int h g t
    · exact h.elim
  · exact h.elim
/-! s.add(k) -/
def sAddAt (i : Nat) (g : Ro → M C) (ρ : Ro) : Option (Option C) → M Res
  | some (some (.own (.xo (.sN ks)))) => (g ρ).bind fun c => (match c with
    | .val d => (match nkD d with
      | some k => if ks.length < 63 then .ret (.nx (ρ.set i (some (.own (.xo (.sN (addN ks k))))))) else .fail
      | none => .fail)
    | _ => .fail)
  | _ => .fail
def mSAdd (i : Nat) (g : Ro → M C) (ρ : Ro) : M Res := sAddAt i g ρ ρ[i]?
theorem rs_sadd {i : Nat} {te : TE} {g : Ro → M C} (h1 : RE K te g) : RS K (tDrop (fun σ H Q => tVar i σ H fun x H1 => (∃ a L, x = V.ref a ∧ H1 a = some (SnO (WP.w K) a L)) ∧ te σ H1 fun y H2 => rAddN (WP.w K) x [y] H2 Q)) (mSAdd i g) := by
  intro tp He Hq ρ σ H D r h
  unfold mSAdd sAddAt at h
  split at h
  · rename_i ks e
    obtain ⟨a, hs, ⟨L, q1, q2, q3⟩, _⟩ := r.setO e
    refine ⟨_, hs, ⟨a, L, rfl, q1⟩, h1 tp He Hq ρ σ H _ r (wp0_mono (fun c hc => ?_) (wp0_bind.mp h))⟩
    intro y H1 g1 t1 ry
    split at hc
    · rename_i d
      split at hc
      · rename_i k ek
        split at hc
        · rename_i few
          have r1 := r.go g1 t1
          obtain ⟨a', hs', ⟨L', p1, p2, p3⟩, put⟩ := r1.setO e
          have : a' = a := by rw [hs] at hs'; cases hs'; rfl
          subst this
          obtain ⟨b, rfl, hb⟩ := nkD_vl ry.1 ek
          have e3 := p3.length_eq
          rw [List.length_map] at e3
          refine ⟨k, b, a', L', rfl, rfl, hb, p1, p2, by omega, fun L2 sub pm => ?_⟩
          refine (show NxOk tp K He Hq D.nx _ from hc) σ _ Hq .refl (put _ _ ⟨L2, upd_same, fun p m => ?_, pm.trans (perm_addN p3 k)⟩)
          rcases sub p m with rfl | m
          · exact hb.up (ext_up p1)
          · exact (p2 p m).up (ext_up p1)
        · exact hc.elim
      · exact hc.elim
    · exact hc.elim
  · exact h.elim
end
end Cs

set_option maxRecDepth 100000
set_option maxHeartbeats 4000000
/-! such dicts, walked while they are locked -/
namespace Cs
open PySem PySem.Spec PyProof.Rows L2
section
variable {tp : Option (Addr × Addr)} {K : PySem.W.Frag} [WP K] {H H' H'' H0 H1 H2 He : Hp} {Hq : Hp} {σ : L2.St} {ρ : Ro}
theorem Rel.lockN {i : Nat} {ds : List (NestedKey × PyData)} (r : Rel tp K He Hq H σ ρ) (e : ρ[i]? = some (some (.own (.xo (.dN ds))))) : ∃ a xs, σ[i]? = some (some (.ref a)) ∧ H a = some (DnO (WP.P K) (WP.w K) a xs) ∧ TNe tp a ∧
    ∀ od, ∃ Hq3, Rel tp K He Hq3 (upd H a (.frz od (DnO (WP.P K) (WP.w K) a xs))) σ (ρ.set i (some (.bor (.xo (.lN ds))))) := by
  obtain ⟨v, h1, a, e2, f, n, xs, vs, q1, q2, q3⟩ := r.at_ i _ e
  subst e2
  refine ⟨a, xs, h1, q1, n, fun od => ?_⟩
  have nown : ∀ (j : Nat) (o : PO), (ρ.set i none)[j]? = some (some (.own o)) → σ[j]? ≠ some (some (.ref a)) := fun j o ej hs => by
    obtain ⟨n1, e'⟩ := Rel.forgot ej
    exact n1 (r.dist i j a _ _ e e' h1 hs)
  have np : ∀ p ∈ [a], tp.map (·.1) ≠ some p := fun p m => by
    have : p = a := by simpa using m
    subst this
    exact n.ne
  have w : Wk K H ⟨fun _ _ => False, fun _ _ _ _ => False, fun _ _ => True⟩ [a] [] := fun H' _ _ => ⟨trivial, fun i d z => by simp at z⟩
  obtain ⟨Hq2, g2, r2, _, im, eqs⟩ := (r.forget (i := i)).more (pa := [a]) (fun p j o m ej => by
    have : p = a := by simpa using m
    subst this
    exact nown j o ej) np w
  have ea : Hq2 a = some (DnO (WP.P K) (WP.w K) a xs) := (eqs a n.ne nown).trans q1
  have imH : Im H (upd H a (.frz od (DnO (WP.P K) (WP.w K) a xs))) := Im.mut q1 trivial
  have imQ : Im Hq2 (upd Hq2 a (.frz od (DnO (WP.P K) (WP.w K) a xs))) := Im.mut ea trivial
  have rdq : ∀ {b : Addr} {u : HO}, Rd Hq2 b u → Rd (upd Hq2 a (.frz od (DnO (WP.P K) (WP.w K) a xs))) b u := fun {b u} h => by
    by_cases hb : b = a
    · subst hb
      rcases h with h | ⟨o, h⟩
      · rw [ea] at h; cases h; exact .inr ⟨od, upd_same⟩
      · rw [ea] at h; cases h
    · rcases h with h | ⟨o, h⟩
      · exact .inl (by rw [upd_ne hb]; exact h)
      · exact .inr ⟨o, by rw [upd_ne hb]; exact h⟩
  have borq : ∀ {b : Addr} {o : PO}, BorO tp K Hq2 b o → BorO tp K (upd Hq2 a (.frz od (DnO (WP.P K) (WP.w K) a xs))) b o := fun {b o} h => by
    cases o with
    | lst es => obtain ⟨us, p1, p2, p3⟩ := h; exact ⟨us, ⟨rdq p1.1, p1.2⟩, p2.imlf imQ _ _ p3, p3⟩
    | dT es => obtain ⟨us, p1, p2, p3⟩ := h; exact ⟨us, ⟨rdq p1.1, p1.2⟩, p2.imlf imQ _ _ p3, p3⟩
    | dK es => obtain ⟨us, p1, p2, p3⟩ := h; exact ⟨us, ⟨rdq p1.1, p1.2⟩, p2.imlf imQ _ _ p3, p3⟩
    | lT es =>
      obtain ⟨us, ⟨⟨o, p1⟩, p4⟩, p2, p3⟩ := h
      exact ⟨us, ⟨⟨o, imQ.frz _ _ _ p1⟩, p4⟩, p2.imlf imQ _ _ p3, p3⟩
    | xo x => exact BorX.to h imQ (fun φ e => ⟨rdq e.1, e.2⟩) fun φ e => ⟨e.1.elim fun o q => ⟨o, imQ.frz _ _ _ q⟩, e.2⟩
  have r3 : Rel tp K He (upd Hq2 a (.frz od (DnO (WP.P K) (WP.w K) a xs))) (upd H a (.frz od (DnO (WP.P K) (WP.w K) a xs))) σ (ρ.set i none) := by
    refine ⟨r2.len, fun j c ej => ?_, r2.dist, fun b o eb nb => ?_, fun b o eb nb => ?_, fun t l et => (r2.tok t l et).upd (n t l et).1 (n t l et).2, fun t l et => ?_⟩
    · obtain ⟨u, p1, p2⟩ := r2.at_ j c ej
      refine ⟨u, p1, ?_⟩
      cases c with
      | val d => exact ⟨p2.1.imlf imH d _ p2.2, p2.2⟩
      | own o =>
        obtain ⟨b, eb, fb, nb, q⟩ := p2
        have hne : b ≠ a := fun z => by subst z; rw [ea] at fb; cases fb
        exact ⟨b, eb, by rw [upd_ne hne]; exact fb, nb, q.upd hne q1 trivial⟩
      | bor o =>
        obtain ⟨b, eb, q⟩ := p2
        exact ⟨b, eb, borq q⟩
      | tape => exact p2
    · have hne : b ≠ a := fun z => by subst z; have := r.sub b o eb nb; rw [f] at this; cases this
      rw [upd_ne hne]
      exact r2.sub b o eb nb
    · by_cases hb : b = a
      · subst hb; rw [upd_same] at eb; rw [upd_same]; exact eb
      · rw [upd_ne hb] at eb; rw [upd_ne hb]; exact r2.gr b o eb nb
    · have hne : t ≠ a := fun z => (n t l et).1 z.symm
      rw [upd_ne hne]
      exact r2.he t l et
  have r4 := r3.put (i := i) (v := .ref a) (c := .bor (.xo (.lN ds))) ⟨a, rfl, xs, vs, ⟨⟨od, upd_same⟩, n.ne⟩, q2.up fun b us eb => imQ.tup _ _ (im.tup _ _ eb), (q3.imlf im _ _ trivial).imlf imQ _ _ trivial⟩ (fun _ _ z => by cases z)
  rw [List.set_set] at r4
  have es : σ.set i (some (.ref a)) = σ := by
    refine List.ext_getElem? fun j => ?_
    by_cases hij : i = j
    · subst hij
      rw [List.getElem?_set_self (List.getElem?_eq_some_iff.mp h1).1, h1]
    · rw [List.getElem?_set_ne hij]
  rw [es] at r4
  exact ⟨_, r4⟩
def nlockAt (i : Nat) (g : Ro → M C) (ρ : Ro) : Option (Option C) → M C
  | some (some (.own (.xo (.dN ds)))) => (g (ρ.set i (some (.bor (.xo (.lN ds)))))).bind lockC
  | _ => .fail
def gLockN (i : Nat) (g : Ro → M C) (ρ : Ro) : M C := nlockAt i g ρ ρ[i]?
theorem re_lockN {i : Nat} {t : TE} {g : Ro → M C} (h1 : RE K t g) : RE K (tLockE t) (gLockN i g) := by
  intro tp He Hq ρ σ H Q r h
  unfold gLockN nlockAt at h
  split at h
  · rename_i ds e
    obtain ⟨a, xs, hs, hH, na, q⟩ := r.lockN e
    refine ⟨a, _, hH, trivial, fun od => ?_⟩
    obtain ⟨Hq3, r3⟩ := q od
    refine h1 tp He Hq3 _ σ _ _ r3 (wp0_mono (fun c hc => ?_) (wp0_bind.mp h))
    intro v H2 g2 t2 rc
    have hf : H2 a = some (.frz od (DnO (WP.P K) (WP.w K) a xs)) := g2 a _ upd_same na.ne
    refine ⟨hf, ?_⟩
    have gg : GrT tp H (upd H2 a (DnO (WP.P K) (WP.w K) a xs)) := fun b o eb nb => by
      by_cases hb : b = a
      · subst hb; rw [upd_same, ← eb, hH]
      · rw [upd_ne hb]
        exact g2 b o (by rw [upd_ne hb]; exact eb) nb
    have tt : TOk tp (upd H2 a (DnO (WP.P K) (WP.w K) a xs)) := fun t l et => by
      exact (t2 t l et).upd (na t l et).1 (na t l et).2
    unfold lockC at hc
    split at hc
    · rename_i d
      exact hc v _ gg tt ⟨Vl.unl hf (fun _ z => by cases z) d v rc.1, rfl⟩
    · rename_i o
      obtain ⟨b, rfl, fb, nb, q⟩ := rc
      have hne : b ≠ a := fun z => by subst z; rw [upd_same] at fb; cases fb
      refine hc _ _ gg tt ⟨b, rfl, by rwa [upd_ne hne] at fb, nb, ?_⟩
      cases o with
      | lst es => obtain ⟨us, p1, p2, p3⟩ := q; exact ⟨us, by rw [upd_ne hne]; exact p1, VlAll.unl hf (fun _ z => by cases z) _ _ p2, p3⟩
      | dT es => obtain ⟨us, p1, p2, p3⟩ := q; exact ⟨us, by rw [upd_ne hne]; exact p1, ⟨p2.1, VlAll.unl hf (fun _ z => by cases z) _ _ p2.2⟩, p3⟩
      | dK es => obtain ⟨us, p1, p2, p3⟩ := q; exact ⟨us, by rw [upd_ne hne]; exact p1, ⟨p2.1, VlAll.unl hf (fun _ z => by cases z) _ _ p2.2⟩, p3⟩
      | lT _ => exact q.elim
      | xo x => exact OwnX.unl hf (fun _ z => by cases z) hne q
    · exact hc.elim
  · exact h.elim
/-! the keys of a locked dict -/
def nkeysAt : Option (Option C) → M (List PyData)
  | some (some (.bor (.xo (.lN ds)))) => .ret (ds.map fun kv => kv.1.data)
  | _ => .fail
def gKeysN (i : Nat) (ρ : Ro) : M (List PyData) := nkeysAt ρ[i]?
theorem ri_keysN {i : Nat} {s : Bool} : RI K s (iKeysN (WP.P K) (WP.w K) (tVar i)) (gKeysN i) := by
  intro tp He Hq ρ σ H Q r h
  unfold gKeysN nkeysAt at h
  split at h
  · rename_i ds e
    obtain ⟨v, h1, a, ev, h2⟩ := r.at_ i _ e
    subst ev
    have h3 := r.bor (o := .xo (.lN ds)) h2
    obtain ⟨xs, vs, ⟨⟨o, q1⟩, q4⟩, q2, q3⟩ := h3
    refine ⟨.ref a, h1, a, o, xs, rfl, q1, (show ∀ J H1 pa, _ from h) _ H [] .refl r.tok rfl ?_ (fun _ m => by simp at m) (fun _ _ _ _ m => by simp at m)⟩
    intro H' im _
    have hf := im.frz _ _ _ q1
    have hl : ds.length = xs.length := q3.len.symm.trans q2.len
    have q2' := q2.up im.tup
    refine ⟨⟨hf, by rw [List.length_map, hl]; exact Nat.le_refl _⟩, fun j d ej => ?_⟩
    rw [List.getElem?_map] at ej
    cases ed : ds[j]? with
    | none => rw [ed] at ej; cases ej
    | some kv =>
      rw [ed] at ej
      cases ej
      have hj : j < ds.length := (List.getElem?_eq_some_iff.mp ed).1
      refine ⟨⟨hf, by omega⟩, fun x H'' y => ?_⟩
      obtain ⟨rfl, k, b, v, ek, rfl⟩ := y
      have : k = kv.1 := by
        have e1 := congrArg (fun l : List NestedKey => l[j]?) q3.1
        have e2 := congrArg (fun l : List NestedKey => l[j]?) q2.fst
        simp only [List.getElem?_map, ek, ed, Option.map_some] at e1 e2
        exact Option.some.inj (e2.symm.trans e1)
      subst this
      exact ⟨fun _ _ z => z, vl_key (q2'.keys _ (List.mem_of_getElem? ek))⟩
  · exact h.elim
end
end Cs

set_option maxRecDepth 100000
set_option maxHeartbeats 4000000
/-! tuple(a dict), list(reversed(a list)) -/
namespace Cs
open PySem PySem.W PyProof.Rows PyProof.V PySem.Spec PySem.Calls L2
section
variable {prog : Program} {w : World} {A : Around} {E : Value → Shared → Prop} {s : Shared}
/-- tuple(x), x a source of items -/
theorem src_tuple {T : String} {r d : Addr} {n : Nat} {Pv : Nat → Value → Prop} {OK : Heap → Prop} {Q : Value → Shared → Prop} (K : KdlSrc prog w T r d n Pv OK) (hh : A.handled = none) (ok : OK s.heap) (hn : n ≤ sizeLine) (q : ∀ (g : Heap) (tk : Nat) (acc : Array Value), (∀ b o, s.heap.get? b = some o → g.get? b = some o) → ItemsOf Pv acc n →
      Q (.ref g.objs.size) { s with heap := g.push { cls := .type "tuple", data := .seq acc }, toks := tk }) : wpAny (model prog w) A (call (.type "tuple") [.ref r]) Q E s := by
  have new : codeAny (model prog w) A.in1 (.call (.builtin "tuple.__new__") ⟨[.type "tuple", .ref r], []⟩) (wants (fun obj s₁ => s₁.TypeIs obj "tuple" ∧ Q obj s₁) E) s := by
    refine codeAny_of_tree ?_
    show wpAny _ A.in1.in1 (do checkBuiltinCall "tuple.__new__" ⟨[.type "tuple", .ref r], []⟩; again (.builtin "tuple.__new__" ⟨[.type "tuple", .ref r], []⟩)) _ _ s
    refine wpAny_bind (wpAny_of_eq (F.newCall_tuple_1 _) (wpAny_pure ⟨plainId_quiet F.plain_tuple_new _, codeAny_builtin F.entry_tuple_new ?_⟩)); rw [Around.under_plainId F.plain_tuple_new _]
    have f1 := sub_tuple_self
    have f2 := init_tuple_lookup
    have f3 := madeHere_tuple
    have ty : s.TypeIs (.ref r) T := K.type s ok
    have f4 := K.notList
    have f5 := K.notTuple
    have h1 : A.in1.in1.handled = none := hh
    wp_walk using wpAny_typeOf ty, kdu_collect (A := A.in1.in1) K h1 ok hn
    intro g tk acc k ha
    show wpAny _ _ (Builtin.Tuple.tupleExact acc.toList.toArray >>= fun v => ret v) _ _ _
    unfold Builtin.Tuple.tupleExact
    rw [show acc.toList.toArray = acc by simp]
    exact wpAny_bind (wpAny_newObj_type (wpAny_pure ⟨⟨_, Heap.get?_push_size _ rfl, rfl⟩, q g tk acc k ha⟩) (by show acc.size ≤ sizeLine; rw [ha.1]; exact hn))
  refine callType_codes (Q₁ := fun obj s₁ => s₁.TypeIs obj "tuple" ∧ Q obj s₁) F.called_tuple (F.typeCall_tuple_1 _) F.entry_object_init new fun obj s₁ h₁ => ?_
  exact ⟨h₁.1, F.args_object_init_2 obj _, object_init_meets F.called_tuple.init.lookup F.called_tuple.made (by decide) prog w A.in1 _ s₁ ⟨h₁.1, rfl, h₁.2⟩⟩
theorem rv_hint {it l : Addr} {i : Int} {Q : Bool → Shared → Prop} (hit : s.heap.IsRevIter it l i) (q : Q false s) : wpAny (model prog w) A (Builtin.List.listLengthHint (.ref it)) Q E s := by
  unfold Builtin.List.listLengthHint
  refine wpAny_bind (wpAny_specialOf hit.typeIs RT.nolen_lri ?_)
  show wpAny _ A (specialOf (Value.ref it) (Str.ofString "__length_hint__") >>= _) _ _ _
  refine wpAny_bind (wpAny_specialOf hit.typeIs RT.hint_lri ?_)
  generalize hid : ("list_reverseiterator.__length_hint__" : String) = id0
  wp_delta
  rw [show splitId id0 = some ("list_reverseiterator", "__length_hint__") from by subst hid; decide +kernel]
  subst hid
  exact wpAny_bind (wpAny_isInstance (b := true) hit.typeIs (by rw [isSubtype_type]; kernel_rfl) (wpAny_pure q))
/-- list(reversed(l)), the iterator made -/
theorem rv_list {it l : Addr} {items : Array Value} {Q : Value → Shared → Prop} (hh : A.handled = none) (hit : s.heap.IsRevIter it l ((items.size : Int) - 1)) (hl : s.heap.IsList l items) (hne : l ≠ it) (hn : items.size ≤ sizeLine)
    (q : ∀ (g : Heap) (tk : Nat) (acc : Array Value) (c : Nat), (∀ b o, b ≠ it → s.heap.get? b = some o → g.get? b = some o) → g.get? s.heap.objs.size = some { cls := .type "list", dict := none, data := .seq acc c, slots := #[] } → ItemsOf (fun i v => items[items.size - 1 - i]? = some v) acc items.size →
      Q (.ref s.heap.objs.size) { s with heap := g, toks := tk }) : wpAny (model prog w) A (call (.type "list") [.ref it]) Q E s := by
  obtain ⟨oi, hoi, _⟩ := id hit
  obtain ⟨ol, hol, _⟩ := id hl
  have ni : s.heap.objs.size ≠ it := Nat.ne_of_gt (Heap.lt_size hoi)
  have nl : s.heap.objs.size ≠ l := Nat.ne_of_gt (Heap.lt_size hol)
  refine callType_codes (Q₁ := fun obj s₁ => obj = .ref s.heap.objs.size ∧ s₁ = { s with heap := s.heap.push { cls := .type "list", data := .seq #[] } }) F.called_list (F.typeCall_list_1 _) F.entry_list_init (code_list_new _ ⟨rfl, rfl⟩) fun obj s₁ h₁ => ?_
  obtain ⟨rfl, rfl⟩ := h₁
  have hS : (s.heap.push { cls := .type "list", data := .seq #[] }).get? s.heap.objs.size = some { cls := .type "list", data := .seq #[] } := Heap.get?_push_size _ rfl
  refine ⟨⟨_, hS, rfl⟩, F.args_list_init_2 _ _, ?_⟩
  have h1 : A.in1.in1.handled = none := hh
  show wpAny _ _ (do let old ← Builtin.List.listItems (.ref s.heap.objs.size); Builtin.List.listUpdate (.ref s.heap.objs.size) (fun _ => #[]); letGo old.toList.reverse; Builtin.List.listExtendWith (.ref s.heap.objs.size) (.ref it) .none) _ _ _
  refine wpAny_bind ?_
  unfold Builtin.List.listItems
  refine wpAny_bind (wpAny_seqItems hS rfl (wpAny_pure ?_))
  show wpAny _ _ (updateSeq s.heap.objs.size (fun _ => #[]) >>= fun _ => letGo (#[] : Array Value).toList.reverse >>= fun _ => Builtin.List.listExtendWith (.ref s.heap.objs.size) (.ref it) .none) _ _ _
  refine wpAny_bind (wpAny_updateSeq hS rfl ?_)
  have hS2 := Heap.get?_update_self (Obj.mapSeq (fun _ => (#[] : Array Value))) hS rfl
  have oth : ∀ b o, b ≠ s.heap.objs.size → s.heap.get? b = some o → ((s.heap.push { cls := .type "list", data := .seq #[] }).update s.heap.objs.size (Obj.mapSeq (fun _ => (#[] : Array Value)))).get? b = some o :=
    fun b o hb e => (Heap.get?_update_other _ _ (Ne.symm hb)).trans (Heap.get?_push_of_some _ e)
  generalize ((s.heap.push { cls := .type "list", data := .seq #[] }).update s.heap.objs.size (Obj.mapSeq (fun _ => (#[] : Array Value)))) = g0 at hS2 oth ⊢
  refine wpAny_bind (wpAny_letGo ?_)
  have hit0 : g0.IsRevIter it l ((items.size : Int) - 1) := hit.at fun o e => oth it o ni.symm e
  have hl0 : g0.IsList l items := let ⟨o, ho, r⟩ := hl; ⟨o, oth l o nl.symm ho, r⟩
  have W := (Walks.listRev (prog := prog) (w := w) (A := A.in1.in1) h1 it l hne items).toS
  have Sf : s.heap.objs.size ∉ [it, l] := by
    simp only [List.mem_cons, List.not_mem_nil, or_false, not_or]
    exact ⟨ni, nl⟩
  unfold Builtin.List.listExtendWith
  refine wpAny_bind (wpAny_typeOf (s := { s with heap := g0 }) (Heap.IsRevIter.typeIs (s := { s with heap := g0 }) hit0) ?_)
  rw [if_neg (by
    rw [show Builtin.List.listSameRef (.ref s.heap.objs.size) (.ref it) = false by simp [Builtin.List.listSameRef, ni]]
    decide)]
  refine wpAny_bind (wpAny_pyIter_revIter (s := { s with heap := g0 }) hit0 ?_)
  refine wpAny_bind (wpAny_holding (rv_hint (s := { s with heap := g0 }) hit0 ?_))
  rw [if_neg (by decide)]
  have e0 : ((items.size : Nat) : Int) - 1 - ((0 : Nat) : Int) = (items.size : Int) - 1 := by omega
  refine wpAny_pure ⟨plainId_quiet F.plain_extend_loop _, codeAny_extend_loopS W hn _ Sf _ items.size 0 _ _ _ rfl (Nat.zero_le _) ⟨Nat.zero_le _, by rw [e0]; exact hit0, hl0⟩ hS2 (ItemsOf.nil _) fun s' acc' c' hm hS' hacc => ?_⟩
  rw [Moved.eq_with hm]
  refine ⟨rfl, q s'.heap s'.toks acc' c' (fun b o hb e => hm.heap b o (fun m => ?_) (oth b o (Nat.ne_of_lt (Heap.lt_size e)) e)) hS' hacc⟩
  rcases List.mem_cons.mp m with z | z
  · exact absurd (Heap.lt_size e) (by rw [z]; exact Nat.lt_irrefl _)
  · exact hb (List.mem_singleton.mp z)
end
/-- list(reversed(xs)) -/
def tLRev (K : PySem.W.Frag) (te : TE) : TE := fun σ H Q => te σ H fun v H1 => ∃ (a : Addr) (xs : List V), v = .ref a ∧ SqL K H1 a xs ∧ ∀ q, H1 q = none → Q (.ref q) (upd H1 q (.lst xs.reverse))
theorem pe_lrev {X : Cx} {e : Expr} {te : TE} {p p2 pos pos2 : Pos} (hc : X.calm = true) (hg : Gl X "list") (hm : X.mg "list" = none) (hg2 : Gl X "reversed") (hm2 : X.mg "reversed" = none) (he : PE X e te)
    (hs : starEach [e] X.env = (false, eval e X.env) :: starEach [] X.env := by rfl)
    (na : starEach [.Call (.Name "reversed" p2) [e] [] pos2] X.env = (false, eval (.Call (.Name "reversed" p2) [e] [] pos2) X.env) :: starEach [] X.env := by rfl) : PE X (.Call (.Name "list" p) [.Call (.Name "reversed" p2) [e] [] pos2] [] pos) (tLRev X.K te) := by
  refine ⟨fun pins s σ H Q I h => ?_⟩
  refine Call_ (ld_blt I hg hm boot_list (callWith_type1 (args_cons (Call_ (ld_blt I hg2 hm2 boot_reversed (callWith_type1 (args_cons (thn (he.run pins s σ H _ I h) fun u s1 ⟨v, H1, I1, r1, q1⟩ => args_nil ?_) hs) hs rfl))) na) na rfl))
  obtain ⟨a, xs, rfl, hq, q⟩ := q1
  obtain rfl : u = Value.ref a := r1
  obtain ⟨its, rv, pl, hz⟩ := I1.list hq
  refine call_reversed_list pl.isList (args_nil ?_)
  have I2 : Inv X pins σ H1 { s1 with heap := s1.heap.push (revObj a ((its.toArray.size : Int) - 1)) } := I1.kept (t' := s1.toks) fun b o e => Heap.get?_push_of_some _ e
  obtain ⟨f0, f1, f2, f3, f4, f5⟩ := I1.fpOk (H' := H1) (b := s1.heap.objs.size) (Nat.le_refl _) (I1.hok.fresh (Nat.le_refl _))
  have hl := pl.isList
  obtain ⟨ol, hol, _⟩ := id hl
  have hn : its.toArray.size ≤ sizeLine := by rw [List.size_toArray, ← rv.length]; exact hz
  refine rv_list (s := { s1 with heap := s1.heap.push (revObj a ((its.toArray.size : Int) - 1)) }) (I1.ok.hd hc) ⟨_, Heap.get?_push_size _ rfl, rfl, rfl⟩ (hl.push _) (Nat.ne_of_lt (Heap.lt_size hol)) hn fun h' tk acc c hk hS hi => ?_
  have szp : (s1.heap.push (revObj a ((its.toArray.size : Int) - 1))).objs.size = s1.heap.objs.size + 1 := Heap.size_push ..
  have fr : H1 (s1.heap.push (revObj a ((its.toArray.size : Int) - 1))).objs.size = none := I1.hok.fresh (by rw [szp]; exact Nat.le_succ _)
  have big : ∀ b o, b ≠ s1.heap.objs.size → s1.heap.get? b = some o → h'.get? b = some o := fun b o hb e => hk b o hb (Heap.get?_push_of_some _ e)
  have I3 : Inv X pins σ H1 { s1 with heap := h', toks := tk } := I2.turned (t' := tk) (fun b o hb e => hk b o hb e) f0 f1 f3 f4 f5
  refine ⟨.ref (s1.heap.push (revObj a ((its.toArray.size : Int) - 1))).objs.size, upd H1 _ (.lst xs.reverse), ?_, rfl, q _ fr⟩
  refine I1.turnedNew (t' := tk) (h' := h') (ch := [s1.heap.objs.size]) (T := (s1.heap.push (revObj a ((its.toArray.size : Int) - 1))).objs.size) (ob := .lst xs.reverse) (fun b o hb e => big b o (by simpa using hb) e) (fun b hb => ?_) (by rw [szp]; exact Nat.le_succ _) ?_
  · rw [List.mem_singleton.mp hb]; exact ⟨f0, f1, f2, f3, f4, f5⟩
  · exact ⟨by rw [List.length_reverse]; exact hz, acc.toList, c, RT.vals_rev rv hi, by rw [Array.toArray_toList]; exact hS⟩
/-- tuple(d), d a dict of such keys -/
def rTupN (P : Program) (w : World) : List V → Hp → VK → Prop := fun vs H Q => ∃ (d : Addr) (xs : List NX) (kvs : List (NestedKey × V)), vs = [V.ref d] ∧ Rd H d (DnO P w d xs) ∧ KN H kvs xs ∧ ∀ p, H p = none → Q (.ref p) (upd H p (.tup (xs.map fun x => V.ref x.2.1)))
theorem cr_tupN {X : Cx} (hc : X.calm = true) : CallR X (.type "tuple") (rTupN X.prog X.w) := by
  intro pins s σ H vs us Q I r h
  obtain ⟨d, xs, kvs, rfl, rd, kn, q⟩ := h
  rw [Vals.ref1 r]
  obtain ⟨z1, z2, o, es, ep, h1, h2, h3, h4, h5⟩ := (rd_of I.hok rd).1
  have l1 : es.size = xs.length := size_of_entries h4
  refine src_tuple (kdl_raw z1 h2 h3) (I.ok.hd hc) h1 (by rw [l1]; exact z2) fun g tk acc k ha => ?_
  have ea : acc.toList = xs.map fun x => Value.ref x.2.1 := by
    apply List.ext_getElem?
    intro j
    rw [List.getElem?_map]
    cases hj : acc.toList[j]? with
    | none =>
      have := List.getElem?_eq_none_iff.mp hj
      rw [Array.length_toList, ha.1, l1] at this
      rw [List.getElem?_eq_none (by omega)]
      rfl
    | some v =>
      obtain ⟨en, hen, hv⟩ := ha.2 j v (by rw [← Array.getElem?_toList]; exact hj)
      have qe := entry_at h4 j
      rw [hen] at qe
      cases hb : xs[j]? with
      | none => rw [hb] at qe; cases qe
      | some b => rw [hb] at qe; cases qe; rw [hv]; rfl
  have I3 : Inv X pins σ H { s with heap := g, toks := tk } := I.kept (t' := tk) k
  refine ⟨.ref g.objs.size, _, I3.laid (t' := tk) (o := .tup (xs.map fun x => V.ref x.2.1)) (fun c ob e => Heap.get?_push_of_some _ e) (Nat.le_refl _) ?_, rfl, q _ (I3.hok.fresh (Nat.le_refl _))⟩
  have vr : ∀ ys : List NX, Vals (ys.map fun x => V.ref x.2.1) (ys.map fun x => Value.ref x.2.1) := fun ys => by
    induction ys with
    | nil => exact .nil
    | cons y ys ih => exact .cons rfl ih
  exact ⟨by rw [List.length_map]; exact z2, acc.toList, by rw [ea]; exact vr xs, by rw [Array.toArray_toList]; exact IsTup.new _ _⟩
end Cs

set_option maxRecDepth 100000
set_option maxHeartbeats 4000000
/-! lists handed over to a def; list(reversed(xs)), x = xs.pop(i), tuple(a dict) -/
namespace Cs
open PySem PySem.Spec PyProof.Rows L2
def delH (H : Hp) (a : Addr) : Hp := fun b => if b = a then none else H b
theorem delH_ne {H : Hp} {a b : Addr} (h : b ≠ a) : delH H a b = H b := if_neg h
theorem delH_of {H : Hp} {a b : Addr} {u : HO} (h : delH H a b = some u) : b ≠ a ∧ H b = some u := by
  unfold delH at h
  split at h
  · cases h
  · exact ⟨by assumption, h⟩
section
variable {tp : Option (Addr × Addr)} {K : PySem.W.Frag} [WP K] {H H' H'' H0 H1 H2 He : Hp} {Hq : Hp} {σ : L2.St} {ρ : Ro}
theorem OwnO.to {b : Addr} {o : PO} (h : OwnO K H b o) (e : Im H H') (f : ∀ u, H b = some u → H' b = some u) : OwnO K H' b o := by
  cases o with
  | lst ds => obtain ⟨vs, h1, h2, h3⟩ := h; exact ⟨vs, f _ h1, h2.imlf e ds _ h3, h3⟩
  | dT ds => obtain ⟨vs, h1, h2, h3⟩ := h; exact ⟨vs, f _ h1, h2.imlf e ds _ h3, h3⟩
  | dK ds => obtain ⟨vs, h1, h2, h3⟩ := h; exact ⟨vs, f _ h1, h2.imlf e ds _ h3, h3⟩
  | lT ds => exact h.elim
  | xo x => exact OwnX.to h e fun φ z => f _ z
theorem im_del {a : Addr} {u : HO} (h : H a = some u) (m : Mut (some u)) : Im H (delH H a) :=
  ⟨fun b xs e => by rw [delH_ne fun z => by subst z; rw [h] at e; cases e; exact m]; exact e,
   fun b o u' e => by rw [delH_ne fun z => by subst z; rw [h] at e; cases e; exact m]; exact e⟩
theorem gr_del {a : Addr} : GrT tp (delH H a) H := fun b o e _ => (delH_of e).2
theorem gr_del2 {a : Addr} (g : GrT tp H H1) : GrT tp (delH H a) (delH H1 a) := fun b o e n => by
  obtain ⟨h1, h2⟩ := delH_of e
  rw [delH_ne h1]
  exact g b o h2 n
theorem tok_del {a : Addr} (t : TOk tp H) (n : TNe tp a) : TOk tp (delH H a) := fun b l e => by
  obtain ⟨ns, p, r, s, h1, h2, q⟩ := (t b l e).ex
  exact ⟨⟨ns, p, r, s, by rw [delH_ne (n b l e).1.symm]; exact h1, by rw [delH_ne (n b l e).2.symm]; exact h2, q⟩, (t b l e).ne⟩
/-- what a slot owns, taken out -/
theorem Rel.del {i : Nat} {o : PO} {a : Addr} (r : Rel tp K He Hq H σ ρ) (e : ρ[i]? = some (some (.own o))) (hs : σ[i]? = some (some (.ref a))) :
    TNe tp a ∧ OwnO K H a o ∧ Hq a = none ∧ Rel tp K He Hq (delH H a) σ (ρ.set i none) := by
  obtain ⟨v, h1, b, ev, f, n, q⟩ := r.at_ i _ e
  rw [hs] at h1
  cases h1
  cases ev
  obtain ⟨u, hu, mu⟩ := q.mut
  have im := im_del hu mu
  refine ⟨n, q, f, ?_⟩
  refine ⟨by rw [List.length_set]; exact r.len, fun j c ej => ?_, fun j k b o1 o2 e1 e2 e3 e4 => ?_, r.sub, fun b o eb nb => ?_, tok_del r.tok n, r.he⟩
  · obtain ⟨hij, ej⟩ := Rel.forgot ej
    obtain ⟨v, h1, h2⟩ := r.at_ j c ej
    refine ⟨v, h1, ?_⟩
    cases c with
    | val d => exact ⟨h2.1.imlf im d _ h2.2, h2.2⟩
    | own o2 =>
      obtain ⟨b, eb, fb, nb, q2⟩ := h2
      subst eb
      have hne : b ≠ a := fun z => by subst z; exact hij (r.dist i j b _ _ e ej hs h1)
      exact ⟨b, rfl, fb, nb, q2.to im fun u z => by rw [delH_ne hne]; exact z⟩
    | bor o => exact h2
    | tape => exact h2
  · exact r.dist j k b o1 o2 (Rel.forgot e1).2 (Rel.forgot e2).2 e3 e4
  · rw [delH_ne fun z => by subst z; rw [f] at eb; cases eb]
    exact r.gr b o eb nb
/-- an expression that takes the thing out of slot i -/
def REm (K : PySem.W.Frag) [WP K] (i : Nat) (t : TE) (g : Ro → M C) : Prop := ∀ tp He Hq ρ σ H Q a o, Rel tp K He Hq H σ ρ → ρ[i]? = some (some (.own o)) → σ[i]? = some (some (.ref a)) → wp0 (g ρ) (Post tp K (delH H a) Q) → t σ H Q
def RAm (K : PySem.W.Frag) [WP K] (i : Nat) (t : TA) (gs : Ro → M (List C)) : Prop := ∀ tp He Hq ρ σ H Q a o, Rel tp K He Hq H σ ρ → ρ[i]? = some (some (.own o)) → σ[i]? = some (some (.ref a)) → wp0 (gs ρ) (PostA tp K (delH H a) Q) → t σ H Q
def mvAt (f : List C → M C) : Option (Option C) → Option (Option C) → M C
  | some (some .tape), some (some (.own o)) => f [.tape, .own o]
  | _, _ => .fail
def gMv (t i : Nat) (f : List C → M C) (ρ : Ro) : M C := mvAt f ρ[t]? ρ[i]?
theorem re_mv {t i : Nat} {f : List C → M C} : REm K i (tFn (spU K f) (tCons (tVar t) (tCons (tVar i) tNil))) (gMv t i f) := by
  intro tp He Hq ρ σ H Q a o r e hs h
  unfold gMv mvAt at h
  split at h
  · rename_i o' e1 e2
    rw [e] at e2
    cases e2
    obtain ⟨v, h1, h2⟩ := r.at_ t _ e1
    obtain ⟨n, q, f0, _⟩ := r.del e hs
    have un : ∀ {j : Nat} {oo : PO}, ([C.tape, .own o] : List C)[j]? = some (.own oo) → j = 1 := fun {j oo} z => by
      match j, z with
      | 0, z => cases z
      | 1, _ => rfl
      | j + 2, z => cases z
    refine ⟨v, h1, .ref a, hs, tp, [.tape, .own o], delH H a, ⟨r.tok, gr_del, fun b l eb => ?_, ⟨h2, ⟨a, rfl, if_pos rfl, n, q⟩, trivial⟩, fun j k b o1 o2 z1 z2 _ _ => (un z1).trans (un z2).symm⟩, h⟩
    obtain ⟨xs, hx⟩ := (r.tok b l eb).list
    exact .inr ⟨xs, by rw [delH_ne (n b l eb).1.symm]; exact hx⟩
  · exact h.elim
theorem reM_call {i : Nat} {r : List V → Hp → VK → Prop} {op : List C → M C} {t : TA} {gs : Ro → M (List C)} (ho : CallS K r op) (h1 : RAm K i t gs) : REm K i (tCB r t) (gCall op gs) := by
  intro tp He Hq ρ σ H Q a o rl e hs h
  refine h1 tp He Hq ρ σ H _ a o rl e hs (wp0_mono (fun cs hc => ?_) (wp0_bind.mp h))
  intro vs H1 g1 t1 rx
  exact ho tp (delH H a) H1 vs cs Q g1 t1 rx hc
def gaConsM (i : Nat) (g : Ro → M C) (gs : Ro → M (List C)) (ρ : Ro) : M (List C) := (g ρ).bind fun c => (gs (ρ.set i none)).bind fun cs => .ret (c :: cs)
theorem raM_here {i : Nat} {t : TE} {u : TA} {g : Ro → M C} {gs : Ro → M (List C)} (h1 : REm K i t g) (h2 : RA K u gs) : RAm K i (tCons t u) (gaConsM i g gs) := by
  intro tp He Hq ρ σ H Q a o r e hs h
  refine h1 tp He Hq ρ σ H _ a o r e hs (wp0_mono (fun c hc => ?_) (wp0_bind.mp h))
  intro x H1 g1 t1 rc
  obtain ⟨n, q, f0, r'⟩ := r.del e hs
  refine h2 tp He Hq _ σ H1 _ (r'.go g1 t1) (wp0_mono (fun cs hcs => ?_) (wp0_bind.mp hc))
  intro xs H2 g2 t2 rcs
  exact hcs (x :: xs) H2 (g1.trans g2) t2 ⟨rc.gr g2 t1, rcs.base g1 t1⟩
def consV (m : M (List C)) : C → M (List C)
  | .val d => m.bind fun cs => .ret (.val d :: cs)
  | _ => .fail
def gaConsV (g : Ro → M C) (gs : Ro → M (List C)) (ρ : Ro) : M (List C) := (g ρ).bind (consV (gs ρ))
theorem raM_next {i : Nat} {t : TE} {u : TA} {g : Ro → M C} {gs : Ro → M (List C)} (h1 : RE K t g) (h2 : RAm K i u gs) : RAm K i (tCons t u) (gaConsV g gs) := by
  intro tp He Hq ρ σ H Q a o r e hs h
  refine h1 tp He Hq ρ σ H _ r (wp0_mono (fun c hc => ?_) (wp0_bind.mp h))
  intro x H1 g1 t1 rc
  unfold consV at hc
  split at hc
  · rename_i d
    have r1 := r.go g1 t1
    obtain ⟨n, q, f0, _⟩ := r1.del e hs
    obtain ⟨u', hu, mu⟩ := q.mut
    have im := im_del hu mu
    refine h2 tp He Hq ρ σ H1 _ a o r1 e hs (wp0_mono (fun cs hcs => ?_) (wp0_bind.mp hc))
    intro xs H2 g2 t2 rcs
    have td : TOk tp (delH H1 a) := tok_del t1 n
    exact hcs (x :: xs) H2 ((gr_del2 g1).trans g2) t2 ⟨⟨(rc.1.imlf im d _ rc.2).imlf (g2.im td) d _ rc.2, rfl⟩, rcs.base (gr_del2 g1) td⟩
  · exact hc.elim
theorem reM_tup {i : Nat} {u : TA} {gs : Ro → M (List C)} (h1 : RAm K i u gs) : REm K i (tTup u) (gTupE gs) := by
  intro tp He Hq ρ σ H Q a o r e hs h
  refine h1 tp He Hq ρ σ H _ a o r e hs (wp0_mono (fun cs hcs => ?_) (wp0_bind.mp h))
  intro xs H1 g1 t1 rc
  unfold oTup at hcs
  split at hcs
  · rename_i ds ed
    obtain ⟨a1, a2⟩ := datas_dp rc ed
    split at hcs
    · rename_i l
      refine ⟨by rw [a1.len]; exact lenOk_le l, fun p hp => hcs _ _ (g1.trans (.of (Same.new hp))) (t1.same (Same.new hp)) ⟨.tup upd_same (a1.imlf (Im.new hp) ds _ a2), rfl⟩⟩
    · exact hcs.elim
  · exact hcs.elim
def retMAt (g : Ro → M C) (ρ : Ro) : Option (Option C) → M Res
  | some (some (.own _)) => (g ρ).bind fun c => .ret (.rt c)
  | _ => .fail
def mRetM (i : Nat) (g : Ro → M C) (ρ : Ro) : M Res := retMAt g ρ ρ[i]?
theorem rs_retM {i : Nat} {te : TE} {g : Ro → M C} (h1 : REm K i te g) : RS K (tRet te) (mRetM i g) := by
  intro tp He Hq ρ σ H D r h
  unfold mRetM retMAt at h
  split at h
  · rename_i o e
    obtain ⟨v, hs, a, ev, _⟩ := r.at_ i _ e
    subst ev
    obtain ⟨n, q, f0, r'⟩ := r.del e hs
    refine h1 tp He Hq ρ σ H _ a o r e hs (wp0_mono (fun c hc => ?_) (wp0_bind.mp h))
    intro x H1 g1 t1 rx
    exact hc x H1 ((r'.sub.trans r'.gr).trans g1) t1 (rx.base (r'.sub.trans r'.gr) r'.tok)
  · exact h.elim
def asgMAt (i : Nat) (g : Ro → M C) (a : C → Ro → M Ro) (ρ : Ro) : Option (Option C) → M Res
  | some (some (.own _)) => (g ρ).bind fun c => (a c (ρ.set i none)).bind fun ρ' => .ret (.nx ρ')
  | _ => .fail
def mAsgM (i : Nat) (g : Ro → M C) (a : C → Ro → M Ro) (ρ : Ro) : M Res := asgMAt i g a ρ ρ[i]?
theorem rs_asgM {i : Nat} {te : TE} {tg : TG} {g : Ro → M C} {a : C → Ro → M Ro} {sl : List Nat} (h1 : REm K i te g) (h2 : RG K tg a sl) : RS K (tAsg te tg) (mAsgM i g a) := by
  intro tp He Hq ρ σ H D r h
  unfold mAsgM asgMAt at h
  split at h
  · rename_i o e
    obtain ⟨v, hs, b, ev, _⟩ := r.at_ i _ e
    subst ev
    obtain ⟨n, q, f0, r'⟩ := r.del e hs
    refine h1 tp He Hq ρ σ H _ b o r e hs (wp0_mono (fun c hc => ?_) (wp0_bind.mp h))
    intro x H1 g1 t1 rx
    exact h2 tp He Hq _ σ (delH H b) H1 x c _ r' g1 t1 rx (wp0_mono (fun ρ' hρ σ' _ rr => hρ σ' H1 Hq .refl rr) (wp0_bind.mp hc))
  · exact h.elim
/-- a thing made in place, handed over -/
def fnO (f : List C → M C) : List C → M C
  | [.tape, .own o] => f [.tape, .own o]
  | [.own o] => f [.own o]
  | _ => .fail
theorem re_fnO {f : List C → M C} {t : TA} {gs : Ro → M (List C)} (h1 : RA K t gs) : RE K (tFn (spU K f) t) (gCall (fnO f) gs) := by
  intro tp He Hq ρ σ H Q r h
  refine h1 tp He Hq ρ σ H _ r (wp0_mono (fun cs hc => ?_) (wp0_bind.mp h))
  intro vs H1 g1 t1 rx
  unfold fnO at hc
  split at hc
  · rename_i o
    obtain ⟨v, w, rfl, q1, q2⟩ := rx.two
    refine ⟨tp, [.tape, .own o], H, ⟨t1, g1, fun b l eb => .inr (r.tok b l eb).list, ⟨q1, q2, trivial⟩, fun j k b o1 o2 z1 z2 _ _ => ?_⟩, hc⟩
    have un : ∀ {j : Nat} {oo : PO}, ([C.tape, .own o] : List C)[j]? = some (.own oo) → j = 1 := fun {j oo} z => by
      match j, z with
      | 0, z => cases z
      | 1, _ => rfl
      | j + 2, z => cases z
    exact (un z1).trans (un z2).symm
  · rename_i o
    obtain ⟨v, rfl, q1⟩ := rx.one
    refine ⟨tp, [.own o], H, ⟨t1, g1, fun b l eb => .inr (r.tok b l eb).list, ⟨q1, trivial⟩, fun j k b o1 o2 z1 z2 _ _ => ?_⟩, hc⟩
    have un : ∀ {j : Nat} {oo : PO}, ([C.own o] : List C)[j]? = some (.own oo) → j = 0 := fun {j oo} z => by
      match j, z with
      | 0, _ => rfl
      | j + 1, z => cases z
    exact (un z1).trans (un z2).symm
  · exact hc.elim
/-! list(reversed(xs)) -/
def oLRev : C → M C
  | .own (.lst ds) => .ret (.own (.lst ds.reverse))
  | .bor (.lst ds) => .ret (.own (.lst ds.reverse))
  | .val (.list ds) => .ret (.own (.lst ds.reverse))
  | _ => .fail
def gLRev (g : Ro → M C) (ρ : Ro) : M C := (g ρ).bind oLRev
theorem re_lrev {te : TE} {g : Ro → M C} (h1 : RE K te g) : RE K (tLRev K te) (gLRev g) := by
  intro tp He Hq ρ σ H Q r h
  refine h1 tp He Hq ρ σ H _ r (wp0_mono (fun c hc => ?_) (wp0_bind.mp h))
  intro v H1 g1 t1 rx
  have key : ∀ {a : Addr} {vs : List V} {ds : List PyData}, VlAll K H1 vs ds → Post tp K H Q (.own (.lst ds.reverse)) → ∀ q, H1 q = none → Q (.ref q) (upd H1 q (.lst vs.reverse)) := fun {a vs ds} hv hp q hq =>
    Post.lst hp g1 t1 hq (vlAll_rev hv) rfl
  unfold oLRev at hc
  split at hc
  · rename_i ds
    obtain ⟨a, rfl, _, _, vs, h1, h2, _⟩ := rx
    exact ⟨a, vs, rfl, SqL.of h1, key (a := a) h2 hc⟩
  · rename_i ds
    obtain ⟨a, rfl, vs, h1, h2, _⟩ := rx
    exact ⟨a, vs, rfl, h1.sq, key (a := a) h2 hc⟩
  · rename_i ds
    obtain ⟨rx, _⟩ := rx
    cases rx with
    | lst h1 h2 => exact ⟨_, _, rfl, h1.sq, key (a := 0) h2 hc⟩
  · exact hc.elim
/-! tuple(a dict) -/
def oTupN : List C → M C
  | [c] => (match c.kvN with
    | some ds => .ret (.val (.tuple (ds.map fun kv => kv.1.data)))
    | none => .fail)
  | _ => .fail
theorem cs_tupN : CallS K (rTupN (WP.P K) (WP.w K)) oTupN := by
  intro tp H0 H vs cs Q g t r h
  unfold oTupN at h
  split at h
  · obtain ⟨v, rfl, q⟩ := r.one
    split at h
    · rename_i ds e
      obtain ⟨a, xs, vs, rfl, rd, kn, kv⟩ := q.dN e
      refine ⟨a, xs, vs, rfl, rd, kn, fun p hp => ?_⟩
      have all : VlAll K H (xs.map fun x => V.ref x.2.1) (ds.map fun kv => kv.1.data) := by
        have e1 : ds.map (fun kv => kv.1.data) = (xs.map (·.1)).map NestedKey.data := by
          rw [← kn.fst, show vs.map (·.1) = ds.map (·.1) from kv.1, List.map_map]
          rfl
        rw [e1, List.map_map]
        have go : ∀ ys : List NX, (∀ x ∈ ys, KeyH H x.1 x.2.1) → VlAll K H (ys.map fun x => V.ref x.2.1) (ys.map (NestedKey.data ∘ fun x => x.1)) := fun ys => by
          induction ys with
          | nil => exact fun _ => .nil
          | cons y ys ih => exact fun hy => .cons (vl_key (hy y List.mem_cons_self)) (ih fun x m => hy x (List.mem_cons_of_mem _ m))
        exact go xs kn.keys
      exact Post.tup h g t hp all rfl
    · exact h.elim
  · exact h.elim
/-! x = xs.pop(i) -/
def kPopA (i : Nat) (ρ : Ro) (ds : List PyData) (a : C → Ro → M Ro) : C → M Res
  | .val (.int j) => if (decide (-9223372036854775808 ≤ j) && decide (j < 9223372036854775808)) = true then (match seqIndex? j ds.length with
      | some k => (match ds[k]? with
        | some d => (a (.val d) (setOwn i (ds.eraseIdx k) ρ)).bind fun ρ' => .ret (.nx ρ')
        | none => .fail)
      | none => .fail) else .fail
  | _ => .fail
def popAAt (i : Nat) (g : Ro → M C) (a : C → Ro → M Ro) (ρ : Ro) : Option (Option C) → M Res
  | some (some (.own (.lst ds))) => (g ρ).bind (kPopA i ρ ds a)
  | _ => .fail
def mPopA (i : Nat) (g : Ro → M C) (a : C → Ro → M Ro) (ρ : Ro) : M Res := popAAt i g a ρ ρ[i]?
theorem rs_popA {i : Nat} {te : TE} {g : Ro → M C} {tg : TG} {a : C → Ro → M Ro} {sl : List Nat} (h1 : RE K te g) (h2 : RG K tg a sl) : RS K (tAsg (tBM K "list" rPopAt (tVar i) (tCons te tNil)) tg) (mPopA i g a) := by
  intro tp He Hq ρ σ H D r h
  unfold mPopA popAAt at h
  split at h
  · rename_i ds e
    obtain ⟨b, vs, hs, hl, hd, hf, _⟩ := r.own (vs' := []) (ds' := []) e
    refine ⟨_, hs, .inl ⟨rfl, vs, SqL.of hl⟩, h1 tp He Hq ρ σ H _ r (wp0_mono (fun c hc => ?_) (wp0_bind.mp h))⟩
    intro x H1 g1 t1 rx
    unfold kPopA at hc
    split at hc
    · rename_i j
      cases rx.int
      obtain ⟨a', vs', hs', hl', hd', hf', up⟩ := (r.go g1 t1).own (vs' := []) (ds' := []) e
      split at hc
      · rename_i l
        simp only [Bool.and_eq_true, decide_eq_true_eq] at l
        split at hc
        · rename_i k ek
          split at hc
          · rename_i d ed
            obtain ⟨y, hy, vy⟩ := hd'.get ed
            refine ⟨a', vs', j, k, y, ?_, rfl, hl', l.1, l.2, by rw [hd'.len]; exact ek, hy, ?_⟩
            · rw [hs] at hs'; cases hs'; rfl
            have r2 := up _ _ (dp_erase k hd') rfl
            refine h2 tp He Hq _ σ _ _ y (.val d) _ r2 .refl r2.tok ⟨vy.imlf (Im.mut hl' trivial) d _ rfl, rfl⟩ (wp0_mono (fun ρ' hρ σ' _ rr => hρ σ' _ Hq .refl rr) (wp0_bind.mp hc))
          · exact hc.elim
        · exact hc.elim
      · exact hc.elim
    · exact hc.elim
  · exact h.elim
end
end Cs

set_option maxRecDepth 100000
set_option maxHeartbeats 1000000
/-! steps: dicts and sets with such keys, lists handed over -/
namespace Cs
open PySem PySem.Spec PyProof.Rows L2
theorem u9 {k : Nat} {A : Around} (r : Room k A) : A.units + 9 < cLine := by have := r.un; omega
theorem u16 {k : Nat} {A : Around} (r : Room k A) : A.units + 16 < cLine := by have := r.un; omega
section
variable {ρ : Ro}
theorem kvN_o {ds : List (NestedKey × PyData)} : C.kvN (.own (.xo (.dN ds))) = some ds := (rfl)
theorem kvN_b {ds : List (NestedKey × PyData)} : C.kvN (.bor (.xo (.dN ds))) = some ds := (rfl)
theorem kvN_l {ds : List (NestedKey × PyData)} : C.kvN (.bor (.xo (.lN ds))) = some ds := (rfl)
theorem sN_o {ks : List NestedKey} : C.sN (.own (.xo (.sN ks))) = some ks := (rfl)
theorem sN_b {ks : List NestedKey} : C.sN (.bor (.xo (.sN ks))) = some ks := (rfl)
def getN : Option (Option PyData) → M C
  | some (some z) => .ret (.val z)
  | _ => .fail
theorem oNGet_v {c : C} {d : PyData} : oNGet c (.val d) = getN (lkN c d) := by
  unfold oNGet getN
  rfl
theorem getN_s {z : PyData} : getN (some (some z)) = .ret (.val z) := (rfl)
def inN (n : Bool) : Option (Option PyData) → M C
  | some o => .ret (.val (.bool (n ^^ o.isSome)))
  | _ => .fail
theorem oNIn_v {n : Bool} {c : C} {d : PyData} : oNIn n (.val d) c = inN n (lkN c d) := by
  unfold oNIn inN
  rfl
theorem inN_s {n : Bool} {o : Option PyData} : inN n (some o) = .ret (.val (.bool (n ^^ o.isSome))) := (rfl)
def get1N : Option (Option PyData) → M C
  | some o => .ret (.val (o.getD .none))
  | _ => .fail
theorem oNGet1_v {c : C} {d : PyData} : oNGet1 c (.val d) = get1N (lkN c d) := by
  unfold oNGet1 get1N
  rfl
theorem get1N_s {o : Option PyData} : get1N (some o) = .ret (.val (o.getD .none)) := (rfl)
theorem lkN_eq {c : C} {d : PyData} {ds : List (NestedKey × PyData)} {k : NestedKey} (h1 : c.kvN = some ds) (h2 : nkD d = some k) : lkN c d = some (valD ds k) := by
  unfold lkN
  rw [h1, h2]
theorem gNGet1_eq {gd gy : Ro → M C} : gNGet1 gd gy ρ = (gd ρ).bind fun c => if c.kvN.isSome = true then (gy ρ).bind (oNGet1 c) else .fail := (rfl)
theorem gNewN_eq : gNewN ρ = .ret (.own (.xo (.dN []))) := (rfl)
theorem mNPut_eq {i : Nat} {gv gk : Ro → M C} : mNPut i gv gk ρ = nputAt i gv gk ρ ρ[i]? := (rfl)
theorem nputAt_o {i : Nat} {gv gk : Ro → M C} {ds : List (NestedKey × PyData)} : nputAt i gv gk ρ (some (some (.own (.xo (.dN ds))))) = (gv ρ).bind fun cv => (gk ρ).bind fun ck => kPutN i ρ ds cv ck := (rfl)
theorem kPutN_v {i : Nat} {ds : List (NestedKey × PyData)} {d kd : PyData} {k : NestedKey} (h : nkD kd = some k) (l : ds.length + 1 ≤ 16777216) : kPutN i ρ ds (.val d) (.val kd) = .ret (.nx (ρ.set i (some (.own (.xo (.dN (putD ds k d))))))) := by
  unfold kPutN
  dsimp only
  rw [h]
  exact if_pos (decide_eq_true l)
theorem gDcN_eq {its : Ro → M (List PyData)} {a : C → Ro → M Ro} {c : Ro → M Bool} {gk gv : Ro → M C} {vs : List Nat} : gDcN its a c gk gv vs ρ = (its ρ).bind fun ds => dcLN a c gk gv ds (wipeR ρ vs) [] := (rfl)
theorem gLockN_eq {i : Nat} {g : Ro → M C} : gLockN i g ρ = nlockAt i g ρ ρ[i]? := (rfl)
theorem nlockAt_o {i : Nat} {g : Ro → M C} {ds : List (NestedKey × PyData)} : nlockAt i g ρ (some (some (.own (.xo (.dN ds))))) = (g (ρ.set i (some (.bor (.xo (.lN ds)))))).bind lockC := (rfl)
theorem gKeysN_eq {i : Nat} : gKeysN i ρ = nkeysAt ρ[i]? := (rfl)
theorem nkeysAt_l {ds : List (NestedKey × PyData)} : nkeysAt (some (some (.bor (.xo (.lN ds))))) = .ret (ds.map fun kv => kv.1.data) := (rfl)
theorem oSetN_eq {ds : List PyData} {ks : List NestedKey} (h : nkDs ds = some ks) (l : (setN ks).length < 63) : oSetN [.val (.tuple ds)] = .ret (.own (.xo (.sN (setN ks)))) := by
  unfold oSetN
  dsimp only
  rw [h]
  exact if_pos l
theorem oSetN0_n : oSetN0 [] = .ret (.own (.xo (.sN []))) := (rfl)
theorem oSIn_v {n : Bool} {d : PyData} {c : C} {k : NestedKey} {ks : List NestedKey} (h1 : nkD d = some k) (h2 : c.sN = some ks) : oSIn n (.val d) c = .ret (.val (.bool (n ^^ decide (k ∈ ks)))) := by
  unfold oSIn
  dsimp only
  rw [h1, h2]
theorem oSLen_c {c : C} {ks : List NestedKey} (h : c.sN = some ks) : oSLen [c] = .ret (.val (.int ks.length)) := by
  unfold oSLen
  dsimp only
  rw [h]
theorem mSAdd_eq {i : Nat} {g : Ro → M C} : mSAdd i g ρ = sAddAt i g ρ ρ[i]? := (rfl)
def kSAdd (i : Nat) (ρ : Ro) (ks : List NestedKey) : C → M Res
  | .val d => (match nkD d with
    | some k => if ks.length < 63 then .ret (.nx (ρ.set i (some (.own (.xo (.sN (addN ks k))))))) else .fail
    | none => .fail)
  | _ => .fail
theorem sAddAt_o {i : Nat} {g : Ro → M C} {ks : List NestedKey} : sAddAt i g ρ (some (some (.own (.xo (.sN ks))))) = (g ρ).bind (kSAdd i ρ ks) := by
  unfold sAddAt
  congr 1
theorem kSAdd_v {i : Nat} {ks : List NestedKey} {d : PyData} {k : NestedKey} (h : nkD d = some k) (l : ks.length < 63) : kSAdd i ρ ks (.val d) = .ret (.nx (ρ.set i (some (.own (.xo (.sN (addN ks k))))))) := by
  unfold kSAdd
  dsimp only
  rw [h]
  exact if_pos l
theorem gMv_eq {t i : Nat} {f : List C → M C} : gMv t i f ρ = mvAt f ρ[t]? ρ[i]? := (rfl)
theorem mvAt_o {f : List C → M C} {o : PO} : mvAt f (some (some .tape)) (some (some (.own o))) = f [.tape, .own o] := (rfl)
theorem gaConsM_eq {i : Nat} {g : Ro → M C} {gs : Ro → M (List C)} : gaConsM i g gs ρ = (g ρ).bind fun c => (gs (ρ.set i none)).bind fun cs => .ret (c :: cs) := (rfl)
theorem gaConsV_eq {g : Ro → M C} {gs : Ro → M (List C)} : gaConsV g gs ρ = (g ρ).bind (consV (gs ρ)) := (rfl)
theorem consV_v {m : M (List C)} {d : PyData} : consV m (.val d) = m.bind fun cs => .ret (.val d :: cs) := (rfl)
theorem mRetM_eq {i : Nat} {g : Ro → M C} : mRetM i g ρ = retMAt g ρ ρ[i]? := (rfl)
theorem retMAt_o {g : Ro → M C} {o : PO} : retMAt g ρ (some (some (.own o))) = (g ρ).bind fun c => .ret (.rt c) := (rfl)
theorem mAsgM_eq {i : Nat} {g : Ro → M C} {a : C → Ro → M Ro} : mAsgM i g a ρ = asgMAt i g a ρ ρ[i]? := (rfl)
theorem asgMAt_o {i : Nat} {g : Ro → M C} {a : C → Ro → M Ro} {o : PO} : asgMAt i g a ρ (some (some (.own o))) = (g ρ).bind fun c => (a c (ρ.set i none)).bind fun ρ' => .ret (.nx ρ') := (rfl)
theorem fnO_to {f : List C → M C} {o : PO} : fnO f [.tape, .own o] = f [.tape, .own o] := (rfl)
theorem fnO_o {f : List C → M C} {o : PO} : fnO f [.own o] = f [.own o] := (rfl)
theorem gLRev_eq {g : Ro → M C} : gLRev g ρ = (g ρ).bind oLRev := (rfl)
theorem oLRev_o {ds : List PyData} : oLRev (.own (.lst ds)) = .ret (.own (.lst ds.reverse)) := (rfl)
theorem oLRev_b {ds : List PyData} : oLRev (.bor (.lst ds)) = .ret (.own (.lst ds.reverse)) := (rfl)
theorem oTupN_o {ds : List (NestedKey × PyData)} : oTupN [.own (.xo (.dN ds))] = .ret (.val (.tuple (ds.map fun kv => kv.1.data))) := (rfl)
theorem oTupN_b {ds : List (NestedKey × PyData)} : oTupN [.bor (.xo (.dN ds))] = .ret (.val (.tuple (ds.map fun kv => kv.1.data))) := (rfl)
theorem mPopA_eq {i : Nat} {g : Ro → M C} {a : C → Ro → M Ro} : mPopA i g a ρ = popAAt i g a ρ ρ[i]? := (rfl)
theorem popAAt_o {i : Nat} {g : Ro → M C} {a : C → Ro → M Ro} {ds : List PyData} : popAAt i g a ρ (some (some (.own (.lst ds)))) = (g ρ).bind (kPopA i ρ ds a) := (rfl)
theorem kPopA_v {i : Nat} {ds : List PyData} {a : C → Ro → M Ro} {j : Int} {d : PyData} (j0 : 0 ≤ j) (h : ds[j.toNat]? = some d) (l : ds.length ≤ 16777216) : kPopA i ρ ds a (.val (.int j)) = (a (.val d) (setOwn i (ds.eraseIdx j.toNat) ρ)).bind fun ρ' => .ret (.nx ρ') := by
  have hl := (List.getElem?_eq_some_iff.mp h).1
  unfold kPopA
  dsimp only
  rw [if_pos (by rw [Bool.and_eq_true]; exact ⟨decide_eq_true (by omega), decide_eq_true (by omega)⟩)]
  have e : seqIndex? j ds.length = some j.toNat := by
    unfold seqIndex?
    first
      | (rw [if_neg (by omega), if_pos (by omega)])
      | (simp only []; split <;> first | rfl | omega | (split <;> first | rfl | omega))
      | simp [show ¬ j < 0 by omega, show j < (ds.length : Int) by omega]
  rw [e]
  dsimp only
  rw [h]
/-! {k: v for x in xs}: keys and values by functions -/
theorem dcLN_map {a : C → Ro → M Ro} {c : Ro → M Bool} {gk gv : Ro → M C} {ρ0 : Ro} (kf : PyData → NestedKey) (vf : PyData → PyData) (keep : PyData → Bool) :
    ∀ (ds : List PyData) (acc : List (NestedKey × PyData)), acc.length + ds.length ≤ 16777216 →
    (∀ d ∈ ds, ∃ ρ1, a (.val d) ρ0 = .ret ρ1 ∧ c ρ1 = .ret (keep d) ∧ (keep d = true → ∃ kd, nkD kd = some (kf d) ∧ gk ρ1 = .ret (.val kd) ∧ gv ρ1 = .ret (.val (vf d)))) →
    dcLN a c gk gv ds ρ0 acc = .ret (.own (.xo (.dN ((ds.filter keep).foldl (fun acc d => putD acc (kf d) (vf d)) acc))))
  | [], acc, _, _ => rfl
  | d :: ds, acc, l, h => by
    obtain ⟨ρ1, h1, h2, h3⟩ := h d List.mem_cons_self
    rw [List.length_cons] at l
    unfold dcLN
    rw [h1]
    show ((c ρ1).bind _ : M C) = _
    rw [h2]
    show (if keep d = true then _ else _ : M C) = _
    cases hk : keep d with
    | false =>
      rw [if_neg Bool.false_ne_true, List.filter_cons_of_neg (by rw [hk]; decide)]
      exact dcLN_map kf vf keep ds acc (by omega) fun x m => h x (List.mem_cons_of_mem _ m)
    | true =>
      obtain ⟨kd, k1, k2, k3⟩ := h3 hk
      rw [if_pos rfl, List.filter_cons_of_pos hk, k2]
      show ((gv ρ1).bind _ : M C) = _
      rw [k3]
      have e : putCN acc (.val kd) (.val (vf d)) = some (putD acc (kf d) (vf d)) := by
        have q : putCN acc (.val kd) (.val (vf d)) = (match nkD kd with | some k => if lenOk (acc.length + 1) = true then some (putD acc k (vf d)) else none | none => none) := by
          unfold putCN
          rfl
        rw [q, k1]
        exact if_pos (decide_eq_true (by omega))
      show (match putCN acc (.val kd) (.val (vf d)) with | some acc' => dcLN a c gk gv ds ρ0 acc' | none => .fail : M C) = _
      rw [e]
      refine dcLN_map kf vf keep ds _ ?_ fun x m => h x (List.mem_cons_of_mem _ m)
      have : (putD acc (kf d) (vf d)).length ≤ acc.length + 1 := by
        unfold putD
        split
        · rw [List.length_map]; omega
        · rw [List.length_append]; exact Nat.le_refl _
      omega
end
end Cs

set_option maxRecDepth 100000
set_option maxHeartbeats 1000000
/-! a, b = x, y where comprehensions see the names: a pair, then its parts -/
namespace Cs
open PySem PySem.Spec PyProof.Rows L2
theorem ps_parX {X : Cx} {pos : Pos} {i j : Nat} {x y : Str} {a b : Expr} {ta : TA} {px py pt : Pos} {kt k2 pt2} (hc : X.calm = true) (hN : X.N.Nodup) (hi : X.N[i]? = some x) (hj : X.N[j]? = some y)
    (hx : Loc X.env.scope x) (hy : Loc X.env.scope y) (ha : PA X [a, b] ta)
    (hfx : X.fn x = true ∨ X.env.scope.names.lookup x = some .local := by first | exact .inl rfl | exact .inr rfl | assumption) (hfy : X.fn y = true ∨ X.env.scope.names.lookup y = some .local := by first | exact .inl rfl | exact .inr rfl | assumption)
    (hw : swappedStores [.Tuple [.Name x px, .Name y py] kt pt] (.Tuple [a, b] k2 pt2) X.env = pure none := by rfl)
    (hs : swapsWithSole [.Tuple [.Name x px, .Name y py] kt pt] (.Tuple [a, b] k2 pt2) pos.line X.env = pure false := by rfl)
    (h1 : (assignEach [.Tuple [.Name x px, .Name y py] kt pt] X.env).map (·.2) = [assign (.Tuple [.Name x px, .Name y py] kt pt) X.env] := by rfl)
    (h2 : (assignEach [.Name x px, .Name y py] X.env).map (·.2) = [assign (.Name x px) X.env, assign (.Name y py) X.env] := by rfl)
    (h3 : (assignEach [.Name x px, .Name y py] X.env).length = 2 := by rfl) (h4 : (assignEach [.Name x px, .Name y py] X.env).findIdx? (·.1) = none := by rfl) :
    PS X (.Assign [.Tuple [.Name x px, .Name y py] kt pt] (.Tuple [a, b] k2 pt2) pos) (tPar i j ta) := by
  refine ⟨fun pins s σ H D I h => ?_⟩
  refine wpAny_Assign_stores (Tuple_ (thn (ha.run _ pins s σ H _ I h) fun us s1 ⟨vs, H1, I1, r1, q1⟩ => ?_)) hs hw
  obtain ⟨v, w, e1, q1⟩ := q1
  subst e1
  obtain ⟨u1, u2, rfl, rv, rw'⟩ : ∃ u1 u2, us = [u1, u2] ∧ RelV v u1 ∧ RelV w u2 := by
    cases r1 with
    | cons p q =>
      cases q with
      | cons p' q' =>
        cases q'
        exact ⟨_, _, rfl, p, p'⟩
  refine wpAny_newObj_type ?_ (by show 2 ≤ sizeLine; decide)
  have I2 : Inv X pins σ H1 { s1 with heap := s1.heap.push { cls := .type "tuple", data := .seq [u1, u2].toArray } } := I1.kept (t' := s1.toks) fun b o e => Heap.get?_push_of_some _ e
  rw [h1]
  show wpAny (model X.prog X.w) X.A (assign (.Tuple [.Name x px, .Name y py] kt pt) X.env (.ref s1.heap.objs.size)) _ _ _
  refine assign_Tuple_tuple (I.ok.hd hc) (IsTup.new s1.heap _) h3 h4 fun h' hx' => ?_
  have I3 := I2.kept (h' := h') (t' := s1.toks) fun b o e => hx' b o (Nat.ne_of_lt (Heap.lt_size e)) e
  rw [h2]
  refine assignInOrder_cons (wpAny_assign_Name (store_ok I3 hN hi hx rv (fun s2 I4 => ?_) hfx))
  refine assignInOrder_cons (wpAny_assign_Name (store_ok I4 hN hj hy rw' (fun s3 I5 => assignInOrder_nil ?_) hfy))
  exact ⟨_, H1, I5, q1⟩
/-- a, b = x, y, both new -/
def mParO (i j : Nat) (g1 g2 : Ro → M C) (ρ : Ro) : M Res := (g1 ρ).bind fun c => (g2 ρ).bind fun d => (match c, d with
  | .own o, .own o' => .ret (.nx ((ρ.set i (some (.own o))).set j (some (.own o'))))
  | _, _ => .fail)
section
variable {K : PySem.W.Frag} [WP K]
theorem rs_parO {i j : Nat} {te1 te2 : TE} {g1 g2 : Ro → M C} (h1 : RE K te1 g1) (h2 : RE K te2 g2) : RS K (tPar2 i j (tCons te1 (tCons te2 tNil))) (mParO i j g1 g2) := by
  intro tp He Hq ρ σ H D r h
  refine h1 tp He Hq ρ σ H _ r (wp0_mono (fun c hc => ?_) (wp0_bind.mp h))
  intro x H1 gr1 t1 rc
  refine h2 tp He Hq ρ σ H1 _ (r.go gr1 t1) (wp0_mono (fun d hd => ?_) (wp0_bind.mp hc))
  intro y H2 gr2 t2 rd
  refine ⟨x, y, rfl, ?_⟩
  show D.nx ((σ.set i (some x)).set j (some y)) H2
  split at hd
  · rename_i o o'
    obtain ⟨a, ea, fa, na, oa⟩ := rc
    obtain ⟨b, eb, fb, nb, ob⟩ := rd
    obtain ⟨u, hu, _⟩ := oa.mut
    have r2 := r.go (gr1.trans gr2) t2
    have s1 : SR tp K Hq H2 x (.own o) := RC.sr r ⟨a, ea, fa, na, oa.gr gr2 t1 na⟩ (fun _ z => by cases z)
    have s2 : SR tp K Hq H2 y (.own o') := RC.sr r ⟨b, eb, gr1.free t1 fb, nb, ob⟩ (fun _ z => by cases z)
    have old : ∀ (c : Addr) (k : Nat) (o3 : PO), H c = none → ρ[k]? = some (some (.own o3)) → σ[k]? ≠ some (some (.ref c)) := by
      intro c k o3 hc hk hs
      obtain ⟨v, hv, hr⟩ := r.at_ k _ hk
      obtain ⟨b', eb', _, _, qb⟩ := hr
      rw [hs] at hv
      cases hv
      cases eb'
      obtain ⟨w, hw, _⟩ := qb.mut
      rw [hc] at hw
      cases hw
    have r3 := r2.put (i := i) s1 (fun a' o2 _ e k o3 hk => by
      rw [ea] at e
      cases e
      exact old a k o3 fa hk)
    have r4 := r3.put (i := j) s2 (fun b' o2 _ e k o3 hk hs => by
      rw [eb] at e
      cases e
      rw [List.getElem?_set] at hk hs
      by_cases c : i = k
      · rw [if_pos c] at hs
        split at hs
        · rw [ea] at hs
          cases hs
          rw [fb] at hu
          cases hu
        · cases hs
      · rw [if_neg c] at hk hs
        exact old b k o3 (gr1.free t1 fb) hk hs)
    exact hd _ H2 Hq .refl r4
  · exact hd.elim
theorem mParO_o {ρ : Ro} {i j : Nat} {g1 g2 : Ro → M C} {o o' : PO} (h1 : g1 ρ = .ret (.own o)) (h2 : g2 ρ = .ret (.own o')) : mParO i j g1 g2 ρ = .ret (.nx ((ρ.set i (some (.own o))).set j (some (.own o')))) := by
  unfold mParO
  rw [h1]
  show ((g2 ρ).bind _ : M Res) = _
  rw [h2]
  rfl
end
end Cs

set_option maxRecDepth 100000
set_option maxHeartbeats 1000000
/-! data without truth values: == is being the same; sizes -/
namespace Cs
open PySem PySem.Spec PyProof.Rows L2
mutual
/-- no truth value, no dict within -/
def cln : PyData → Bool
  | .none => true
  | .bool _ => false
  | .int _ => true
  | .str _ => true
  | .list xs => clnAll xs
  | .tuple xs => clnAll xs
  | .dict _ => false
def clnAll : List PyData → Bool
  | [] => true
  | x :: xs => cln x && clnAll xs
end
theorem clnAll_mem : ∀ {xs : List PyData}, clnAll xs = true ↔ ∀ x ∈ xs, cln x = true
  | [] => ⟨(fun _ _ m => nomatch m), fun _ => rfl⟩
  | x :: xs => by
    unfold clnAll
    rw [Bool.and_eq_true, clnAll_mem (xs := xs)]
    exact ⟨fun ⟨a, b⟩ y m => by rcases List.mem_cons.mp m with rfl | m; exact a; exact b y m, fun h => ⟨h x List.mem_cons_self, fun y m => h y (List.mem_cons_of_mem _ m)⟩⟩
mutual
theorem eqv_cln : ∀ (d e : PyData), cln d = true → cln e = true → (PyData.eqv d e = true ↔ d = e)
  | .none, e, _, he => by cases e <;> simp_all [PyData.eqv, cln]
  | .bool _, _, hd, _ => by simp [cln] at hd
  | .int i, e, _, he => by cases e <;> simp_all [PyData.eqv, cln]
  | .str x, e, _, he => by cases e <;> simp_all [PyData.eqv, cln]
  | .list xs, e, hd, he => by
    cases e with
    | list ys => simp only [cln] at hd he; simp only [PyData.eqv, eqvAll_cln xs ys hd he, PyData.list.injEq]
    | _ => simp_all [PyData.eqv, cln]
  | .tuple xs, e, hd, he => by
    cases e with
    | tuple ys => simp only [cln] at hd he; simp only [PyData.eqv, eqvAll_cln xs ys hd he, PyData.tuple.injEq]
    | _ => simp_all [PyData.eqv, cln]
  | .dict _, _, hd, _ => by simp [cln] at hd
theorem eqvAll_cln : ∀ (xs ys : List PyData), clnAll xs = true → clnAll ys = true → (PyData.eqvAll xs ys = true ↔ xs = ys)
  | [], [], _, _ => by simp [PyData.eqvAll]
  | [], _ :: _, _, _ => by simp [PyData.eqvAll]
  | _ :: _, [], _, _ => by simp [PyData.eqvAll]
  | x :: xs, y :: ys, h1, h2 => by
    simp only [clnAll, Bool.and_eq_true] at h1 h2
    simp only [PyData.eqvAll, Bool.and_eq_true, eqv_cln x y h1.1 h2.1, eqvAll_cln xs ys h1.2 h2.2, List.cons.injEq]
end
theorem eqv_dec {d e : PyData} (h1 : cln d = true) (h2 : cln e = true) [Decidable (d = e)] : PyData.eqv d e = decide (d = e) := by
  by_cases c : d = e
  · rw [decide_eq_true c, (eqv_cln d e h1 h2).mpr c]
  · rw [decide_eq_false c]
    cases q : PyData.eqv d e with
    | false => rfl
    | true => exact absurd ((eqv_cln d e h1 h2).mp q) c
/-- x is among the xs -/
def hasD (x : PyData) (xs : List PyData) : Bool := xs.any fun z => PyData.eqv z x
theorem hasD_iff {x : PyData} {xs : List PyData} (h : cln x = true) (hs : ∀ z ∈ xs, cln z = true) : hasD x xs = true ↔ x ∈ xs := by
  unfold hasD
  rw [List.any_eq_true]
  exact ⟨fun ⟨z, m, e⟩ => by rw [← (eqv_cln z x (hs z m) h).mp e]; exact m, fun m => ⟨x, m, (eqv_cln x x h h).mpr rfl⟩⟩
/-- how large data is -/
structure Sz (d : PyData) (n c : Nat) : Prop where
  lay : d.canLay0 = true
  pl : plainD d = true
  dp : d.depth ≤ n
  co : cost d ≤ c
structure SzA (ds : List PyData) (n c : Nat) : Prop where
  lay : PyData.canLayAll0 ds = true
  pl : plainAll ds = true
  dp : PyData.depthAll ds ≤ n
  co : costAll ds ≤ c
theorem Sz.mono {d : PyData} {n c n' c' : Nat} (h : Sz d n c) (hn : n ≤ n') (hc : c ≤ c') : Sz d n' c' := ⟨h.lay, h.pl, Nat.le_trans h.dp hn, Nat.le_trans h.co hc⟩
theorem SzA.mono {d : List PyData} {n c n' c' : Nat} (h : SzA d n c) (hn : n ≤ n') (hc : c ≤ c') : SzA d n' c' := ⟨h.lay, h.pl, Nat.le_trans h.dp hn, Nat.le_trans h.co hc⟩
theorem Sz.non : Sz .none 0 1921 := ⟨rfl, rfl, by simp [PyData.depth], by simp only [cost]; decide⟩
theorem Sz.bl {b : Bool} : Sz (.bool b) 0 1921 := ⟨rfl, rfl, by simp [PyData.depth], by cases b <;> (simp only [cost]; decide)⟩
theorem Sz.int {i : Int} (h1 : -1000000000000000000000000000000 ≤ i) (h2 : i ≤ 1000000000000000000000000000000) : Sz (.int i) 0 1921 := ⟨rfl, small_int h1 h2, by simp [PyData.depth], by simp only [cost]; decide⟩
theorem Sz.str {x : Str} {l : Nat} (h1 : PyData.strOk x = true) (h2 : x.length ≤ l) : Sz (.str x) 0 (10 * l + 1921) := by
  have h3 : smallStr x = true := by
    unfold PyData.strOk at h1
    unfold smallStr
    rw [← Array.all_toList] at h1
    exact List.all_eq_true.mpr fun c hc => decide_eq_true (by have := of_decide_eq_true (List.all_eq_true.mp h1 c hc); omega)
  exact ⟨h1, h3, by simp [PyData.depth], by simp only [cost]; omega⟩
theorem SzA.nil {n c : Nat} : SzA [] n c := ⟨rfl, rfl, by simp [PyData.depthAll], by simp [costAll]⟩
theorem SzA.cons {d : PyData} {ds : List PyData} {n c c' : Nat} (h1 : Sz d n c) (h2 : SzA ds n c') : SzA (d :: ds) n (c + 2 + c') :=
  ⟨by simp only [PyData.canLayAll0, h1.lay, h2.lay]; rfl, by simp only [plainAll, h1.pl, h2.pl]; rfl, by simp only [PyData.depthAll]; exact Nat.max_le.mpr ⟨h1.dp, h2.dp⟩, by simp only [costAll]; have := h1.co; have := h2.co; omega⟩
theorem SzA.all {n c : Nat} : ∀ {ds : List PyData}, (∀ d ∈ ds, Sz d n c) → SzA ds n ((c + 2) * ds.length)
  | [], _ => SzA.nil
  | d :: ds, h => (SzA.cons (h d List.mem_cons_self) (SzA.all fun x m => h x (List.mem_cons_of_mem _ m))).mono (Nat.le_refl _) (by rw [List.length_cons, Nat.mul_succ]; omega)
theorem SzA.tup {ds : List PyData} {n c : Nat} (h : SzA ds n c) : Sz (.tuple ds) (n + 1) (c + 10) :=
  ⟨by simp only [PyData.canLay0]; exact h.lay, by simp only [plainD]; exact h.pl, by simp only [PyData.depth]; have := h.dp; omega, by simp only [cost]; have := h.co; omega⟩
theorem SzA.lst {ds : List PyData} {n c : Nat} (h : SzA ds n c) : Sz (.list ds) (n + 1) (c + 10) :=
  ⟨by simp only [PyData.canLay0]; exact h.lay, by simp only [plainD]; exact h.pl, by simp only [PyData.depth]; have := h.dp; omega, by simp only [cost]; have := h.co; omega⟩
theorem Sz.rep {d : PyData} {n c : Nat} (h : Sz d n c) (hn : n ≤ 40) (hc : c ≤ 16777216) : RepOk d := by
  have : sizeLine = 16777216 := by decide
  exact ⟨h.pl, Nat.le_trans h.dp hn, by have := h.co; omega⟩
theorem Sz.shaped {d : PyData} {n c : Nat} (h : Sz d n c) (hn : n ≤ 64) : SeqAt.shaped d = true := by
  unfold SeqAt.shaped
  rw [h.lay, decide_eq_true (Nat.le_trans h.dp hn)]
  rfl
/-! keys -/
theorem nks_data : ∀ {ds : List PyData} {ks : List NestedKey}, nks ds = some ks → NestedKey.datas ks = ds
  | [], ks, e => by cases e; rfl
  | d :: ds, ks, e => by
    unfold nks at e
    split at e
    · rename_i k ks' e1 e2
      cases e
      have h1 : k.data = d := by
        cases d <;> cases e1 <;> rfl
      simp only [NestedKey.datas, h1, nks_data e2]
    · cases e
theorem nkD_data {d : PyData} {k : NestedKey} (e : nkD d = some k) : k.data = d := by
  cases d with
  | tuple ds =>
    obtain ⟨ks, h1, rfl⟩ := Option.map_eq_some_iff.mp e
    simp only [NestedKey.data, nks_data h1]
  | _ => cases e
theorem nkDs_map {δ : Type} {f : δ → PyData} {g : δ → NestedKey} : ∀ (xs : List δ), (∀ x ∈ xs, nkD (f x) = some (g x)) → nkDs (xs.map f) = some (xs.map g)
  | [], _ => rfl
  | x :: xs, h => by
    rw [List.map_cons, List.map_cons]
    unfold nkDs
    rw [h x List.mem_cons_self, nkDs_map xs fun y m => h y (List.mem_cons_of_mem _ m)]
/-! dicts built up -/
section
variable {κ : Type} [DecidableEq κ]
theorem putD_fst {kvs : List (κ × PyData)} {k : κ} {v : PyData} : (putD kvs k v).map (·.1) = if k ∈ kvs.map (·.1) then kvs.map (·.1) else kvs.map (·.1) ++ [k] := by
  unfold putD
  have e : (kvs.any fun kv => decide (kv.1 = k)) = decide (k ∈ kvs.map (·.1)) := by
    induction kvs with
    | nil => rfl
    | cons p ps ih =>
      rw [List.any_cons, ih, List.map_cons]
      by_cases c : p.1 = k
      · subst c; simp
      · by_cases c2 : k ∈ ps.map (·.1)
        · simp [c2]
        · simp [c, c2, Ne.symm c]
  rw [e]
  by_cases c : k ∈ kvs.map (·.1)
  · rw [if_pos (decide_eq_true c), if_pos c, List.map_map]
    refine List.map_congr_left fun p _ => ?_
    by_cases e : p.1 = k <;> simp [e]
  · rw [if_neg (by rw [decide_eq_false c]; decide), if_neg c, List.map_append]
    rfl
theorem valD_put {kvs : List (κ × PyData)} {k j : κ} {v : PyData} : valD (putD kvs k v) j = if j = k then some v else valD kvs j := by
  unfold putD
  have cons : ∀ (p : κ × PyData) (ps : List (κ × PyData)), valD (p :: ps) j = if p.1 = j then some p.2 else valD ps j := fun p ps => by
    unfold valD
    by_cases e : p.1 = j
    · simp [e]
    · simp [e]
  by_cases c : (kvs.any fun kv => decide (kv.1 = k)) = true
  · rw [if_pos c]
    induction kvs with
    | nil => simp at c
    | cons p ps ih =>
      rw [List.map_cons, cons, cons]
      by_cases e : p.1 = k
      · rw [if_pos e]
        by_cases e2 : j = k
        · rw [if_pos e2, if_pos (e.trans e2.symm)]
        · rw [if_neg e2, if_neg fun z => e2 (z.symm.trans e)]
          by_cases c2 : (ps.any fun kv => decide (kv.1 = k)) = true
          · rw [ih c2, if_neg e2, if_neg fun z => e2 (z.symm.trans e)]
          · have : ps.map (fun kv => if kv.1 = k then (kv.1, v) else kv) = ps := by
              refine (List.map_congr_left fun q m => ?_).trans (List.map_id ps)
              rw [if_neg fun z => c2 (List.any_eq_true.mpr ⟨q, m, decide_eq_true z⟩)]
              rfl
            rw [this, if_neg fun z => e2 (z.symm.trans e)]
      · rw [List.any_cons, decide_eq_false e, Bool.false_or] at c
        rw [if_neg e, ih c]
        by_cases e2 : p.1 = j
        · rw [if_pos e2, if_pos e2, if_neg fun z => e (e2.trans z)]
        · rw [if_neg e2, if_neg e2]
  · rw [if_neg c]
    induction kvs with
    | nil =>
      rw [List.nil_append, cons]
      by_cases e : j = k
      · rw [if_pos e, if_pos e.symm]
      · rw [if_neg e, if_neg fun z => e z.symm]
    | cons p ps ih =>
      rw [List.any_cons, Bool.or_eq_true, not_or] at c
      rw [List.cons_append, cons, cons, ih c.2]
      by_cases e2 : p.1 = j
      · rw [if_pos e2, if_pos e2, if_neg fun z => by rw [e2, z] at c; simp at c]
      · rw [if_neg e2, if_neg e2]
/-- keys all different, one after the other -/
theorem fold_new {δ : Type} (kf : δ → κ) (vf : δ → PyData) : ∀ (xs : List δ) (acc : List (κ × PyData)), (acc.map (·.1) ++ xs.map kf).Nodup → xs.foldl (fun a x => putD a (kf x) (vf x)) acc = acc ++ xs.map fun x => (kf x, vf x)
  | [], acc, _ => by simp
  | x :: xs, acc, h => by
    rw [List.foldl_cons]
    have hx : kf x ∉ acc.map (·.1) := fun m => by
      rw [List.map_cons, List.nodup_append] at h
      exact h.2.2 _ m _ List.mem_cons_self rfl
    have e : putD acc (kf x) (vf x) = acc ++ [(kf x, vf x)] := by
      unfold putD
      rw [if_neg]
      intro z
      obtain ⟨p, m, e⟩ := List.any_eq_true.mp z
      exact hx (List.mem_map.mpr ⟨p, m, of_decide_eq_true e⟩)
    rw [e, fold_new kf vf xs _ (by rw [List.map_append, List.append_assoc]; exact h), List.append_assoc]
    rfl
theorem valD_map {δ : Type} (kf : δ → κ) (vf : δ → PyData) (k : κ) : ∀ xs : List δ, valD (xs.map fun x => (kf x, vf x)) k = (xs.find? fun x => decide (kf x = k)).map vf
  | [] => rfl
  | x :: xs => by
    have ih := valD_map kf vf k xs
    unfold valD at ih ⊢
    rw [List.map_cons]
    by_cases e : kf x = k
    · simp [e]
    · simp [e] at ih ⊢
      exact ih
end
/-! sets built up -/
theorem mem_addN {acc : List NestedKey} {k j : NestedKey} : j ∈ addN acc k ↔ j = k ∨ j ∈ acc := by
  unfold addN
  split
  · rename_i h
    exact ⟨.inr, fun z => z.elim (fun e => e ▸ h) id⟩
  · rw [List.mem_append, List.mem_singleton]
    exact ⟨fun z => z.symm, fun z => z.symm⟩
theorem mem_foldN {j : NestedKey} : ∀ (ks acc : List NestedKey), j ∈ ks.foldl addN acc ↔ j ∈ acc ∨ j ∈ ks
  | [], acc => by simp
  | k :: ks, acc => by
    rw [List.foldl_cons, mem_foldN ks, mem_addN, List.mem_cons]
    constructor
    · rintro ((h | h) | h)
      · exact .inr (.inl h)
      · exact .inl h
      · exact .inr (.inr h)
    · rintro (h | h | h)
      · exact .inl (.inr h)
      · exact .inl (.inl h)
      · exact .inr h
theorem mem_setN {j : NestedKey} {ks : List NestedKey} : j ∈ setN ks ↔ j ∈ ks := by
  unfold setN
  rw [mem_foldN]
  simp
theorem len_addN (acc : List NestedKey) (k : NestedKey) : (addN acc k).length ≤ acc.length + 1 := by
  unfold addN
  split
  · omega
  · rw [List.length_append]; exact Nat.le_refl _
theorem len_foldN : ∀ (ks acc : List NestedKey), (ks.foldl addN acc).length ≤ acc.length + ks.length
  | [], acc => Nat.le_refl _
  | k :: ks, acc => by
    rw [List.foldl_cons, List.length_cons]
    have h1 := len_foldN ks (addN acc k)
    have h2 := len_addN acc k
    omega
theorem len_setN (ks : List NestedKey) : (setN ks).length ≤ ks.length := by
  have := len_foldN ks []
  unfold setN
  simpa using this
theorem nodup_addN {acc : List NestedKey} (h : acc.Nodup) (k : NestedKey) : (addN acc k).Nodup := by
  unfold addN
  split
  · exact h
  · rename_i n
    rw [List.nodup_append]
    refine ⟨h, List.nodup_cons.mpr ⟨List.not_mem_nil, List.nodup_nil⟩, fun a ha b hb e => ?_⟩
    rw [List.mem_singleton.mp hb] at e
    exact n (e ▸ ha)
theorem nodup_foldN : ∀ (ks acc : List NestedKey), acc.Nodup → (ks.foldl addN acc).Nodup
  | [], _, h => h
  | k :: ks, acc, h => nodup_foldN ks _ (nodup_addN h k)
theorem nodup_setN (ks : List NestedKey) : (setN ks).Nodup := nodup_foldN ks [] List.nodup_nil
theorem fold_nodup : ∀ (ks acc : List NestedKey), (acc ++ ks).Nodup → ks.foldl addN acc = acc ++ ks
  | [], acc, _ => by simp
  | k :: ks, acc, h => by
    rw [List.foldl_cons]
    have hk : k ∉ acc := fun m => by
      rw [List.nodup_append] at h
      exact h.2.2 _ m _ List.mem_cons_self rfl
    have e : addN acc k = acc ++ [k] := if_neg hk
    rw [e, fold_nodup ks _ (by rw [List.append_assoc]; exact h), List.append_assoc]
    rfl
theorem setN_nodup {ks : List NestedKey} (h : ks.Nodup) : setN ks = ks := fold_nodup ks [] h
/-- a set is shorter where something comes twice -/
theorem setN_short {ks : List NestedKey} (h : (setN ks).length = ks.length) : ks.Nodup := by
  have go : ∀ (ks acc : List NestedKey), acc.Nodup → (ks.foldl addN acc).length = acc.length + ks.length → (acc ++ ks).Nodup := by
    intro ks
    induction ks with
    | nil => intro acc h _; simpa using h
    | cons k ks ih =>
      intro acc h e
      rw [List.foldl_cons, List.length_cons] at e
      have h1 := len_foldN ks (addN acc k)
      have h2 := len_addN acc k
      by_cases hk : k ∈ acc
      · have : addN acc k = acc := if_pos hk
        rw [this] at e h1
        omega
      · have e2 : addN acc k = acc ++ [k] := if_neg hk
        have := ih (addN acc k) (nodup_addN h k) (by rw [e2] at e ⊢; rw [List.length_append] at *; simp at *; omega)
        rw [e2, List.append_assoc] at this
        exact this
  have := go ks [] List.nodup_nil (by unfold setN at h; simpa using h)
  simpa using this
end Cs

set_option maxRecDepth 100000
set_option maxHeartbeats 4000000

namespace Cs
open PySem PySem.Spec PyProof.Rows L2
local macro_rules | `(tactic| walk_at "sets") => `(tactic| (repeat (first | exact set_0 | apply set_s)))
local macro_rules | `(tactic| walk_at "sts") => `(tactic| (repeat (first | exact rep_0 | apply rep_s | apply app_cons | apply app_nil)))
local macro_rules | `(tactic| walk_at "sql") => `(tactic| first
  | exact SqL.of (by assumption)
  | exact SqL.of upd_same
  | assumption)
local macro_rules | `(tactic| walk_at "sqt") => `(tactic| first
  | exact SqT.of (by assumption)
  | exact SqT.of upd_same
  | assumption)
local macro_rules | `(tactic| walk_at "rd1") => `(tactic| first
  | ((with_reducible show gName _ _ _ _ _); refine gset (by walk_at "sets") ?_)
  | refine ⟨_, rfl, ?_⟩
  | refine ⟨rfl, ?_⟩
  | refine ⟨_, _, rfl, rfl, (show CMul _ _ from Or.inr ⟨by decide, by decide⟩), ?_⟩
  | refine ⟨_, _, rfl, rfl, (show CMul _ _ from Or.inl ⟨by decide, by decide⟩), ?_⟩
  | refine ⟨_, _, rfl, rfl, (show (0 : Int) < _ by first | decide | omega), ?_⟩
  | refine ⟨_, _, rfl, rfl, (show CDiv _ _ from ⟨by omega, by omega⟩), ?_⟩
  | refine ⟨_, _, rfl, rfl, (show CPow _ _ from ⟨by decide, by decide, by decide⟩), ?_⟩
  | refine ⟨_, _, rfl, rfl, ?_⟩
  | refine ⟨_, _, _, _, rfl, rfl, (show SqL _ _ _ _ by walk_at "sql"), rfl, ?_⟩
  | refine ⟨_, _, _, _, rfl, rfl, (show SqT _ _ _ _ by walk_at "sqt"), rfl, ?_⟩
  | refine ⟨_, _, _, _, rfl, rfl, (by assumption), rfl, ?_⟩
  | refine ⟨_, _, _, _, rfl, rfl, upd_same, rfl, ?_⟩
  | refine ⟨_, _, rfl, (show LenV _ _ _ _ from Or.inl ⟨_, (by walk_at "sql"), rfl⟩), ?_⟩
  | refine ⟨_, _, rfl, (show LenV _ _ _ _ from Or.inr ⟨_, (by walk_at "sqt"), rfl⟩), ?_⟩
  | refine ⟨_, (show TruV _ _ _ _ from Or.inl ⟨_, (by walk_at "sql"), rfl⟩), ?_⟩
  | refine ⟨_, (show TruV _ _ _ _ from Or.inr (Or.inl ⟨_, (by walk_at "sqt"), rfl⟩)), ?_⟩
  | refine Or.inl ⟨_, rfl, ?_⟩
  | refine ⟨_, _, rfl, ?_⟩)

local macro_rules | `(tactic| walk_at "pe") => `(tactic| simp (config := {maxSteps := 2000000}) only [bind_bind, bindR, retB, failB, anyB, iteB, wp_retE, wp_failE,
  ↓kSeq_nx, ↓kSeq_rt, ↓kSeq_bk, ↓kSeq_ct, ↓mNext_eq, ↓mBreak_eq, ↓mCont_eq, ↓mDrop_eq, ↓mRet_eq, ↓mRetN_eq, ↓mAsg_eq, ↓mIf_eq, ↓gVar_eq, gAt_v, gAt_o, gAt_b, gAt_t, ↓mRetV_eq, rAt_s, ↓asgR_eq, aAt_v, aAt_o,
  get_0, get_s, set_0', set_s', List.getElem?_cons_zero, List.getElem?_cons_succ, List.set_cons_zero, List.set_cons_succ, ↓aNil_eq, ↓aCons_eq, ↓aTup_eq, ↓mPar_eq, ↓kPar_v, ↓gC_eq, ↓gaNil_eq, ↓gaCons_eq, ↓gTupE_eq, ↓gLst_eq, ↓gOp_eq, ↓gUn_eq, ↓gCall_eq, ↓gFn_eq, map_nilC, map_consC, lend_v, lend_o, lend_b, lend_t,
  ↓gTru_eq, ↓gTest_eq, oBl_b, oTru_v, oTru_o, oTru_b, truD_n, truD_b, truD_i, truD_t, mAnd_r, mOr_r, mAnd_t, mAnd_f, mOr_t, mOr_f, ↓gAnd_eq, ↓gOr_eq, ↓gNot_eq, mAndC_r, mAndC_f, mOrC_r, ↓gAndT_eq, ↓gOrT_eq, ↓gNotT_eq, ↓gIfE_eq, ↓gChain_eq, ↓gNo_eq, ↓gSome_eq, oInt?_i, ↓gSl_eq, oSl_t, oSl_b, ↓gSl2_eq, kSl2_t,
  ↓gIt_eq, ↓gItV_eq, kItV_v, kItV_b, kItV_o, itV_t, itV_s, itV_b, itV_o, itD_t, itD_s, itD_o, ↓gItR1_eq, ↓gItR2_eq, ↓gItR3_eq, itR3_i, itR1_i, itR2_i, ↓gLc_eq, wipe_n, wipe_c, ↓gYes_eq, ↓gR1_eq, kR1_i, ↓gR2_eq, kR2_i, ↓gLstRg_eq, ↓gTupRg_eq, ↓mFor_eq, ↓mForV_eq, ↓mForRev_eq, kForRev_o, kForRev_t, kForV_o, kForV_b, kForV_t, kForV_s, ↓mApp_eq, appAt_o, kApp_v,
  ↓fnU_eq, rp_0, rp_s, ap_n, ap_c, ms_n, ms_c, out_rt, out_nx, oAdd_i, oAdd_s, oAdd_t, oAdd_oo, oAdd_bo, oAdd_bb, oAdd_ob, oInt_v, oMul_i, oNeg_i, oEq_i, oNe_i, oEq_b, oNe_b, oEq_s, oNe_s, oIx_t, oIx_s, oIx_o, oIx_b, atD_0, atD_1, atD_2, atD_3, atD_4, atD_5, atD_6, atD_7, atD_8, datas_n, datas_v, mp_some, oTup_eq, oLst_eq, kTup_s, kLst_s, len_n, len_c,
  o1_v, o1_o, o1_b, lenD_t, lenD_l, lenD_s, absD_i, intD_i, intD_b, oMax2_i, oMin2_i, oGcd_i, oListC_t, oListC_o, oListC_b, oTupC_t, oTupC_o, oTupC_b, isi_bi, isi_ii, isi_ib, isi_bb, isi_ni, isi_ss, isi_nb, oIsi_v, tyD_b, tyD_i, tyD_s, tyD_n, oIsX_n, oIsX_b, isN_n, isN_i, isN_b, isN_s, isN_t, aUnl_o, aUnl_b, oIx_l, ↓gTRev_eq, ↓gInK_eq, ↓gInKd_eq, oTRev_t, ↓gEnT_eq, enC_t, ↓gDZip_eq, kForV_l, truD_l, oSl_l, itD_l, itV_l, oListC_l, oTupC_l, kIdxL_l, oAdd_lo, oAdd_ol, oAdd_ll, oAdd_lb, oAdd_bl, ↓mFrz_eq, kFrz_o, kFrz_v, kFrz_b, kFrz_n, ↓gFrz_eq, frzC_o, frzC_v, ↓gItI_eq, itI_t, itI_l, itI_s, ↓gDcT_eq, ↓gLc2_eq, ↓gLock_eq, lockAt_o, lockC_v, lockC_o, ↓gKeys_eq, keysAt_b, ↓mDPut_eq, dputAt_T, dputAt_K, ↓gNewT_eq, ↓gNewK_eq, ↓gDGet1_eq, ↓mSetAt_eq, setAt_o, ↓mAugI_eq, augAt_i, kAug_i, ↓gZip_eq, zipD_t, ↓gIdxL_eq, kIdxL_b, kIdxL_o, idxA_v, ↓gIdxK_eq, ↓gSix_eq, kSix_s, oLtU_i, oLtU_s, oLtU_b, ↓gFnD_eq, ↓gFnK_eq, kFnK_21, mOrCt, mOrCf, mAndCt, mAndCf, ↓gF_eq, ↓gFt_eq, ↓mF_eq, oIsiX_v, tyX_b, tyX_i, tyX_s, tyX_n, tyX_t, isiX_ts, isiX_tb, isiX_ti, isiX_tt, isiX_st, isiX_sb, isiX_si, isiX_bs, isiX_bt, isiX_is, isiX_it, isiX_ns, isiX_nt, 
  kvN_o, kvN_b, kvN_l, sN_o, sN_b, oNGet_v, getN_s, oNIn_v, inN_s, oNGet1_v, get1N_s, ↓gNGet1_eq, ↓gNewN_eq, ↓mNPut_eq, nputAt_o, ↓gDcN_eq, ↓gLockN_eq, nlockAt_o, ↓gKeysN_eq, nkeysAt_l, oSetN0_n, ↓mSAdd_eq, sAddAt_o, ↓gMv_eq, mvAt_o, ↓gaConsM_eq, ↓gaConsV_eq, consV_v, ↓mRetM_eq, retMAt_o, ↓mAsgM_eq, asgMAt_o, fnO_to, fnO_o, ↓gLRev_eq, oLRev_o, oLRev_b, oTupN_o, oTupN_b, ↓mPopA_eq, popAAt_o, Option.isSome_some, Option.isSome_none,
  lenOk, decide_eq_true_eq, Nat.reduceAdd, Nat.reduceLeDiff, Nat.reduceEqDiff, Int.reduceEq, Bool.false_xor, Bool.true_xor, Bool.false_or, Bool.or_false, Bool.true_or, Bool.or_true, Bool.true_and, Bool.and_true, Bool.false_and, Bool.and_false, Bool.not_false, Bool.not_true, Bool.false_eq_true, if_true, if_false, reduceIte, ↓reduceIte, decide_true, decide_false, List.length_cons, List.length_nil])
local macro_rules | `(tactic| walk_at "pl") => `(tactic| simp (config := {maxSteps := 2000000}) only [bind_bind, bindR, retB, failB, anyB, iteB, wp_retE, wp_failE,
  ↓mSeq_eq, ↓kSeq_nx, ↓kSeq_rt, ↓kSeq_bk, ↓kSeq_ct, ↓mNext_eq, ↓mBreak_eq, ↓mCont_eq, ↓mDrop_eq, ↓mRet_eq, ↓mRetN_eq, ↓mAsg_eq, ↓mIf_eq, ↓gVar_eq, gAt_v, gAt_o, gAt_b, gAt_t, ↓mRetV_eq, rAt_s, ↓asgR_eq, aAt_v, aAt_o,
  get_0, get_s, set_0', set_s', List.getElem?_cons_zero, List.getElem?_cons_succ, List.set_cons_zero, List.set_cons_succ, ↓aNil_eq, ↓aCons_eq, ↓aTup_eq, ↓mPar_eq, ↓kPar_v, ↓gC_eq, ↓gaNil_eq, ↓gaCons_eq, ↓gTupE_eq, ↓gLst_eq, ↓gOp_eq, ↓gUn_eq, ↓gCall_eq, ↓gFn_eq, map_nilC, map_consC, lend_v, lend_o, lend_b, lend_t,
  ↓gTru_eq, ↓gTest_eq, oBl_b, oTru_v, oTru_o, oTru_b, truD_n, truD_b, truD_i, truD_t, mAnd_r, mOr_r, mAnd_t, mAnd_f, mOr_t, mOr_f, ↓gAnd_eq, ↓gOr_eq, ↓gNot_eq, mAndC_r, mAndC_f, mOrC_r, ↓gAndT_eq, ↓gOrT_eq, ↓gNotT_eq, ↓gIfE_eq, ↓gChain_eq, ↓gNo_eq, ↓gSome_eq, oInt?_i, ↓gSl_eq, oSl_t, oSl_b, ↓gSl2_eq, kSl2_t,
  ↓gIt_eq, ↓gItV_eq, kItV_v, kItV_b, kItV_o, itV_t, itV_s, itV_b, itV_o, itD_t, itD_s, itD_o, ↓gItR1_eq, ↓gItR2_eq, ↓gItR3_eq, itR3_i, itR1_i, itR2_i, ↓gLc_eq, wipe_n, wipe_c, ↓gYes_eq, ↓gR1_eq, kR1_i, ↓gR2_eq, kR2_i, ↓gLstRg_eq, ↓gTupRg_eq, ↓mFor_eq, ↓mForV_eq, ↓mForRev_eq, kForRev_o, kForRev_t, kForV_o, kForV_b, kForV_t, kForV_s, ↓mApp_eq, appAt_o, kApp_v,
  ↓fnU_eq, rp_0, rp_s, ap_n, ap_c, ms_n, ms_c, out_rt, out_nx, oAdd_i, oAdd_s, oAdd_t, oAdd_oo, oAdd_bo, oAdd_bb, oAdd_ob, oInt_v, oMul_i, oNeg_i, oEq_i, oNe_i, oEq_b, oNe_b, oEq_s, oNe_s, oIx_t, oIx_s, oIx_o, oIx_b, atD_0, atD_1, atD_2, atD_3, atD_4, atD_5, atD_6, atD_7, atD_8, datas_n, datas_v, mp_some, oTup_eq, oLst_eq, kTup_s, kLst_s, len_n, len_c,
  o1_v, o1_o, o1_b, lenD_t, lenD_l, lenD_s, absD_i, intD_i, intD_b, oMax2_i, oMin2_i, oGcd_i, oListC_t, oListC_o, oListC_b, oTupC_t, oTupC_o, oTupC_b, isi_bi, isi_ii, isi_ib, isi_bb, isi_ni, isi_ss, isi_nb, oIsi_v, tyD_b, tyD_i, tyD_s, tyD_n, oIsX_n, oIsX_b, isN_n, isN_i, isN_b, isN_s, isN_t, aUnl_o, aUnl_b, oIx_l, ↓gTRev_eq, ↓gInK_eq, ↓gInKd_eq, oTRev_t, ↓gEnT_eq, enC_t, ↓gDZip_eq, kForV_l, truD_l, oSl_l, itD_l, itV_l, oListC_l, oTupC_l, kIdxL_l, oAdd_lo, oAdd_ol, oAdd_ll, oAdd_lb, oAdd_bl, ↓mFrz_eq, kFrz_o, kFrz_v, kFrz_b, kFrz_n, ↓gFrz_eq, frzC_o, frzC_v, ↓gItI_eq, itI_t, itI_l, itI_s, ↓gDcT_eq, ↓gLc2_eq, ↓gLock_eq, lockAt_o, lockC_v, lockC_o, ↓gKeys_eq, keysAt_b, ↓mDPut_eq, dputAt_T, dputAt_K, ↓gNewT_eq, ↓gNewK_eq, ↓gDGet1_eq, ↓mSetAt_eq, setAt_o, ↓mAugI_eq, augAt_i, kAug_i, ↓gZip_eq, zipD_t, ↓gIdxL_eq, kIdxL_b, kIdxL_o, idxA_v, ↓gIdxK_eq, ↓gSix_eq, kSix_s, oLtU_i, oLtU_s, oLtU_b, ↓gFnD_eq, ↓gFnK_eq, kFnK_21, mOrCt, mOrCf, mAndCt, mAndCf, ↓gF_eq, ↓gFt_eq, ↓mF_eq, oIsiX_v, tyX_b, tyX_i, tyX_s, tyX_n, tyX_t, isiX_ts, isiX_tb, isiX_ti, isiX_tt, isiX_st, isiX_sb, isiX_si, isiX_bs, isiX_bt, isiX_is, isiX_it, isiX_ns, isiX_nt, 
  kvN_o, kvN_b, kvN_l, sN_o, sN_b, oNGet_v, getN_s, oNIn_v, inN_s, oNGet1_v, get1N_s, ↓gNGet1_eq, ↓gNewN_eq, ↓mNPut_eq, nputAt_o, ↓gDcN_eq, ↓gLockN_eq, nlockAt_o, ↓gKeysN_eq, nkeysAt_l, oSetN0_n, ↓mSAdd_eq, sAddAt_o, ↓gMv_eq, mvAt_o, ↓gaConsM_eq, ↓gaConsV_eq, consV_v, ↓mRetM_eq, retMAt_o, ↓mAsgM_eq, asgMAt_o, fnO_to, fnO_o, ↓gLRev_eq, oLRev_o, oLRev_b, oTupN_o, oTupN_b, ↓mPopA_eq, popAAt_o, Option.isSome_some, Option.isSome_none,
  lenOk, decide_eq_true_eq, Nat.reduceAdd, Nat.reduceLeDiff, Nat.reduceEqDiff, Int.reduceEq, Bool.false_xor, Bool.true_xor, Bool.false_or, Bool.or_false, Bool.true_or, Bool.or_true, Bool.true_and, Bool.and_true, Bool.false_and, Bool.and_false, Bool.not_false, Bool.not_true, Bool.false_eq_true, if_true, if_false, reduceIte, ↓reduceIte, decide_true, decide_false, List.length_cons, List.length_nil])
local macro_rules | `(tactic| walk_at "pr") => `(tactic| ((try walk_at "pl"); try rfl))
local macro_rules | `(tactic| walk_at "wk") => `(tactic| try walk_at "pl")
local macro_rules | `(tactic| walk_at "we") => `(tactic| try walk_at "pe")

def top (i : Nat) : Stmt := PySem.Challenge.pw_chartspec_k49_moved_identities.main.body.getD i (.Pass ⟨0, 0, 0, 0⟩)
abbrev s_identity : Stmt := top 1
theorem sc_identity : FnScope ["primitive"] ["primitive"] (defScope s_identity) := ⟨rfl, rfl, rfl, by decide +kernel, rfl, by decide +kernel, by decide +kernel⟩
abbrev s_moved : Stmt := top 3
theorem sc_moved : FnScope ["first", "second", "old", "new", "before", "name", "after", "differing", "place"] ["first", "second"] (defScope s_moved) := ⟨rfl, rfl, rfl, by decide +kernel, rfl, by decide +kernel, by decide +kernel⟩
abbrev s_by_identity : Stmt := top 4
theorem sc_by_identity : FnScope ["scene", "item"] ["scene"] (defScope s_by_identity) := ⟨rfl, rfl, rfl, by decide +kernel, rfl, by decide +kernel, by decide +kernel⟩
abbrev s_law_tape : Stmt := top 6
theorem sc_law_tape : FnScope ["script", "total", "cell"] ["script"] (defScope s_law_tape) := ⟨rfl, rfl, rfl, by decide +kernel, rfl, by decide +kernel, by decide +kernel⟩
abbrev s_law_draw : Stmt := top 7
theorem sc_law_draw : FnScope ["tape", "many", "place", "number"] ["tape", "many"] (defScope s_law_draw) := ⟨rfl, rfl, rfl, by decide +kernel, rfl, by decide +kernel, by decide +kernel⟩
abbrev s_law_word : Stmt := top 8
theorem sc_law_word : FnScope ["tape", "signs", "word", "k"] ["tape"] (defScope s_law_word) := ⟨rfl, rfl, rfl, by decide +kernel, rfl, by decide +kernel, by decide +kernel⟩
abbrev s_law_color : Stmt := top 9
theorem sc_law_color : FnScope ["tape", "number", "digits", "k"] ["tape"] (defScope s_law_color) := ⟨rfl, rfl, rfl, by decide +kernel, rfl, by decide +kernel, by decide +kernel⟩
abbrev s_law_form : Stmt := top 10
theorem sc_law_form : FnScope ["tape", "room", "x", "y", "kind", "points", "k"] ["tape", "room"] (defScope s_law_form) := ⟨rfl, rfl, rfl, by decide +kernel, rfl, by decide +kernel, by decide +kernel⟩
abbrev s_law_clip : Stmt := top 11
theorem sc_law_clip : FnScope ["tape", "room"] ["tape", "room"] (defScope s_law_clip) := ⟨rfl, rfl, rfl, by decide +kernel, rfl, by decide +kernel, by decide +kernel⟩
abbrev s_law_identity : Stmt := top 12
theorem sc_law_identity : FnScope ["tape", "plot", "role", "key"] ["tape"] (defScope s_law_identity) := ⟨rfl, rfl, rfl, by decide +kernel, rfl, by decide +kernel, by decide +kernel⟩
abbrev s_law_new_identity : Stmt := top 13
theorem sc_law_new_identity : FnScope ["tape", "taken", "one"] ["tape", "taken"] (defScope s_law_new_identity) := ⟨rfl, rfl, rfl, by decide +kernel, rfl, by decide +kernel, by decide +kernel⟩
abbrev s_law_primitive : Stmt := top 14
theorem sc_law_primitive : FnScope ["tape", "who", "room", "form", "fill", "stroke"] ["tape", "who", "room"] (defScope s_law_primitive) := ⟨rfl, rfl, rfl, by decide +kernel, rfl, by decide +kernel, by decide +kernel⟩
abbrev s_law_identities : Stmt := top 15
theorem sc_law_identities : FnScope ["items", "item"] ["items"] (defScope s_law_identities) := ⟨rfl, rfl, rfl, by decide +kernel, rfl, by decide +kernel, by decide +kernel⟩
abbrev s_law_scene : Stmt := top 16
theorem sc_law_scene : FnScope ["tape", "width", "height", "room", "many", "items", "k"] ["tape", "width", "height", "room", "many"] (defScope s_law_scene) := ⟨rfl, rfl, rfl, by decide +kernel, rfl, by decide +kernel, by decide +kernel⟩
abbrev s_law_changed_item : Stmt := top 17
theorem sc_law_changed_item : FnScope ["tape", "item", "room", "part", "at"] ["tape", "item", "room"] (defScope s_law_changed_item) := ⟨rfl, rfl, rfl, by decide +kernel, rfl, by decide +kernel, by decide +kernel⟩
abbrev s_law_turned_items : Stmt := top 18
theorem sc_law_turned_items : FnScope ["tape", "items", "turn", "one"] ["tape", "items"] (defScope s_law_turned_items) := ⟨rfl, rfl, rfl, by decide +kernel, rfl, by decide +kernel, by decide +kernel⟩
abbrev s_law_next_scene : Stmt := top 19
theorem sc_law_next_scene : FnScope ["tape", "scene", "room", "items", "item", "fate", "k", "one", "size"] ["tape", "scene", "room"] (defScope s_law_next_scene) := ⟨rfl, rfl, rfl, by decide +kernel, rfl, by decide +kernel, by decide +kernel⟩
abbrev s_law_table : Stmt := top 20
theorem sc_law_table : FnScope ["items", "table", "item"] ["items"] (defScope s_law_table) := ⟨rfl, rfl, rfl, by decide +kernel, rfl, by decide +kernel, by decide +kernel⟩
abbrev s_law_marked : Stmt := top 21
theorem sc_law_marked : FnScope ["names", "table", "one"] ["names"] (defScope s_law_marked) := ⟨rfl, rfl, rfl, by decide +kernel, rfl, by decide +kernel, by decide +kernel⟩
abbrev s_law_changes : Stmt := top 22
theorem sc_law_changes : FnScope ["first", "second", "old", "new", "removed", "one", "item"] ["first", "second"] (defScope s_law_changes) := ⟨rfl, rfl, rfl, by decide +kernel, rfl, by decide +kernel, by decide +kernel⟩
abbrev s_law_moved : Stmt := top 23
theorem sc_law_moved : FnScope ["first", "second", "changes", "out", "before", "one", "after", "places", "k"] ["first", "second"] (defScope s_law_moved) := ⟨rfl, rfl, rfl, by decide +kernel, rfl, by decide +kernel, by decide +kernel⟩
abbrev s_law : Stmt := top 24
theorem sc_law : FnScope ["script", "tape", "first", "second", "told", "before", "item", "after", "at", "end"] ["script"] (defScope s_law) := ⟨rfl, rfl, rfl, by decide +kernel, rfl, by decide +kernel, by decide +kernel⟩
structure Blt (mg : Str → Option Value) : Prop where
  abs : mg "abs" = none
  int : mg "int" = none
  len : mg "len" = none
  list : mg "list" = none
  max : mg "max" = none
  range : mg "range" = none
  repr : mg "repr" = none
  reversed : mg "reversed" = none
  str : mg "str" = none
  tuple : mg "tuple" = none

section
variable {P : Program} {w : World} {K : PySem.W.Frag} {mg : Str → Option Value} {base : Heap}
theorem df_law_tape (M : Blt mg) (A : At K mg "_law_tape" s_law_tape) : Df P w K mg base 1 "_law_tape" ["script"] (sp_law_tape K) := by
  have nd := sc_law_tape.nd
  refine Df.of A (fun _ _ _ _ _ _ us hl => match us, hl with | [_], _ => rfl) sc_law_tape (fun vs H Q E h => ?_) (fun cdv A out f s H vs Q E hr hgd h => ?_)
  · obtain ⟨a, ns, rfl, _⟩ := h
    rfl
  · obtain ⟨a, ns, rfl, hS, hl, k⟩ := h
    refine ⟨_, (pss_cons (ps_set (i := 1) nd rfl (Or.inl rfl) pe_int)
      (pss_cons (ps_for PassesOwn.never rfl (pi_list (pv 0)) (pg_name (i := 2) nd rfl (Or.inl rfl)) (pss_one (ps_set (i := 1) nd rfl (Or.inl rfl) (pe_op op_mod (pe_callTy call_int1 (by rfl) M.int (by decide +kernel) (pa_cons (pe_op op_add (pe_op op_mul (pv 1) pe_int) (pe_callB call_abs (by rfl) M.abs (by decide +kernel) (pa_cons (pe_callTy call_int1 (by rfl) M.int (by decide +kernel) (pa_cons (pv 2) pa_nil)) pa_nil))) pa_nil)) pe_int))))
      (pss_one (ps_ret (pe_lst (pa_cons (pe_callTy (listK K) (by rfl) M.list (by decide +kernel) (pa_cons (pv 0) pa_nil)) (pa_cons pe_int (pa_cons pe_int (pa_cons (pv 1) pa_nil))))))))), at_start (st_of (k := 2) rfl (by walk_at "sts")) ?_⟩
    refine ⟨_, rfl, a, rfl, ⟨_, hS⟩, for_list (K := K) (a := a) (xs := ns.map V.int) (fun i σ H2 => H2 = H ∧ ∃ (z : Int) (v : Option V), σ = [some (.ref a), some (.int z), v] ∧ 0 ≤ z) ⟨rfl, 7, none, rfl, by decide⟩ (fun i σ H2 _ e => by rw [e.1]; exact hS) ?_ ?_⟩
    · rintro i y σ H2 hi ⟨rfl, z, v, rfl, hz⟩
      obtain ⟨n, rfl⟩ := int_at hi
      repeat walk_at "rd1"
      exact Int.emod_nonneg _ (by decide)
    · rintro σ H2 ⟨rfl, z, v, rfl, hz⟩
      refine ⟨_, rfl, a, _, rfl, Or.inl hS, fun l hl => ?_⟩
      repeat walk_at "rd1"
      refine ⟨(by show 4 ≤ sizeLine; decide), fun t ht => ?_⟩
      have nlt : l ≠ t := ne_of_none upd_same ht
      refine k t l _ (fun b o e => ?_) ⟨⟨ns, 0, 0, z, upd_same, by rw [upd_ne nlt]; exact upd_same, by decide, by decide, hz⟩, nlt⟩ ((Same.new hl).free ht) hl
      rw [upd_ne (ne_of_none (Same.new hl _ _ e) ht), upd_ne (ne_of_none e hl)]
      exact e
theorem df_law_draw (M : Blt mg) (A : At K mg "_law_draw" s_law_draw) : Df P w K mg base 1 "_law_draw" ["tape", "many"] (sp_law_draw K) := by
  have nd := sc_law_draw.nd
  refine Df.of A (fun _ _ _ _ _ _ us hl => match us, hl with | [_, _], _ => rfl) sc_law_draw (fun vs H Q E h => ?_) (fun cdv A out f s H vs Q E hr hgd h => ?_)
  · obtain ⟨t, l, m, rfl, _⟩ := h
    rfl
  · obtain ⟨t, l, m, rfl, T, hm, k⟩ := h
    obtain ⟨⟨ns, p, r, s, h1, h2, p0, r0, s0⟩, nlt⟩ := id T
    refine ⟨_, (pss_cons (ps_if (pt_cmpR op_eq (pe_ix (ixL K) (pv 0) pe_int (fun _ _ => rfl)) pe_int (nomark _)) (pss_cons (ps_set (i := 2) nd rfl (Or.inl rfl) (pe_ix (ixL K) (pv 0) pe_int (fun _ _ => rfl)))
      (pss_cons (ps_set (i := 3) nd rfl (Or.inl rfl) pe_int)
      (pss_cons (ps_if (pt_cmpR op_lt (pv 2) (pe_callB (lenK K) (by rfl) M.len (by decide +kernel) (pa_cons (pe_ix (ixL K) (pv 0) pe_int (fun _ _ => rfl)) pa_nil)) (nomark _)) (pss_one (ps_set (i := 3) nd rfl (Or.inl rfl) (pe_callB call_abs (by rfl) M.abs (by decide +kernel) (pa_cons (pe_callTy call_int1 (by rfl) M.int (by decide +kernel) (pa_cons (pe_ix (ixL K) (pe_ix (ixL K) (pv 0) pe_int (fun _ _ => rfl)) (pv 2) (fun _ _ => rfl)) pa_nil)) pa_nil)))) (pss_cons (ps_asg (pe_op op_mod (pe_callTy call_int1 (by rfl) M.int (by decide +kernel) (pa_cons (pe_op op_add (pe_op op_add (pe_op op_mul (pe_ix (ixL K) (pv 0) pe_int (fun _ _ => rfl)) pe_int) (pv 2)) pe_int) pa_nil)) pe_int) (pg_sub (pv 0) pe_int set_list))
      (pss_one (ps_set (i := 3) nd rfl (Or.inl rfl) (pe_ix (ixL K) (pv 0) pe_int (fun _ _ => rfl))))))
      (pss_cons (ps_asg (pe_op op_add (pv 2) pe_int) (pg_sub (pv 0) pe_int set_list))
      (pss_cons (ps_if (pt_cmpR op_lt (pv 3) (pe_op op_pow pe_int pe_int) (nomark _)) (pss_cons (ps_set (i := 3) nd rfl (Or.inl rfl) (pe_op op_mod (pe_callTy call_int1 (by rfl) M.int (by decide +kernel) (pa_cons (pe_op op_add (pe_op op_add (pe_op op_mul (pv 3) pe_int) (pe_op op_mul (pv 2) pe_int)) pe_int) pa_nil)) pe_int))
      (pss_cons (ps_set (i := 3) nd rfl (Or.inl rfl) (pe_op op_mod (pe_callTy call_int1 (by rfl) M.int (by decide +kernel) (pa_cons (pe_op op_mul (pv 3) pe_int) pa_nil)) pe_int))
      (pss_one (ps_ret (pe_op op_mod (pe_callTy call_int1 (by rfl) M.int (by decide +kernel) (pa_cons (pv 3) pa_nil)) (pe_callB (call_max2 rfl) (by rfl) M.max (by decide +kernel) (pa_cons (pv 1) (pa_cons pe_int pa_nil)))))))) pss_nil)
      (pss_one (ps_asg (pv 3) (pg_sub (pv 0) pe_int set_list)))))))) pss_nil)
      (pss_cons (ps_set (i := 3) nd rfl (Or.inl rfl) (pe_ix (ixL K) (pv 0) pe_int (fun _ _ => rfl)))
      (pss_cons (ps_asg (pe_op op_fdiv (pv 3) (pe_callB (call_max2 rfl) (by rfl) M.max (by decide +kernel) (pa_cons (pv 1) (pa_cons pe_int pa_nil)))) (pg_sub (pv 0) pe_int set_list))
      (pss_one (ps_ret (pe_op op_mod (pe_callTy call_int1 (by rfl) M.int (by decide +kernel) (pa_cons (pv 3) pa_nil)) (pe_callB (call_max2 rfl) (by rfl) M.max (by decide +kernel) (pa_cons (pv 1) (pa_cons pe_int pa_nil))))))))), at_start (st_of (k := 2) rfl (by walk_at "sts")) ?_⟩
    have fin : ∀ (n : Int) (H1 : Hp) (p' r' s' : Int), H1 t = some (.lst [.ref l, .int p', .int r', .int s']) → Al t H H1 → 0 ≤ p' → 0 ≤ r' → 0 ≤ s' → Q (.int (n % (if (1 : Int) > m then (1 : Int) else m))) H1 := by
      intro n H1 p' r' s' e1 a1 hp hr' hs
      rw [max_one]
      refine k _ H1 ⟨⟨ns, p', r', s', e1, by rw [a1 l nlt]; exact h2, hp, hr', hs⟩, nlt⟩ a1 (Int.emod_nonneg _ (by omega)) (Int.emod_lt_of_pos _ (by omega))
    repeat walk_at "rd1"
    refine if_int (fun hr0 => ?_) (fun hr0 => ?_)
    · subst hr0
      repeat walk_at "rd1"
      refine if_dec (fun hpl => ?_) (fun hpl => ?_)
      · rw [List.length_map] at hpl
        obtain ⟨n, hn⟩ := at_int p0 hpl
        refine ⟨_, rfl, _, _, _, _, rfl, rfl, SqL.of h1, rfl, _, rfl, _, _, _, _, rfl, rfl, SqL.of h2, hn, ?_⟩
        repeat walk_at "rd1"
        refine if_dec (fun h18 => ?_) (fun h18 => ?_)
        · repeat walk_at "rd1"
          exact fin _ _ (p + 1) 0 s upd_same Al.upd (by omega) (by decide) s0
        · repeat walk_at "rd1"
          exact fin _ _ (p + 1) _ s upd_same ((Al.upd.trans Al.upd).trans Al.upd) (by omega) (Int.ediv_nonneg (by split <;> omega) (by split <;> omega)) s0
      · repeat walk_at "rd1"
        refine if_dec (fun h18 => ?_) (fun h18 => ?_)
        · repeat walk_at "rd1"
          exact fin _ _ (p + 1) 0 _ upd_same (Al.upd.trans Al.upd) (by omega) (by decide) (Int.emod_nonneg _ (by decide))
        · repeat walk_at "rd1"
          exact fin _ _ (p + 1) _ _ upd_same (((Al.upd.trans Al.upd).trans Al.upd).trans Al.upd) (by omega) (Int.ediv_nonneg (Int.emod_nonneg _ (by decide)) (by split <;> omega)) (Int.emod_nonneg _ (by decide))
    · repeat walk_at "rd1"
      exact fin _ _ p _ s upd_same Al.upd p0 (Int.ediv_nonneg r0 (by split <;> omega)) s0
end

/-- identity(primitive); 0 primitive -/
noncomputable def f_identity : List C → M C := fnU 1 0
    (mRet (gSl (gVar 0) gNo (gSome (gC (.int 3)))))
/-- by_identity(scene); 0 scene, 1 item -/
noncomputable def f_by_identity : List C → M C := fnU 1 1
    (mRet (gDcN (gIt (gOp oIx (gVar 0) (gC (.int 2)))) (asgR 1) gYes (gFn f_identity (gaCons (gVar 1) gaNil)) (gVar 1) [1]))
/-- moved(first, second); 0 first, 1 second, 2 old, 3 new, 4 before, 5 name, 6 after, 7 differing, 8 place -/
noncomputable def f_moved : List C → M C := fnU 2 7
    (mSeq (mParO 2 3 (gFn f_by_identity (gaCons (gVar 0) gaNil)) (gFn f_by_identity (gaCons (gVar 1) gaNil)))
      (mSeq (mAsg (gLockN 2 (gLc (gKeysN 2) (asgR 5) (gTest (gOp oEq (gNGet1 (gVar 3) (gVar 5)) (gOp oNGet (gVar 2) (gVar 5)))) (gVar 5) [5])) (asgR 4))
      (mSeq (mAsg (gLockN 3 (gLc (gKeysN 3) (asgR 5) (gTest (gOp oEq (gNGet1 (gVar 2) (gVar 5)) (gOp oNGet (gVar 3) (gVar 5)))) (gVar 5) [5])) (asgR 6))
      (mSeq (mAsg (gLc (gItR1 (gaCons (gCall oLen (gaCons (gVar 4) gaNil)) gaNil)) (asgR 8) (gTest (gOp oNe (gOp oIx (gVar 4) (gVar 8)) (gOp oIx (gVar 6) (gVar 8)))) (gVar 8) [8]) (asgR 7))
      (mSeq (mIf (gNot (gTru (gVar 7))) (mRet (gTupE gaNil)) mNext)
      (mRet (gCall oTupC (gaCons (gSl (gVar 4) (gSome (gOp oIx (gVar 7) (gC (.int 0)))) (gSome (gOp oAdd (gOp oIx (gVar 7) (gUn oNeg (gC (.int 1)))) (gC (.int 1))))) gaNil))))))))
/-- _law_word(tape); 0 tape, 1 signs, 2 word, 3 k -/
noncomputable def f_law_word : List C → M C := fnU 1 3
    (mSeq (mAsg (gC (.str " !\"#$&'()*+,-./0123456789:;<=>?@ABCDEFGHIJKLMNOPQRSTUVWXYZ[\\]^_`")) (asgR 1))
      (mSeq (mAsg (gOp oAdd (gVar 1) (gC (.str "abcdefghijklmnopqrstuvwxyz{|}~"))) (asgR 1))
      (mSeq (mAsg (gC (.str "")) (asgR 2))
      (mSeq (mFor (gItR1 (gaCons (gOp oIx (gLst (gaCons (gC (.int 0)) (gaCons (gC (.int 1)) (gaCons (gC (.int 1)) (gaCons (gC (.int 2)) (gaCons (gC (.int 3)) (gaCons (gC (.int 5)) gaNil))))))) (gCall drawC (gaCons (gVar 0) (gaCons (gC (.int 6)) gaNil)))) gaNil)) (asgR 3) (mAsg (gOp oAdd (gVar 2) (gOp oIx (gVar 1) (gCall drawC (gaCons (gVar 0) (gaCons (gC (.int 94)) gaNil))))) (asgR 2)))
      (mRetV 2)))))
/-- _law_color(tape); 0 tape, 1 number, 2 digits, 3 k -/
noncomputable def f_law_color : List C → M C := fnU 1 3
    (mSeq (mAsg (gCall drawC (gaCons (gVar 0) (gaCons (gC (.int 16777216)) gaNil))) (asgR 1))
      (mSeq (mAsg (gC (.str "")) (asgR 2))
      (mSeq (mFor (gItR1 (gaCons (gC (.int 6)) gaNil)) (asgR 3) (mSeq (mAsg (gOp oAdd (gOp oIx (gC (.str "0123456789abcdef")) (gOp oMod (gCall oIntC (gaCons (gVar 1) gaNil)) (gC (.int 16)))) (gVar 2)) (asgR 2))
      (mAsg (gOp oFdiv (gVar 1) (gC (.int 16))) (asgR 1))))
      (mRet (gOp oIx (gLst (gaCons (gOp oAdd (gC (.str "#")) (gVar 2)) (gaCons (gC (.str "#ffffff")) (gaCons (gC (.str "#000000")) (gaCons (gC (.str "#3a6ea8")) (gaCons (gC .none) gaNil)))))) (gCall drawC (gaCons (gVar 0) (gaCons (gC (.int 5)) gaNil))))))))
/-- _law_form(tape, room); 0 tape, 1 room, 2 x, 3 y, 4 kind, 5 points, 6 k -/
noncomputable def f_law_form : List C → M C := fnU 2 5
    (mSeq (mAsg (gOp oSub (gCall drawC (gaCons (gVar 0) (gaCons (gOp oAdd (gVar 1) (gC (.int 8))) gaNil))) (gC (.int 4))) (asgR 2))
      (mSeq (mAsg (gOp oSub (gCall drawC (gaCons (gVar 0) (gaCons (gOp oAdd (gVar 1) (gC (.int 8))) gaNil))) (gC (.int 4))) (asgR 3))
      (mSeq (mAsg (gCall drawC (gaCons (gVar 0) (gaCons (gC (.int 8)) gaNil))) (asgR 4))
      (mSeq (mIf (gTest (gOp oLt (gVar 4) (gC (.int 2)))) (mRet (gTupE (gaCons (gC (.str "rectangle")) (gaCons (gTupE (gaCons (gVar 2) (gaCons (gVar 3) (gaCons (gCall drawC (gaCons (gVar 0) (gaCons (gVar 1) gaNil))) (gaCons (gCall drawC (gaCons (gVar 0) (gaCons (gVar 1) gaNil))) gaNil))))) (gaCons (gC (.str "")) gaNil))))) mNext)
      (mSeq (mIf (gTest (gOp oEq (gVar 4) (gC (.int 2)))) (mRet (gTupE (gaCons (gC (.str "line")) (gaCons (gTupE (gaCons (gVar 2) (gaCons (gVar 3) (gaCons (gOp oSub (gCall drawC (gaCons (gVar 0) (gaCons (gOp oAdd (gVar 1) (gC (.int 8))) gaNil))) (gC (.int 4))) (gaCons (gOp oSub (gCall drawC (gaCons (gVar 0) (gaCons (gOp oAdd (gVar 1) (gC (.int 8))) gaNil))) (gC (.int 4))) gaNil))))) (gaCons (gC (.str "")) gaNil))))) mNext)
      (mSeq (mIf (gTest (gOp oEq (gVar 4) (gC (.int 3)))) (mSeq (mAsg (gTupE (gaCons (gVar 2) (gaCons (gVar 3) gaNil))) (asgR 5))
      (mSeq (mFor (gItR1 (gaCons (gCall drawC (gaCons (gVar 0) (gaCons (gC (.int 4)) gaNil))) gaNil)) (asgR 6) (mAsg (gOp oAdd (gVar 5) (gTupE (gaCons (gOp oSub (gCall drawC (gaCons (gVar 0) (gaCons (gOp oAdd (gVar 1) (gC (.int 8))) gaNil))) (gC (.int 4))) (gaCons (gOp oSub (gCall drawC (gaCons (gVar 0) (gaCons (gOp oAdd (gVar 1) (gC (.int 8))) gaNil))) (gC (.int 4))) gaNil)))) (asgR 5)))
      (mRet (gTupE (gaCons (gC (.str "polyline")) (gaCons (gVar 5) (gaCons (gC (.str "")) gaNil))))))) mNext)
      (mSeq (mIf (gTest (gOp oEq (gVar 4) (gC (.int 4)))) (mRet (gTupE (gaCons (gC (.str "circle")) (gaCons (gTupE (gaCons (gVar 2) (gaCons (gVar 3) (gaCons (gCall drawC (gaCons (gVar 0) (gaCons (gOp oAdd (gOp oFdiv (gVar 1) (gC (.int 3))) (gC (.int 1))) gaNil))) gaNil)))) (gaCons (gC (.str "")) gaNil))))) mNext)
      (mRet (gTupE (gaCons (gOp oIx (gLst (gaCons (gC (.str "text start")) (gaCons (gC (.str "text middle")) (gaCons (gC (.str "text end")) gaNil)))) (gOp oSub (gVar 4) (gC (.int 5)))) (gaCons (gTupE (gaCons (gVar 2) (gaCons (gVar 3) gaNil))) (gaCons (gFn f_law_word (gaCons (gVar 0) gaNil)) gaNil))))))))))))
/-- _law_clip(tape, room); 0 tape, 1 room -/
noncomputable def f_law_clip : List C → M C := fnU 2 0
    (mSeq (mIf (gTest (gOp oEq (gCall drawC (gaCons (gVar 0) (gaCons (gC (.int 2)) gaNil))) (gC (.int 0)))) (mRet (gC .none)) mNext)
      (mRet (gTupE (gaCons (gOp oSub (gCall drawC (gaCons (gVar 0) (gaCons (gVar 1) gaNil))) (gC (.int 2))) (gaCons (gOp oSub (gCall drawC (gaCons (gVar 0) (gaCons (gVar 1) gaNil))) (gC (.int 2))) (gaCons (gCall drawC (gaCons (gVar 0) (gaCons (gVar 1) gaNil))) (gaCons (gCall drawC (gaCons (gVar 0) (gaCons (gVar 1) gaNil))) gaNil)))))))
/-- _law_identity(tape); 0 tape, 1 plot, 2 role, 3 key -/
noncomputable def f_law_identity : List C → M C := fnU 1 3
    (mSeq (mAsg (gOp oIx (gLst (gaCons (gC .none) (gaCons (gC (.int 0)) (gaCons (gC (.int 0)) (gaCons (gC (.int 1)) (gaCons (gC (.int 1)) (gaCons (gC (.int 2)) (gaCons (gC (.int 99)) gaNil)))))))) (gCall drawC (gaCons (gVar 0) (gaCons (gC (.int 7)) gaNil)))) (asgR 1))
      (mSeq (mAsg (gOp oIx (gLst (gaCons (gC (.str "mark 0")) (gaCons (gC (.str "mark 0")) (gaCons (gC (.str "mark 1")) (gaCons (gC (.str "label 0")) (gaCons (gC (.str "x tick label")) (gaCons (gC (.str "mark 0 ")) (gaCons (gC (.str "")) gaNil)))))))) (gCall drawC (gaCons (gVar 0) (gaCons (gC (.int 7)) gaNil)))) (asgR 2))
      (mSeq (mAsg (gOp oIx (gLst (gaCons (gC (.str "")) (gaCons (gC (.str "1")) (gaCons (gC (.str "1")) (gaCons (gC (.str "2")) (gaCons (gC (.str "10")) (gaCons (gC (.str "\"a\",-")) gaNil))))))) (gCall drawC (gaCons (gVar 0) (gaCons (gC (.int 6)) gaNil)))) (asgR 3))
      (mSeq (mIf (gTest (gOp oEq (gCall drawC (gaCons (gVar 0) (gaCons (gC (.int 5)) gaNil))) (gC (.int 0)))) (mAsg (gOp oAdd (gVar 3) (gFn f_law_word (gaCons (gVar 0) gaNil))) (asgR 3)) mNext)
      (mRet (gTupE (gaCons (gVar 1) (gaCons (gVar 2) (gaCons (gVar 3) gaNil)))))))))
/-- _law_new_identity(tape, taken); 0 tape, 1 taken, 2 one -/
noncomputable def f_law_new_identity : List C → M C := fnU 2 1
    (mSeq (mAsg (gFn f_law_identity (gaCons (gVar 0) gaNil)) (asgR 2))
      (mSeq (mWhile (fun _ => 1000) (gTest (gOp oIn (gVar 2) (gVar 1))) (mAsg (gTupE (gaCons (gOp oIx (gVar 2) (gC (.int 0))) (gaCons (gOp oIx (gVar 2) (gC (.int 1))) (gaCons (gOp oAdd (gOp oIx (gVar 2) (gC (.int 2))) (gCall oStr (gaCons (gCall oLen (gaCons (gVar 1) gaNil)) gaNil))) gaNil)))) (asgR 2)))
      (mRetV 2)))
/-- _law_primitive(tape, who, room); 0 tape, 1 who, 2 room, 3 form, 4 fill, 5 stroke -/
noncomputable def f_law_primitive : List C → M C := fnU 3 3
    (mSeq (mAsg (gFn f_law_form (gaCons (gVar 0) (gaCons (gVar 2) gaNil))) (asgR 3))
      (mSeq (mAsg (gFn f_law_color (gaCons (gVar 0) gaNil)) (asgR 4))
      (mSeq (mAsg (gFn f_law_color (gaCons (gVar 0) gaNil)) (asgR 5))
      (mRet (gOp oAdd (gOp oAdd (gVar 1) (gVar 3)) (gTupE (gaCons (gVar 4) (gaCons (gVar 5) (gaCons (gFn f_law_clip (gaCons (gVar 0) (gaCons (gVar 2) gaNil))) gaNil)))))))))
/-- _law_identities(items); 0 items, 1 item -/
noncomputable def f_law_identities : List C → M C := fnU 1 1
    (mRet (gLc (gItV false 0) (asgR 1) gYes (gSl (gVar 1) gNo (gSome (gC (.int 3)))) [1]))
/-- _law_scene(tape, width, height, room, many); 0 tape, 1 width, 2 height, 3 room, 4 many, 5 items, 6 k -/
noncomputable def f_law_scene : List C → M C := fnU 5 2
    (mSeq (mAsg (gLst gaNil) (asgR 5))
      (mSeq (mFor (gItR1 (gaCons (gVar 4) gaNil)) (asgR 6) (mApp 5 (gFn f_law_primitive (gaCons (gVar 0) (gaCons (gFn f_law_new_identity (gaCons (gVar 0) (gaCons (gFn f_law_identities (gaCons (gVar 5) gaNil)) gaNil))) (gaCons (gVar 3) gaNil))))))
      (mRet (gTupE (gaCons (gVar 1) (gaCons (gVar 2) (gaCons (gCall oTupC (gaCons (gVar 5) gaNil)) gaNil)))))))
/-- _law_changed_item(tape, item, room); 0 tape, 1 item, 2 room, 3 part, 4 at -/
noncomputable def f_law_changed_item : List C → M C := fnU 3 2
    (mSeq (mAsg (gCall drawC (gaCons (gVar 0) (gaCons (gC (.int 6)) gaNil))) (asgR 3))
      (mSeq (mIf (gTest (gOp oEq (gVar 3) (gC (.int 0)))) (mRet (gOp oAdd (gOp oAdd (gSl (gVar 1) gNo (gSome (gC (.int 3)))) (gFn f_law_form (gaCons (gVar 0) (gaCons (gVar 2) gaNil)))) (gSl (gVar 1) (gSome (gC (.int 6))) gNo))) mNext)
      (mSeq (mIf (gOr (gTest (gOp oEq (gVar 3) (gC (.int 1)))) (gTest (gOp oEq (gVar 3) (gC (.int 2))))) (mSeq (mAsg (gCall drawC (gaCons (gVar 0) (gaCons (gCall oLen (gaCons (gOp oIx (gVar 1) (gC (.int 4))) gaNil)) gaNil))) (asgR 4))
      (mRet (gOp oAdd (gOp oAdd (gSl (gVar 1) gNo (gSome (gC (.int 4)))) (gTupE (gaCons (gOp oAdd (gOp oAdd (gSl (gOp oIx (gVar 1) (gC (.int 4))) gNo (gSome (gVar 4))) (gTupE (gaCons (gOp oAdd (gOp oIx (gOp oIx (gVar 1) (gC (.int 4))) (gVar 4)) (gC (.int 1))) gaNil))) (gSl (gOp oIx (gVar 1) (gC (.int 4))) (gSome (gOp oAdd (gVar 4) (gC (.int 1)))) gNo)) gaNil))) (gSl (gVar 1) (gSome (gC (.int 5))) gNo)))) mNext)
      (mSeq (mIf (gTest (gOp oEq (gVar 3) (gC (.int 3)))) (mRet (gOp oAdd (gOp oAdd (gSl (gVar 1) gNo (gSome (gC (.int 6)))) (gTupE (gaCons (gFn f_law_color (gaCons (gVar 0) gaNil)) gaNil))) (gSl (gVar 1) (gSome (gC (.int 7))) gNo))) mNext)
      (mSeq (mIf (gTest (gOp oEq (gVar 3) (gC (.int 4)))) (mRet (gOp oAdd (gOp oAdd (gSl (gVar 1) gNo (gSome (gC (.int 7)))) (gTupE (gaCons (gFn f_law_color (gaCons (gVar 0) gaNil)) gaNil))) (gSl (gVar 1) (gSome (gC (.int 8))) gNo))) mNext)
      (mRet (gOp oAdd (gSl (gVar 1) gNo (gSome (gC (.int 8)))) (gTupE (gaCons (gFn f_law_clip (gaCons (gVar 0) (gaCons (gVar 2) gaNil))) gaNil)))))))))
/-- _law_turned_items(tape, items); 0 tape, 1 items, 2 turn, 3 one -/
noncomputable def f_law_turned_items : List C → M C := fnU 2 2
    (mSeq (mAsg (gCall drawC (gaCons (gVar 0) (gaCons (gC (.int 6)) gaNil))) (asgR 2))
      (mSeq (mIf (gTest (gOp oEq (gVar 2) (gC (.int 0)))) (mRet (gLRev (gVar 1))) mNext)
      (mSeq (mIf (gAnd (gTest (gOp oLt (gVar 2) (gC (.int 3)))) (gTru (gVar 1))) (mSeq (mPopA 1 (gCall drawC (gaCons (gVar 0) (gaCons (gCall oLen (gaCons (gVar 1) gaNil)) gaNil))) (asgR 3))
      (mIns 1 (gaCons (gCall drawC (gaCons (gVar 0) (gaCons (gOp oAdd (gCall oLen (gaCons (gVar 1) gaNil)) (gC (.int 1))) gaNil))) (gaCons (gVar 3) gaNil)))) mNext)
      (mRetV 1))))
/-- _law_next_scene(tape, scene, room); 0 tape, 1 scene, 2 room, 3 items, 4 item, 5 fate, 6 k, 7 one, 8 size -/
noncomputable def f_law_next_scene : List C → M C := fnU 3 6
    (mSeq (mAsg (gLst gaNil) (asgR 3))
      (mSeq (mFor (gIt (gOp oIx (gVar 1) (gC (.int 2)))) (asgR 4) (mSeq (mAsg (gCall drawC (gaCons (gVar 0) (gaCons (gC (.int 8)) gaNil))) (asgR 5))
      (mSeq (mIf (gOr (gTest (gOp oEq (gVar 5) (gC (.int 1)))) (gTest (gOp oEq (gVar 5) (gC (.int 2))))) (mAsg (gFn f_law_changed_item (gaCons (gVar 0) (gaCons (gVar 4) (gaCons (gVar 2) gaNil)))) (asgR 4)) mNext)
      (mIf (gTest (gOp oGt (gVar 5) (gC (.int 0)))) (mApp 3 (gVar 4)) mNext))))
      (mSeq (mAsgM 3 (gMv 0 3 f_law_turned_items) (asgR 3))
      (mSeq (mFor (gItR1 (gaCons (gOp oIx (gLst (gaCons (gC (.int 0)) (gaCons (gC (.int 0)) (gaCons (gC (.int 1)) (gaCons (gC (.int 2)) gaNil))))) (gCall drawC (gaCons (gVar 0) (gaCons (gC (.int 4)) gaNil)))) gaNil)) (asgR 6) (mSeq (mAsg (gFn f_law_primitive (gaCons (gVar 0) (gaCons (gFn f_law_new_identity (gaCons (gVar 0) (gaCons (gFn f_law_identities (gaCons (gVar 3) gaNil)) gaNil))) (gaCons (gVar 2) gaNil)))) (asgR 7))
      (mIns 3 (gaCons (gOp oIx (gLst (gaCons (gCall oLen (gaCons (gVar 3) gaNil)) (gaCons (gCall drawC (gaCons (gVar 0) (gaCons (gOp oAdd (gCall oLen (gaCons (gVar 3) gaNil)) (gC (.int 1))) gaNil))) gaNil))) (gCall drawC (gaCons (gVar 0) (gaCons (gC (.int 2)) gaNil)))) (gaCons (gVar 7) gaNil)))))
      (mSeq (mAsg (gTupE (gaCons (gOp oIx (gVar 1) (gC (.int 0))) (gaCons (gOp oIx (gVar 1) (gC (.int 1))) gaNil))) (asgR 8))
      (mSeq (mIf (gTest (gOp oEq (gCall drawC (gaCons (gVar 0) (gaCons (gC (.int 5)) gaNil))) (gC (.int 0)))) (mAsg (gOp oIx (gLst (gaCons (gTupE (gaCons (gOp oIx (gVar 1) (gC (.int 1))) (gaCons (gOp oIx (gVar 1) (gC (.int 0))) gaNil))) (gaCons (gTupE (gaCons (gOp oAdd (gOp oIx (gVar 1) (gC (.int 0))) (gC (.int 1))) (gaCons (gOp oIx (gVar 1) (gC (.int 1))) gaNil))) (gaCons (gTupE (gaCons (gOp oIx (gVar 1) (gC (.int 0))) (gaCons (gC (.int 0)) gaNil))) gaNil)))) (gCall drawC (gaCons (gVar 0) (gaCons (gC (.int 3)) gaNil)))) (asgR 8)) mNext)
      (mRet (gTupE (gaCons (gOp oIx (gVar 8) (gC (.int 0))) (gaCons (gOp oIx (gVar 8) (gC (.int 1))) (gaCons (gCall oTupC (gaCons (gVar 3) gaNil)) gaNil)))))))))))
/-- _law_table(items); 0 items, 1 table, 2 item -/
noncomputable def f_law_table : List C → M C := fnU 1 2
    (mSeq (mAsg gNewN (asgR 1))
      (mSeq (mForV 0 (asgR 2) (mNPut 1 (gVar 2) (gSl (gVar 2) gNo (gSome (gC (.int 3))))))
      (mRetV 1)))
/-- _law_marked(names); 0 names, 1 table, 2 one -/
noncomputable def f_law_marked : List C → M C := fnU 1 2
    (mSeq (mAsg gNewN (asgR 1))
      (mSeq (mForV 0 (asgR 2) (mNPut 1 (gC (.bool true)) (gVar 2)))
      (mRetV 1)))
/-- _law_changes(first, second); 0 first, 1 second, 2 old, 3 new, 4 removed, 5 one, 6 item -/
noncomputable def f_law_changes : List C → M C := fnU 2 5
    (mSeq (mAsg (gFn f_law_table (gaCons (gOp oIx (gVar 0) (gC (.int 2))) gaNil)) (asgR 2))
      (mSeq (mAsg (gFn f_law_table (gaCons (gOp oIx (gVar 1) (gC (.int 2))) gaNil)) (asgR 3))
      (mSeq (mAsg (gLc (gIt (gFn f_law_identities (gaCons (gOp oIx (gVar 0) (gC (.int 2))) gaNil))) (asgR 5) (gTest (gOp (oNIn true) (gVar 5) (gVar 3))) (gVar 5) [5]) (asgR 4))
      (mFrz 4 (mRet (gLst (gaCons (gVar 4) (gaCons (gFrz (gLc (gIt (gOp oIx (gVar 1) (gC (.int 2)))) (asgR 6) (gTest (gOp oNe (gNGet1 (gVar 2) (gSl (gVar 6) gNo (gSome (gC (.int 3))))) (gVar 6))) (gVar 6) [6])) gaNil))))))))
/-- _law_moved(first, second); 0 first, 1 second, 2 changes, 3 out, 4 before, 5 one, 6 after, 7 places, 8 k -/
noncomputable def f_law_moved : List C → M C := fnU 2 7
    (mSeq (mAsg (gFn f_law_changes (gaCons (gVar 0) (gaCons (gVar 1) gaNil))) (asgR 2))
      (mSeq (mAsg (gFn f_law_marked (gaCons (gOp oAdd (gOp oIx (gVar 2) (gC (.int 0))) (gFn f_law_identities (gaCons (gOp oIx (gVar 2) (gC (.int 1))) gaNil))) gaNil)) (asgR 3))
      (mSeq (mAsg (gLc (gIt (gFn f_law_identities (gaCons (gOp oIx (gVar 0) (gC (.int 2))) gaNil))) (asgR 5) (gTest (gOp (oNIn true) (gVar 5) (gVar 3))) (gVar 5) [5]) (asgR 4))
      (mSeq (mAsg (gLc (gIt (gFn f_law_identities (gaCons (gOp oIx (gVar 1) (gC (.int 2))) gaNil))) (asgR 5) (gTest (gOp (oNIn true) (gVar 5) (gVar 3))) (gVar 5) [5]) (asgR 6))
      (mSeq (mAsg (gLc (gItR1 (gaCons (gCall oLen (gaCons (gVar 4) gaNil)) gaNil)) (asgR 8) (gTest (gOp oNe (gOp oIx (gVar 4) (gVar 8)) (gOp oIx (gVar 6) (gVar 8)))) (gVar 8) [8]) (asgR 7))
      (mSeq (mIf (gNot (gTru (gVar 7))) (mRet (gLst gaNil)) mNext)
      (mRet (gSl (gVar 4) (gSome (gOp oIx (gVar 7) (gC (.int 0)))) (gSome (gOp oAdd (gOp oIx (gVar 7) (gOp oSub (gCall oLen (gaCons (gVar 7) gaNil)) (gC (.int 1)))) (gC (.int 1))))))))))))
/-- law; 0 script, 1 tape, 2 first, 3 second, 4 told, 5 before, 6 item, 7 after, 8 at, 9 end -/
noncomputable def m_law : Ro → M Res :=
    (mSeq (mAsg (gFn f_law_scene (gaCons (gVar 1) (gaCons (gCall drawC (gaCons (gVar 1) (gaCons (gC (.int 30)) gaNil))) (gaCons (gCall drawC (gaCons (gVar 1) (gaCons (gC (.int 30)) gaNil))) (gaCons (gC (.int 16)) (gaCons (gCall drawC (gaCons (gVar 1) (gaCons (gC (.int 10)) gaNil))) gaNil)))))) (asgR 2))
      (mSeq (mAsg (gFn f_law_next_scene (gaCons (gVar 1) (gaCons (gVar 2) (gaCons (gC (.int 16)) gaNil)))) (asgR 3))
      (mSeq (mAsg (gFn f_moved (gaCons (gVar 2) (gaCons (gVar 3) gaNil))) (asgR 4))
      (mSeq (mIf (gTest (gOp oNe (gCall oRepr (gaCons (gVar 4) gaNil)) (gCall oRepr (gaCons (gCall oTupC (gaCons (gFn f_law_moved (gaCons (gVar 2) (gaCons (gVar 3) gaNil))) gaNil)) gaNil)))) (mRet (gC (.bool false))) mNext)
      (mSeq (mAsg (gLc (gIt (gOp oIx (gVar 2) (gC (.int 2)))) (asgR 6) (gTest (gOp oIn (gVar 6) (gOp oIx (gVar 3) (gC (.int 2))))) (gSl (gVar 6) gNo (gSome (gC (.int 3)))) [6]) (asgR 5))
      (mSeq (mAsg (gLc (gIt (gOp oIx (gVar 3) (gC (.int 2)))) (asgR 6) (gTest (gOp oIn (gVar 6) (gOp oIx (gVar 2) (gC (.int 2))))) (gSl (gVar 6) gNo (gSome (gC (.int 3)))) [6]) (asgR 7))
      (mSeq (mIf (gNot (gTru (gVar 4))) (mRet (gOp oEq (gVar 5) (gVar 7))) mNext)
      (mSeq (mAsg (gIdxL (gVar 5) (gaCons (gOp oIx (gVar 4) (gC (.int 0))) gaNil)) (asgR 8))
      (mSeq (mAsg (gOp oAdd (gVar 8) (gCall oLen (gaCons (gVar 4) gaNil))) (asgR 9))
      (mSeq (mIf (gOr (gTest (gOp oNe (gSl (gVar 5) gNo (gSome (gVar 8))) (gSl (gVar 7) gNo (gSome (gVar 8))))) (gOr (gTest (gOp oNe (gSl (gVar 5) (gSome (gVar 9)) gNo) (gSl (gVar 7) (gSome (gVar 9)) gNo))) (gTest (gOp oNe (gSl (gVar 5) (gSome (gVar 8)) (gSome (gVar 9))) (gCall oListC (gaCons (gVar 4) gaNil)))))) (mRet (gC (.bool false))) mNext)
      (mRet (gAndT (gOp oNe (gOp oIx (gVar 5) (gVar 8)) (gOp oIx (gVar 7) (gVar 8))) (gOp oNe (gOp oIx (gVar 5) (gOp oSub (gVar 9) (gC (.int 1)))) (gOp oIx (gVar 7) (gOp oSub (gVar 9) (gC (.int 1)))))))))))))))))

section
variable {K : PySem.W.Frag} [WP K] {mg : Str → Option Value} {base : Heap}
theorem df_identity (M : Blt mg) (A : At K mg "identity" s_identity) : Df (WP.P K) (WP.w K) K mg base 1 "identity" ["primitive"] (spU K f_identity) := by
  have nd := sc_identity.nd
  exact Df.uni A (fun _ _ _ _ _ _ us hl => match us, hl with | [_], _ => rfl) sc_identity rfl (fun cdv A out f s H E hr hgd => ⟨_, (pss_one (ps_ret (pe_slice (slU K) (pv 0) po_none (po_some pe_int)))),
    (rs_ret (re_sl (re_var (i := 0)) ro_no (ro_some re_int)))⟩)
theorem df_by_identity (M : Blt mg) (A : At K mg "by_identity" s_by_identity) (D_identity : Df (WP.P K) (WP.w K) K mg base 1 "identity" ["primitive"] (spU K f_identity)) : Df (WP.P K) (WP.w K) K mg base 2 "by_identity" ["scene"] (spU K f_by_identity) := by
  have nd := sc_by_identity.nd
  exact Df.uni A (fun _ _ _ _ _ _ us hl => match us, hl with | [_], _ => rfl) sc_by_identity rfl (fun cdv A out f s H E hr hgd => ⟨_, (pss_one (ps_ret (pe_dcN (own := [("item", 1)]) (g := (gName 1)) (tt := tYes) (u9 hr) rfl nd (pi_seq K (pe_ix (ixU K) (pv 0) pe_int (fun _ _ => rfl))) (blkOk_by (N := ["scene", "item"]) (sc := (defScope s_by_identity)) (by decide +kernel)) (fun _ _ _ _ _ => (pg_name (i := 1) nd rfl (Or.inl rfl))) (fun _ _ _ _ _ => pts_nil) (fun _ _ _ _ _ => (pe_df D_identity (hr.mono (by decide)) hgd rfl (pa_cons (pv 1) pa_nil))) (fun _ _ _ _ _ => (pv 1))))),
    (rs_ret (re_dcN (s := false) (ri_seq (s := false) (re_op os_ix (re_var (i := 0)) re_int)) (rg_name (i := 1)) rt_yes (re_fn (ra_cons (re_var (i := 1)) ra_nil)) (re_var (i := 1)) (by decide)))⟩)
theorem df_moved (M : Blt mg) (A : At K mg "moved" s_moved) (D_by_identity : Df (WP.P K) (WP.w K) K mg base 2 "by_identity" ["scene"] (spU K f_by_identity)) : Df (WP.P K) (WP.w K) K mg base 3 "moved" ["first", "second"] (spU K f_moved) := by
  have nd := sc_moved.nd
  exact Df.uni A (fun _ _ _ _ _ _ us hl => match us, hl with | [_, _], _ => rfl) sc_moved rfl (fun cdv A out f s H E hr hgd => ⟨_, (pss_cons (par2 (ps_parX (i := 2) (j := 3) (by rfl) nd rfl rfl (Or.inr rfl) (Or.inr rfl) (pa_cons (pe_df D_by_identity (hr.mono (by decide)) hgd rfl (pa_cons (pv 0) pa_nil)) (pa_cons (pe_df D_by_identity (hr.mono (by decide)) hgd rfl (pa_cons (pv 1) pa_nil)) pa_nil))))
      (pss_cons (ps_set (i := 4) nd rfl (Or.inr rfl) (pe_lock (pe_lc (own := [("name", 5)]) (g := (gName 5)) rfl nd (pi_keysN (pv 2)) (blkOk_by (N := ["first", "second", "old", "new", "before", "name", "after", "differing", "place"]) (sc := (defScope s_moved)) (by decide +kernel)) (fun _ _ _ _ _ => (pg_name (i := 5) nd rfl (Or.inl rfl))) (fun _ _ _ _ _ => (pts_one (pt_cmpR (opEq K hr.units) (pe_dget1N (u9 hr) (pv 3) (pv 5) ⟨rfl, rfl, rfl, rfl⟩) (pe_dgetN (u9 hr) (pv 2) (pv 5) (fun _ _ => rfl)) (nomark _)))) (fun _ _ _ _ _ => (pv 5)))))
      (pss_cons (ps_set (i := 6) nd rfl (Or.inr rfl) (pe_lock (pe_lc (own := [("name", 5)]) (g := (gName 5)) rfl nd (pi_keysN (pv 3)) (blkOk_by (N := ["first", "second", "old", "new", "before", "name", "after", "differing", "place"]) (sc := (defScope s_moved)) (by decide +kernel)) (fun _ _ _ _ _ => (pg_name (i := 5) nd rfl (Or.inl rfl))) (fun _ _ _ _ _ => (pts_one (pt_cmpR (opEq K hr.units) (pe_dget1N (u9 hr) (pv 2) (pv 5) ⟨rfl, rfl, rfl, rfl⟩) (pe_dgetN (u9 hr) (pv 3) (pv 5) (fun _ _ => rfl)) (nomark _)))) (fun _ _ _ _ _ => (pv 5)))))
      (pss_cons (ps_setLc (i := 7) (own := [("place", 8)]) (g := (gName 8)) rfl nd rfl rfl (sw_true rfl rfl rfl (by decide +kernel)) (pi_range1 rfl M.range (pa_cons (pe_callB (lenK K) (by rfl) M.len (by decide +kernel) (pa_cons (pv 4) pa_nil)) pa_nil)) (blkOk_by (N := ["first", "second", "old", "new", "before", "name", "after", "differing", "place"]) (sc := (defScope s_moved)) (by decide +kernel)) (fun _ _ _ _ _ => (pg_name (i := 8) nd rfl (Or.inl rfl))) (fun _ _ _ _ _ => (pts_one (pt_cmpR (opNe K hr.units) (pe_ix (ixU K) (pv 4) (pv 8) (fun _ _ => rfl)) (pe_ix (ixU K) (pv 6) (pv 8) (fun _ _ => rfl)) (nomark _)))) (fun _ _ _ _ _ => (pv 8)))
      (pss_cons (ps_if (pt_not (truK K (pv 7))) (pss_one (ps_ret (pe_tup pa_nil))) pss_nil)
      (pss_one (ps_ret (pe_callTy (tupK K) (by rfl) M.tuple (by decide +kernel) (pa_cons (pe_slice (slU K) (pv 4) (po_some (pe_ix (ixU K) (pv 7) pe_int (fun _ _ => rfl))) (po_some (pe_op (opAdd K) (pe_ix (ixU K) (pv 7) (pe_un un_neg pe_int) (fun _ _ => rfl)) pe_int))) pa_nil))))))))),
    (rs_seq (rs_parO (re_fn (ra_cons (re_var (i := 0)) ra_nil)) (re_fn (ra_cons (re_var (i := 1)) ra_nil)))
      (rs_seq (rs_asg (re_lockN (i := 2) (re_lc (s := false) (ri_keysN (i := 2) (s := false)) (rg_name (i := 5)) (rt_test (re_op os_eq (re_dget1N (re_var (i := 3)) (re_var (i := 5))) (re_dgetN (re_var (i := 2)) (re_var (i := 5))))) (re_var (i := 5)) (by decide))) (rg_name (i := 4)))
      (rs_seq (rs_asg (re_lockN (i := 3) (re_lc (s := false) (ri_keysN (i := 3) (s := false)) (rg_name (i := 5)) (rt_test (re_op os_eq (re_dget1N (re_var (i := 2)) (re_var (i := 5))) (re_dgetN (re_var (i := 3)) (re_var (i := 5))))) (re_var (i := 5)) (by decide))) (rg_name (i := 6)))
      (rs_seq (rs_asg (re_lc (s := false) (ri_rng1 (s := false) (ra_cons (re_call cs_len (ra_cons (re_var (i := 4)) ra_nil)) ra_nil)) (rg_name (i := 8)) (rt_test (re_op os_ne (re_op os_ix (re_var (i := 4)) (re_var (i := 8))) (re_op os_ix (re_var (i := 6)) (re_var (i := 8))))) (re_var (i := 8)) (by decide)) (rg_name (i := 7)))
      (rs_seq (rs_if (rt_not (rt_tru (re_var (i := 7)))) (rs_ret (re_tup ra_nil)) rs_next)
      (rs_ret (re_call cs_tuple (ra_cons (re_sl (re_var (i := 4)) (ro_some (re_op os_ix (re_var (i := 7)) re_int)) (ro_some (re_op os_add (re_op os_ix (re_var (i := 7)) (re_un us_neg re_int)) re_int))) ra_nil))))))))⟩)
theorem df_law_word (M : Blt mg) (A : At K mg "_law_word" s_law_word) (D_law_draw : Df (WP.P K) (WP.w K) K mg base 1 "_law_draw" ["tape", "many"] (sp_law_draw K)) : Df (WP.P K) (WP.w K) K mg base 2 "_law_word" ["tape"] (spU K f_law_word) := by
  have nd := sc_law_word.nd
  exact Df.uni A (fun _ _ _ _ _ _ us hl => match us, hl with | [_], _ => rfl) sc_law_word rfl (fun cdv A out f s H E hr hgd => ⟨_, (pss_cons (ps_set (i := 1) nd rfl (Or.inl rfl) pe_str)
      (pss_cons (ps_set (i := 1) nd rfl (Or.inl rfl) (pe_op (opAdd K) (pv 1) pe_str))
      (pss_cons (ps_set (i := 2) nd rfl (Or.inl rfl) pe_str)
      (pss_cons (ps_for PassesOwn.never rfl (pi_range1 rfl M.range (pa_cons (pe_ix (ixU K) (pe_lst (pa_cons pe_int (pa_cons pe_int (pa_cons pe_int (pa_cons pe_int (pa_cons pe_int (pa_cons pe_int pa_nil))))))) (pe_df D_law_draw (hr.mono (by decide)) hgd rfl (pa_cons (pv 0) (pa_cons pe_int pa_nil))) (fun _ _ => rfl)) pa_nil)) (pg_name (i := 3) nd rfl (Or.inl rfl)) (pss_one (ps_set (i := 2) nd rfl (Or.inl rfl) (pe_op (opAdd K) (pv 2) (pe_ix (ixU K) (pv 1) (pe_df D_law_draw (hr.mono (by decide)) hgd rfl (pa_cons (pv 0) (pa_cons pe_int pa_nil))) (fun _ _ => rfl))))))
      (pss_one (ps_ret (pv 2))))))),
    (rs_seq (rs_asg re_str (rg_name (i := 1)))
      (rs_seq (rs_asg (re_op os_add (re_var (i := 1)) re_str) (rg_name (i := 1)))
      (rs_seq (rs_asg re_str (rg_name (i := 2)))
      (rs_seq (rs_for (ri_rng1 (s := true) (ra_cons (re_op os_ix (re_lst (ra_cons re_int (ra_cons re_int (ra_cons re_int (ra_cons re_int (ra_cons re_int (ra_cons re_int ra_nil))))))) (re_draw (ra_cons (re_var (i := 0)) (ra_cons re_int ra_nil)))) ra_nil)) (rg_name (i := 3)) (rs_asg (re_op os_add (re_var (i := 2)) (re_op os_ix (re_var (i := 1)) (re_draw (ra_cons (re_var (i := 0)) (ra_cons re_int ra_nil))))) (rg_name (i := 2))))
      (rs_retV (i := 2))))))⟩)
end
section
variable {K : PySem.W.Frag} [WP K] {mg : Str → Option Value} {base : Heap}
theorem df_law_color (M : Blt mg) (A : At K mg "_law_color" s_law_color) (D_law_draw : Df (WP.P K) (WP.w K) K mg base 1 "_law_draw" ["tape", "many"] (sp_law_draw K)) : Df (WP.P K) (WP.w K) K mg base 2 "_law_color" ["tape"] (spU K f_law_color) := by
  have nd := sc_law_color.nd
  exact Df.uni A (fun _ _ _ _ _ _ us hl => match us, hl with | [_], _ => rfl) sc_law_color rfl (fun cdv A out f s H E hr hgd => ⟨_, (pss_cons (ps_set (i := 1) nd rfl (Or.inl rfl) (pe_df D_law_draw (hr.mono (by decide)) hgd rfl (pa_cons (pv 0) (pa_cons pe_int pa_nil))))
      (pss_cons (ps_set (i := 2) nd rfl (Or.inl rfl) pe_str)
      (pss_cons (ps_for PassesOwn.never rfl (pi_range1 rfl M.range (pa_cons pe_int pa_nil)) (pg_name (i := 3) nd rfl (Or.inl rfl)) (pss_cons (ps_set (i := 2) nd rfl (Or.inl rfl) (pe_op (opAdd K) (pe_ix (ixU K) pe_str (pe_op op_mod (pe_callTy call_int1 (by rfl) M.int (by decide +kernel) (pa_cons (pv 1) pa_nil)) pe_int) (fun _ _ => rfl)) (pv 2)))
      (pss_one (ps_set (i := 1) nd rfl (Or.inl rfl) (pe_op op_fdivW (pv 1) pe_int)))))
      (pss_one (ps_ret (pe_ix (ixU K) (pe_lst (pa_cons (pe_op (opAdd K) pe_str (pv 2)) (pa_cons pe_str (pa_cons pe_str (pa_cons pe_str (pa_cons pe_non pa_nil)))))) (pe_df D_law_draw (hr.mono (by decide)) hgd rfl (pa_cons (pv 0) (pa_cons pe_int pa_nil))) (fun _ _ => rfl))))))),
    (rs_seq (rs_asg (re_draw (ra_cons (re_var (i := 0)) (ra_cons re_int ra_nil))) (rg_name (i := 1)))
      (rs_seq (rs_asg re_str (rg_name (i := 2)))
      (rs_seq (rs_for (ri_rng1 (s := true) (ra_cons re_int ra_nil)) (rg_name (i := 3)) (rs_seq (rs_asg (re_op os_add (re_op os_ix re_str (re_op os_mod (re_call cs_int (ra_cons (re_var (i := 1)) ra_nil)) re_int)) (re_var (i := 2))) (rg_name (i := 2)))
      (rs_asg (re_op os_fdiv (re_var (i := 1)) re_int) (rg_name (i := 1)))))
      (rs_ret (re_op os_ix (re_lst (ra_cons (re_op os_add re_str (re_var (i := 2))) (ra_cons re_str (ra_cons re_str (ra_cons re_str (ra_cons re_non ra_nil)))))) (re_draw (ra_cons (re_var (i := 0)) (ra_cons re_int ra_nil))))))))⟩)
theorem df_law_form (M : Blt mg) (A : At K mg "_law_form" s_law_form) (D_law_draw : Df (WP.P K) (WP.w K) K mg base 1 "_law_draw" ["tape", "many"] (sp_law_draw K)) (D_law_word : Df (WP.P K) (WP.w K) K mg base 2 "_law_word" ["tape"] (spU K f_law_word)) : Df (WP.P K) (WP.w K) K mg base 3 "_law_form" ["tape", "room"] (spU K f_law_form) := by
  have nd := sc_law_form.nd
  exact Df.uni A (fun _ _ _ _ _ _ us hl => match us, hl with | [_, _], _ => rfl) sc_law_form rfl (fun cdv A out f s H E hr hgd => ⟨_, (pss_cons (ps_set (i := 2) nd rfl (Or.inl rfl) (pe_op op_sub (pe_df D_law_draw (hr.mono (by decide)) hgd rfl (pa_cons (pv 0) (pa_cons (pe_op (opAdd K) (pv 1) pe_int) pa_nil))) pe_int))
      (pss_cons (ps_set (i := 3) nd rfl (Or.inl rfl) (pe_op op_sub (pe_df D_law_draw (hr.mono (by decide)) hgd rfl (pa_cons (pv 0) (pa_cons (pe_op (opAdd K) (pv 1) pe_int) pa_nil))) pe_int))
      (pss_cons (ps_set (i := 4) nd rfl (Or.inl rfl) (pe_df D_law_draw (hr.mono (by decide)) hgd rfl (pa_cons (pv 0) (pa_cons pe_int pa_nil))))
      (pss_cons (ps_if (pt_cmpR op_lt (pv 4) pe_int (nomark _)) (pss_one (ps_ret (pe_tup (pa_cons pe_str (pa_cons (pe_tup (pa_cons (pv 2) (pa_cons (pv 3) (pa_cons (pe_df D_law_draw (hr.mono (by decide)) hgd rfl (pa_cons (pv 0) (pa_cons (pv 1) pa_nil))) (pa_cons (pe_df D_law_draw (hr.mono (by decide)) hgd rfl (pa_cons (pv 0) (pa_cons (pv 1) pa_nil))) pa_nil))))) (pa_cons pe_str pa_nil)))))) pss_nil)
      (pss_cons (ps_if (pt_cmpR (opEq K hr.units) (pv 4) pe_int (nomark _)) (pss_one (ps_ret (pe_tup (pa_cons pe_str (pa_cons (pe_tup (pa_cons (pv 2) (pa_cons (pv 3) (pa_cons (pe_op op_sub (pe_df D_law_draw (hr.mono (by decide)) hgd rfl (pa_cons (pv 0) (pa_cons (pe_op (opAdd K) (pv 1) pe_int) pa_nil))) pe_int) (pa_cons (pe_op op_sub (pe_df D_law_draw (hr.mono (by decide)) hgd rfl (pa_cons (pv 0) (pa_cons (pe_op (opAdd K) (pv 1) pe_int) pa_nil))) pe_int) pa_nil))))) (pa_cons pe_str pa_nil)))))) pss_nil)
      (pss_cons (ps_if (pt_cmpR (opEq K hr.units) (pv 4) pe_int (nomark _)) (pss_cons (ps_set (i := 5) nd rfl (Or.inl rfl) (pe_tup (pa_cons (pv 2) (pa_cons (pv 3) pa_nil))))
      (pss_cons (ps_for PassesOwn.never rfl (pi_range1 rfl M.range (pa_cons (pe_df D_law_draw (hr.mono (by decide)) hgd rfl (pa_cons (pv 0) (pa_cons pe_int pa_nil))) pa_nil)) (pg_name (i := 6) nd rfl (Or.inl rfl)) (pss_one (ps_set (i := 5) nd rfl (Or.inl rfl) (pe_op (opAdd K) (pv 5) (pe_tup (pa_cons (pe_op op_sub (pe_df D_law_draw (hr.mono (by decide)) hgd rfl (pa_cons (pv 0) (pa_cons (pe_op (opAdd K) (pv 1) pe_int) pa_nil))) pe_int) (pa_cons (pe_op op_sub (pe_df D_law_draw (hr.mono (by decide)) hgd rfl (pa_cons (pv 0) (pa_cons (pe_op (opAdd K) (pv 1) pe_int) pa_nil))) pe_int) pa_nil)))))))
      (pss_one (ps_ret (pe_tup (pa_cons pe_str (pa_cons (pv 5) (pa_cons pe_str pa_nil)))))))) pss_nil)
      (pss_cons (ps_if (pt_cmpR (opEq K hr.units) (pv 4) pe_int (nomark _)) (pss_one (ps_ret (pe_tup (pa_cons pe_str (pa_cons (pe_tup (pa_cons (pv 2) (pa_cons (pv 3) (pa_cons (pe_df D_law_draw (hr.mono (by decide)) hgd rfl (pa_cons (pv 0) (pa_cons (pe_op (opAdd K) (pe_op op_fdivW (pv 1) pe_int) pe_int) pa_nil))) pa_nil)))) (pa_cons pe_str pa_nil)))))) pss_nil)
      (pss_one (ps_ret (pe_tup (pa_cons (pe_ix (ixU K) (pe_lst (pa_cons pe_str (pa_cons pe_str (pa_cons pe_str pa_nil)))) (pe_op op_sub (pv 4) pe_int) (fun _ _ => rfl)) (pa_cons (pe_tup (pa_cons (pv 2) (pa_cons (pv 3) pa_nil))) (pa_cons (pe_df D_law_word (hr.mono (by decide)) hgd rfl (pa_cons (pv 0) pa_nil)) pa_nil))))))))))))),
    (rs_seq (rs_asg (re_op os_sub (re_draw (ra_cons (re_var (i := 0)) (ra_cons (re_op os_add (re_var (i := 1)) re_int) ra_nil))) re_int) (rg_name (i := 2)))
      (rs_seq (rs_asg (re_op os_sub (re_draw (ra_cons (re_var (i := 0)) (ra_cons (re_op os_add (re_var (i := 1)) re_int) ra_nil))) re_int) (rg_name (i := 3)))
      (rs_seq (rs_asg (re_draw (ra_cons (re_var (i := 0)) (ra_cons re_int ra_nil))) (rg_name (i := 4)))
      (rs_seq (rs_if (rt_test (re_op os_cmp0 (re_var (i := 4)) re_int)) (rs_ret (re_tup (ra_cons re_str (ra_cons (re_tup (ra_cons (re_var (i := 2)) (ra_cons (re_var (i := 3)) (ra_cons (re_draw (ra_cons (re_var (i := 0)) (ra_cons (re_var (i := 1)) ra_nil))) (ra_cons (re_draw (ra_cons (re_var (i := 0)) (ra_cons (re_var (i := 1)) ra_nil))) ra_nil))))) (ra_cons re_str ra_nil))))) rs_next)
      (rs_seq (rs_if (rt_test (re_op os_eq (re_var (i := 4)) re_int)) (rs_ret (re_tup (ra_cons re_str (ra_cons (re_tup (ra_cons (re_var (i := 2)) (ra_cons (re_var (i := 3)) (ra_cons (re_op os_sub (re_draw (ra_cons (re_var (i := 0)) (ra_cons (re_op os_add (re_var (i := 1)) re_int) ra_nil))) re_int) (ra_cons (re_op os_sub (re_draw (ra_cons (re_var (i := 0)) (ra_cons (re_op os_add (re_var (i := 1)) re_int) ra_nil))) re_int) ra_nil))))) (ra_cons re_str ra_nil))))) rs_next)
      (rs_seq (rs_if (rt_test (re_op os_eq (re_var (i := 4)) re_int)) (rs_seq (rs_asg (re_tup (ra_cons (re_var (i := 2)) (ra_cons (re_var (i := 3)) ra_nil))) (rg_name (i := 5)))
      (rs_seq (rs_for (ri_rng1 (s := true) (ra_cons (re_draw (ra_cons (re_var (i := 0)) (ra_cons re_int ra_nil))) ra_nil)) (rg_name (i := 6)) (rs_asg (re_op os_add (re_var (i := 5)) (re_tup (ra_cons (re_op os_sub (re_draw (ra_cons (re_var (i := 0)) (ra_cons (re_op os_add (re_var (i := 1)) re_int) ra_nil))) re_int) (ra_cons (re_op os_sub (re_draw (ra_cons (re_var (i := 0)) (ra_cons (re_op os_add (re_var (i := 1)) re_int) ra_nil))) re_int) ra_nil)))) (rg_name (i := 5))))
      (rs_ret (re_tup (ra_cons re_str (ra_cons (re_var (i := 5)) (ra_cons re_str ra_nil))))))) rs_next)
      (rs_seq (rs_if (rt_test (re_op os_eq (re_var (i := 4)) re_int)) (rs_ret (re_tup (ra_cons re_str (ra_cons (re_tup (ra_cons (re_var (i := 2)) (ra_cons (re_var (i := 3)) (ra_cons (re_draw (ra_cons (re_var (i := 0)) (ra_cons (re_op os_add (re_op os_fdiv (re_var (i := 1)) re_int) re_int) ra_nil))) ra_nil)))) (ra_cons re_str ra_nil))))) rs_next)
      (rs_ret (re_tup (ra_cons (re_op os_ix (re_lst (ra_cons re_str (ra_cons re_str (ra_cons re_str ra_nil)))) (re_op os_sub (re_var (i := 4)) re_int)) (ra_cons (re_tup (ra_cons (re_var (i := 2)) (ra_cons (re_var (i := 3)) ra_nil))) (ra_cons (re_fn (ra_cons (re_var (i := 0)) ra_nil)) ra_nil))))))))))))⟩)
theorem df_law_clip (M : Blt mg) (A : At K mg "_law_clip" s_law_clip) (D_law_draw : Df (WP.P K) (WP.w K) K mg base 1 "_law_draw" ["tape", "many"] (sp_law_draw K)) : Df (WP.P K) (WP.w K) K mg base 2 "_law_clip" ["tape", "room"] (spU K f_law_clip) := by
  have nd := sc_law_clip.nd
  exact Df.uni A (fun _ _ _ _ _ _ us hl => match us, hl with | [_, _], _ => rfl) sc_law_clip rfl (fun cdv A out f s H E hr hgd => ⟨_, (pss_cons (ps_if (pt_cmpR (opEq K hr.units) (pe_df D_law_draw (hr.mono (by decide)) hgd rfl (pa_cons (pv 0) (pa_cons pe_int pa_nil))) pe_int (nomark _)) (pss_one (ps_ret pe_non)) pss_nil)
      (pss_one (ps_ret (pe_tup (pa_cons (pe_op op_sub (pe_df D_law_draw (hr.mono (by decide)) hgd rfl (pa_cons (pv 0) (pa_cons (pv 1) pa_nil))) pe_int) (pa_cons (pe_op op_sub (pe_df D_law_draw (hr.mono (by decide)) hgd rfl (pa_cons (pv 0) (pa_cons (pv 1) pa_nil))) pe_int) (pa_cons (pe_df D_law_draw (hr.mono (by decide)) hgd rfl (pa_cons (pv 0) (pa_cons (pv 1) pa_nil))) (pa_cons (pe_df D_law_draw (hr.mono (by decide)) hgd rfl (pa_cons (pv 0) (pa_cons (pv 1) pa_nil))) pa_nil)))))))),
    (rs_seq (rs_if (rt_test (re_op os_eq (re_draw (ra_cons (re_var (i := 0)) (ra_cons re_int ra_nil))) re_int)) (rs_ret re_non) rs_next)
      (rs_ret (re_tup (ra_cons (re_op os_sub (re_draw (ra_cons (re_var (i := 0)) (ra_cons (re_var (i := 1)) ra_nil))) re_int) (ra_cons (re_op os_sub (re_draw (ra_cons (re_var (i := 0)) (ra_cons (re_var (i := 1)) ra_nil))) re_int) (ra_cons (re_draw (ra_cons (re_var (i := 0)) (ra_cons (re_var (i := 1)) ra_nil))) (ra_cons (re_draw (ra_cons (re_var (i := 0)) (ra_cons (re_var (i := 1)) ra_nil))) ra_nil)))))))⟩)
theorem df_law_identity (M : Blt mg) (A : At K mg "_law_identity" s_law_identity) (D_law_draw : Df (WP.P K) (WP.w K) K mg base 1 "_law_draw" ["tape", "many"] (sp_law_draw K)) (D_law_word : Df (WP.P K) (WP.w K) K mg base 2 "_law_word" ["tape"] (spU K f_law_word)) : Df (WP.P K) (WP.w K) K mg base 3 "_law_identity" ["tape"] (spU K f_law_identity) := by
  have nd := sc_law_identity.nd
  exact Df.uni A (fun _ _ _ _ _ _ us hl => match us, hl with | [_], _ => rfl) sc_law_identity rfl (fun cdv A out f s H E hr hgd => ⟨_, (pss_cons (ps_set (i := 1) nd rfl (Or.inl rfl) (pe_ix (ixU K) (pe_lst (pa_cons pe_non (pa_cons pe_int (pa_cons pe_int (pa_cons pe_int (pa_cons pe_int (pa_cons pe_int (pa_cons pe_int pa_nil)))))))) (pe_df D_law_draw (hr.mono (by decide)) hgd rfl (pa_cons (pv 0) (pa_cons pe_int pa_nil))) (fun _ _ => rfl)))
      (pss_cons (ps_set (i := 2) nd rfl (Or.inl rfl) (pe_ix (ixU K) (pe_lst (pa_cons pe_str (pa_cons pe_str (pa_cons pe_str (pa_cons pe_str (pa_cons pe_str (pa_cons pe_str (pa_cons pe_str pa_nil)))))))) (pe_df D_law_draw (hr.mono (by decide)) hgd rfl (pa_cons (pv 0) (pa_cons pe_int pa_nil))) (fun _ _ => rfl)))
      (pss_cons (ps_set (i := 3) nd rfl (Or.inl rfl) (pe_ix (ixU K) (pe_lst (pa_cons pe_str (pa_cons pe_str (pa_cons pe_str (pa_cons pe_str (pa_cons pe_str (pa_cons pe_str pa_nil))))))) (pe_df D_law_draw (hr.mono (by decide)) hgd rfl (pa_cons (pv 0) (pa_cons pe_int pa_nil))) (fun _ _ => rfl)))
      (pss_cons (ps_if (pt_cmpR (opEq K hr.units) (pe_df D_law_draw (hr.mono (by decide)) hgd rfl (pa_cons (pv 0) (pa_cons pe_int pa_nil))) pe_int (nomark _)) (pss_one (ps_set (i := 3) nd rfl (Or.inl rfl) (pe_op (opAdd K) (pv 3) (pe_df D_law_word (hr.mono (by decide)) hgd rfl (pa_cons (pv 0) pa_nil))))) pss_nil)
      (pss_one (ps_ret (pe_tup (pa_cons (pv 1) (pa_cons (pv 2) (pa_cons (pv 3) pa_nil)))))))))),
    (rs_seq (rs_asg (re_op os_ix (re_lst (ra_cons re_non (ra_cons re_int (ra_cons re_int (ra_cons re_int (ra_cons re_int (ra_cons re_int (ra_cons re_int ra_nil)))))))) (re_draw (ra_cons (re_var (i := 0)) (ra_cons re_int ra_nil)))) (rg_name (i := 1)))
      (rs_seq (rs_asg (re_op os_ix (re_lst (ra_cons re_str (ra_cons re_str (ra_cons re_str (ra_cons re_str (ra_cons re_str (ra_cons re_str (ra_cons re_str ra_nil)))))))) (re_draw (ra_cons (re_var (i := 0)) (ra_cons re_int ra_nil)))) (rg_name (i := 2)))
      (rs_seq (rs_asg (re_op os_ix (re_lst (ra_cons re_str (ra_cons re_str (ra_cons re_str (ra_cons re_str (ra_cons re_str (ra_cons re_str ra_nil))))))) (re_draw (ra_cons (re_var (i := 0)) (ra_cons re_int ra_nil)))) (rg_name (i := 3)))
      (rs_seq (rs_if (rt_test (re_op os_eq (re_draw (ra_cons (re_var (i := 0)) (ra_cons re_int ra_nil))) re_int)) (rs_asg (re_op os_add (re_var (i := 3)) (re_fn (ra_cons (re_var (i := 0)) ra_nil))) (rg_name (i := 3))) rs_next)
      (rs_ret (re_tup (ra_cons (re_var (i := 1)) (ra_cons (re_var (i := 2)) (ra_cons (re_var (i := 3)) ra_nil)))))))))⟩)
end
section
variable {K : PySem.W.Frag} [WP K] {mg : Str → Option Value} {base : Heap}
theorem df_law_new_identity (M : Blt mg) (A : At K mg "_law_new_identity" s_law_new_identity) (D_law_identity : Df (WP.P K) (WP.w K) K mg base 3 "_law_identity" ["tape"] (spU K f_law_identity)) : Df (WP.P K) (WP.w K) K mg base 4 "_law_new_identity" ["tape", "taken"] (spU K f_law_new_identity) := by
  have nd := sc_law_new_identity.nd
  exact Df.uni A (fun _ _ _ _ _ _ us hl => match us, hl with | [_, _], _ => rfl) sc_law_new_identity rfl (fun cdv A out f s H E hr hgd => ⟨_, (pss_cons (ps_set (i := 2) nd rfl (Or.inl rfl) (pe_df D_law_identity (hr.mono (by decide)) hgd rfl (pa_cons (pv 0) pa_nil)))
      (pss_cons (ps_while PassesOwn.never (pt_cmpR (opIn K (u65 hr)) (pv 2) (pv 1) rfl) (pss_one (ps_set (i := 2) nd rfl (Or.inl rfl) (pe_tup (pa_cons (pe_ix (ixU K) (pv 2) pe_int (fun _ _ => rfl)) (pa_cons (pe_ix (ixU K) (pv 2) pe_int (fun _ _ => rfl)) (pa_cons (pe_op (opAdd K) (pe_ix (ixU K) (pv 2) pe_int (fun _ _ => rfl)) (pe_callTy call_str_int (by rfl) M.str (by decide +kernel) (pa_cons (pe_callB (lenK K) (by rfl) M.len (by decide +kernel) (pa_cons (pv 1) pa_nil)) pa_nil))) pa_nil)))))))
      (pss_one (ps_ret (pv 2))))),
    (rs_seq (rs_asg (re_fn (ra_cons (re_var (i := 0)) ra_nil)) (rg_name (i := 2)))
      (rs_seq (rs_while (rt_test (re_op os_in (re_var (i := 2)) (re_var (i := 1)))) (rs_asg (re_tup (ra_cons (re_op os_ix (re_var (i := 2)) re_int) (ra_cons (re_op os_ix (re_var (i := 2)) re_int) (ra_cons (re_op os_add (re_op os_ix (re_var (i := 2)) re_int) (re_call cs_str (ra_cons (re_call cs_len (ra_cons (re_var (i := 1)) ra_nil)) ra_nil))) ra_nil)))) (rg_name (i := 2))))
      (rs_retV (i := 2))))⟩)
theorem df_law_primitive (M : Blt mg) (A : At K mg "_law_primitive" s_law_primitive) (D_law_form : Df (WP.P K) (WP.w K) K mg base 3 "_law_form" ["tape", "room"] (spU K f_law_form)) (D_law_color : Df (WP.P K) (WP.w K) K mg base 2 "_law_color" ["tape"] (spU K f_law_color)) (D_law_clip : Df (WP.P K) (WP.w K) K mg base 2 "_law_clip" ["tape", "room"] (spU K f_law_clip)) : Df (WP.P K) (WP.w K) K mg base 4 "_law_primitive" ["tape", "who", "room"] (spU K f_law_primitive) := by
  have nd := sc_law_primitive.nd
  exact Df.uni A (fun _ _ _ _ _ _ us hl => match us, hl with | [_, _, _], _ => rfl) sc_law_primitive rfl (fun cdv A out f s H E hr hgd => ⟨_, (pss_cons (ps_set (i := 3) nd rfl (Or.inl rfl) (pe_df D_law_form (hr.mono (by decide)) hgd rfl (pa_cons (pv 0) (pa_cons (pv 2) pa_nil))))
      (pss_cons (ps_set (i := 4) nd rfl (Or.inl rfl) (pe_df D_law_color (hr.mono (by decide)) hgd rfl (pa_cons (pv 0) pa_nil)))
      (pss_cons (ps_set (i := 5) nd rfl (Or.inl rfl) (pe_df D_law_color (hr.mono (by decide)) hgd rfl (pa_cons (pv 0) pa_nil)))
      (pss_one (ps_ret (pe_op (opAdd K) (pe_op (opAdd K) (pv 1) (pv 3)) (pe_tup (pa_cons (pv 4) (pa_cons (pv 5) (pa_cons (pe_df D_law_clip (hr.mono (by decide)) hgd rfl (pa_cons (pv 0) (pa_cons (pv 2) pa_nil))) pa_nil)))))))))),
    (rs_seq (rs_asg (re_fn (ra_cons (re_var (i := 0)) (ra_cons (re_var (i := 2)) ra_nil))) (rg_name (i := 3)))
      (rs_seq (rs_asg (re_fn (ra_cons (re_var (i := 0)) ra_nil)) (rg_name (i := 4)))
      (rs_seq (rs_asg (re_fn (ra_cons (re_var (i := 0)) ra_nil)) (rg_name (i := 5)))
      (rs_ret (re_op os_add (re_op os_add (re_var (i := 1)) (re_var (i := 3))) (re_tup (ra_cons (re_var (i := 4)) (ra_cons (re_var (i := 5)) (ra_cons (re_fn (ra_cons (re_var (i := 0)) (ra_cons (re_var (i := 2)) ra_nil))) ra_nil)))))))))⟩)
theorem df_law_identities (M : Blt mg) (A : At K mg "_law_identities" s_law_identities) : Df (WP.P K) (WP.w K) K mg base 1 "_law_identities" ["items"] (spU K f_law_identities) := by
  have nd := sc_law_identities.nd
  exact Df.uni A (fun _ _ _ _ _ _ us hl => match us, hl with | [_], _ => rfl) sc_law_identities rfl (fun cdv A out f s H E hr hgd => ⟨_, (pss_one (ps_ret (pe_lc (own := [("item", 1)]) (g := (gName 1)) (tt := tYes) rfl nd (pi_seq K (pv 0)) (blkOk_by (N := ["items", "item"]) (sc := (defScope s_law_identities)) (by decide +kernel)) (fun _ _ _ _ _ => (pg_name (i := 1) nd rfl (Or.inl rfl))) (fun _ _ _ _ _ => pts_nil) (fun _ _ _ _ _ => (pe_slice (slU K) (pv 1) po_none (po_some pe_int)))))),
    (rs_ret (re_lc (s := false) (ri_var (i := 0) (s := false)) (rg_name (i := 1)) rt_yes (re_sl (re_var (i := 1)) ro_no (ro_some re_int)) (by decide)))⟩)
theorem df_law_scene (M : Blt mg) (A : At K mg "_law_scene" s_law_scene) (D_law_primitive : Df (WP.P K) (WP.w K) K mg base 4 "_law_primitive" ["tape", "who", "room"] (spU K f_law_primitive)) (D_law_new_identity : Df (WP.P K) (WP.w K) K mg base 4 "_law_new_identity" ["tape", "taken"] (spU K f_law_new_identity)) (D_law_identities : Df (WP.P K) (WP.w K) K mg base 1 "_law_identities" ["items"] (spU K f_law_identities)) : Df (WP.P K) (WP.w K) K mg base 5 "_law_scene" ["tape", "width", "height", "room", "many"] (spU K f_law_scene) := by
  have nd := sc_law_scene.nd
  exact Df.uni A (fun _ _ _ _ _ _ us hl => match us, hl with | [_, _, _, _, _], _ => rfl) sc_law_scene rfl (fun cdv A out f s H E hr hgd => ⟨_, (pss_cons (ps_set (i := 5) nd rfl (Or.inl rfl) (pe_lst pa_nil))
      (pss_cons (ps_for PassesOwn.never rfl (pi_range1 rfl M.range (pa_cons (pv 4) pa_nil)) (pg_name (i := 6) nd rfl (Or.inl rfl)) (pss_one (ps_expr (pe_bm PySem.F.plainAttrs_list PySem.F.slot_list_append PySem.F.type_list_append mt_append (pv 5) (pa_cons (pe_df D_law_primitive (hr.mono (by decide)) hgd rfl (pa_cons (pv 0) (pa_cons (pe_df D_law_new_identity (hr.mono (by decide)) hgd rfl (pa_cons (pv 0) (pa_cons (pe_df D_law_identities (hr.mono (by decide)) hgd rfl (pa_cons (pv 5) pa_nil)) pa_nil))) (pa_cons (pv 3) pa_nil)))) pa_nil)))))
      (pss_one (ps_ret (pe_tup (pa_cons (pv 1) (pa_cons (pv 2) (pa_cons (pe_callTy (tupK K) (by rfl) M.tuple (by decide +kernel) (pa_cons (pv 5) pa_nil)) pa_nil)))))))),
    (rs_seq (rs_asg (re_lst ra_nil) (rg_name (i := 5)))
      (rs_seq (rs_for (ri_rng1 (s := true) (ra_cons (re_var (i := 4)) ra_nil)) (rg_name (i := 6)) (rs_app (i := 5) (re_fn (ra_cons (re_var (i := 0)) (ra_cons (re_fn (ra_cons (re_var (i := 0)) (ra_cons (re_fn (ra_cons (re_var (i := 5)) ra_nil)) ra_nil))) (ra_cons (re_var (i := 3)) ra_nil))))))
      (rs_ret (re_tup (ra_cons (re_var (i := 1)) (ra_cons (re_var (i := 2)) (ra_cons (re_call cs_tuple (ra_cons (re_var (i := 5)) ra_nil)) ra_nil)))))))⟩)
end
section
variable {K : PySem.W.Frag} [WP K] {mg : Str → Option Value} {base : Heap}
theorem df_law_changed_item (M : Blt mg) (A : At K mg "_law_changed_item" s_law_changed_item) (D_law_draw : Df (WP.P K) (WP.w K) K mg base 1 "_law_draw" ["tape", "many"] (sp_law_draw K)) (D_law_clip : Df (WP.P K) (WP.w K) K mg base 2 "_law_clip" ["tape", "room"] (spU K f_law_clip)) (D_law_form : Df (WP.P K) (WP.w K) K mg base 3 "_law_form" ["tape", "room"] (spU K f_law_form)) (D_law_color : Df (WP.P K) (WP.w K) K mg base 2 "_law_color" ["tape"] (spU K f_law_color)) : Df (WP.P K) (WP.w K) K mg base 4 "_law_changed_item" ["tape", "item", "room"] (spU K f_law_changed_item) := by
  have nd := sc_law_changed_item.nd
  exact Df.uni A (fun _ _ _ _ _ _ us hl => match us, hl with | [_, _, _], _ => rfl) sc_law_changed_item rfl (fun cdv A out f s H E hr hgd => ⟨_, (pss_cons (ps_set (i := 3) nd rfl (Or.inl rfl) (pe_df D_law_draw (hr.mono (by decide)) hgd rfl (pa_cons (pv 0) (pa_cons pe_int pa_nil))))
      (pss_cons (ps_if (pt_cmpR (opEq K hr.units) (pv 3) pe_int (nomark _)) (pss_one (ps_ret (pe_op (opAdd K) (pe_op (opAdd K) (pe_slice (slU K) (pv 1) po_none (po_some pe_int)) (pe_df D_law_form (hr.mono (by decide)) hgd rfl (pa_cons (pv 0) (pa_cons (pv 2) pa_nil)))) (pe_slice (slU K) (pv 1) (po_some pe_int) po_none)))) pss_nil)
      (pss_cons (ps_if (PW.pt (pw_or (pt_cmpR (opEq K hr.units) (pv 3) pe_int (nomark _)) (pw_or1 (pt_cmpR (opEq K hr.units) (pv 3) pe_int (nomark _))))) (pss_cons (ps_set (i := 4) nd rfl (Or.inl rfl) (pe_df D_law_draw (hr.mono (by decide)) hgd rfl (pa_cons (pv 0) (pa_cons (pe_callB (lenK K) (by rfl) M.len (by decide +kernel) (pa_cons (pe_ix (ixU K) (pv 1) pe_int (fun _ _ => rfl)) pa_nil)) pa_nil))))
      (pss_one (ps_ret (pe_op (opAdd K) (pe_op (opAdd K) (pe_slice (slU K) (pv 1) po_none (po_some pe_int)) (pe_tup (pa_cons (pe_op (opAdd K) (pe_op (opAdd K) (pe_slice (slU K) (pe_ix (ixU K) (pv 1) pe_int (fun _ _ => rfl)) po_none (po_some (pv 4))) (pe_tup (pa_cons (pe_op (opAdd K) (pe_ix (ixU K) (pe_ix (ixU K) (pv 1) pe_int (fun _ _ => rfl)) (pv 4) (fun _ _ => rfl)) pe_int) pa_nil))) (pe_slice (slU K) (pe_ix (ixU K) (pv 1) pe_int (fun _ _ => rfl)) (po_some (pe_op (opAdd K) (pv 4) pe_int)) po_none)) pa_nil))) (pe_slice (slU K) (pv 1) (po_some pe_int) po_none))))) pss_nil)
      (pss_cons (ps_if (pt_cmpR (opEq K hr.units) (pv 3) pe_int (nomark _)) (pss_one (ps_ret (pe_op (opAdd K) (pe_op (opAdd K) (pe_slice (slU K) (pv 1) po_none (po_some pe_int)) (pe_tup (pa_cons (pe_df D_law_color (hr.mono (by decide)) hgd rfl (pa_cons (pv 0) pa_nil)) pa_nil))) (pe_slice (slU K) (pv 1) (po_some pe_int) po_none)))) pss_nil)
      (pss_cons (ps_if (pt_cmpR (opEq K hr.units) (pv 3) pe_int (nomark _)) (pss_one (ps_ret (pe_op (opAdd K) (pe_op (opAdd K) (pe_slice (slU K) (pv 1) po_none (po_some pe_int)) (pe_tup (pa_cons (pe_df D_law_color (hr.mono (by decide)) hgd rfl (pa_cons (pv 0) pa_nil)) pa_nil))) (pe_slice (slU K) (pv 1) (po_some pe_int) po_none)))) pss_nil)
      (pss_one (ps_ret (pe_op (opAdd K) (pe_slice (slU K) (pv 1) po_none (po_some pe_int)) (pe_tup (pa_cons (pe_df D_law_clip (hr.mono (by decide)) hgd rfl (pa_cons (pv 0) (pa_cons (pv 2) pa_nil))) pa_nil)))))))))),
    (rs_seq (rs_asg (re_draw (ra_cons (re_var (i := 0)) (ra_cons re_int ra_nil))) (rg_name (i := 3)))
      (rs_seq (rs_if (rt_test (re_op os_eq (re_var (i := 3)) re_int)) (rs_ret (re_op os_add (re_op os_add (re_sl (re_var (i := 1)) ro_no (ro_some re_int)) (re_fn (ra_cons (re_var (i := 0)) (ra_cons (re_var (i := 2)) ra_nil)))) (re_sl (re_var (i := 1)) (ro_some re_int) ro_no))) rs_next)
      (rs_seq (rs_if (rt_or (rt_test (re_op os_eq (re_var (i := 3)) re_int)) (rt_test (re_op os_eq (re_var (i := 3)) re_int))) (rs_seq (rs_asg (re_draw (ra_cons (re_var (i := 0)) (ra_cons (re_call cs_len (ra_cons (re_op os_ix (re_var (i := 1)) re_int) ra_nil)) ra_nil))) (rg_name (i := 4)))
      (rs_ret (re_op os_add (re_op os_add (re_sl (re_var (i := 1)) ro_no (ro_some re_int)) (re_tup (ra_cons (re_op os_add (re_op os_add (re_sl (re_op os_ix (re_var (i := 1)) re_int) ro_no (ro_some (re_var (i := 4)))) (re_tup (ra_cons (re_op os_add (re_op os_ix (re_op os_ix (re_var (i := 1)) re_int) (re_var (i := 4))) re_int) ra_nil))) (re_sl (re_op os_ix (re_var (i := 1)) re_int) (ro_some (re_op os_add (re_var (i := 4)) re_int)) ro_no)) ra_nil))) (re_sl (re_var (i := 1)) (ro_some re_int) ro_no)))) rs_next)
      (rs_seq (rs_if (rt_test (re_op os_eq (re_var (i := 3)) re_int)) (rs_ret (re_op os_add (re_op os_add (re_sl (re_var (i := 1)) ro_no (ro_some re_int)) (re_tup (ra_cons (re_fn (ra_cons (re_var (i := 0)) ra_nil)) ra_nil))) (re_sl (re_var (i := 1)) (ro_some re_int) ro_no))) rs_next)
      (rs_seq (rs_if (rt_test (re_op os_eq (re_var (i := 3)) re_int)) (rs_ret (re_op os_add (re_op os_add (re_sl (re_var (i := 1)) ro_no (ro_some re_int)) (re_tup (ra_cons (re_fn (ra_cons (re_var (i := 0)) ra_nil)) ra_nil))) (re_sl (re_var (i := 1)) (ro_some re_int) ro_no))) rs_next)
      (rs_ret (re_op os_add (re_sl (re_var (i := 1)) ro_no (ro_some re_int)) (re_tup (ra_cons (re_fn (ra_cons (re_var (i := 0)) (ra_cons (re_var (i := 2)) ra_nil))) ra_nil)))))))))⟩)
theorem df_law_turned_items (M : Blt mg) (A : At K mg "_law_turned_items" s_law_turned_items) (D_law_draw : Df (WP.P K) (WP.w K) K mg base 1 "_law_draw" ["tape", "many"] (sp_law_draw K)) : Df (WP.P K) (WP.w K) K mg base 2 "_law_turned_items" ["tape", "items"] (spU K f_law_turned_items) := by
  have nd := sc_law_turned_items.nd
  exact Df.uni A (fun _ _ _ _ _ _ us hl => match us, hl with | [_, _], _ => rfl) sc_law_turned_items rfl (fun cdv A out f s H E hr hgd => ⟨_, (pss_cons (ps_set (i := 2) nd rfl (Or.inl rfl) (pe_df D_law_draw (hr.mono (by decide)) hgd rfl (pa_cons (pv 0) (pa_cons pe_int pa_nil))))
      (pss_cons (ps_if (pt_cmpR (opEq K hr.units) (pv 2) pe_int (nomark _)) (pss_one (ps_ret (pe_lrev rfl rfl M.list rfl M.reversed (pv 1)))) pss_nil)
      (pss_cons (ps_if (PW.pt (pw_and (pt_cmpR op_lt (pv 2) pe_int (nomark _)) (pw_and1 (truK K (pv 1))))) (pss_cons (ps_set (i := 3) nd rfl (Or.inl rfl) (pe_bm PySem.F.plainAttrs_list PySem.F.slot_list_pop PySem.F.type_list_pop mt_popAt (pv 1) (pa_cons (pe_df D_law_draw (hr.mono (by decide)) hgd rfl (pa_cons (pv 0) (pa_cons (pe_callB (lenK K) (by rfl) M.len (by decide +kernel) (pa_cons (pv 1) pa_nil)) pa_nil))) pa_nil)))
      (pss_one (ps_expr (pe_bm PySem.F.plainAttrs_list PySem.F.slot_list_insert PySem.F.type_list_insert mt_ins (pv 1) (pa_cons (pe_df D_law_draw (hr.mono (by decide)) hgd rfl (pa_cons (pv 0) (pa_cons (pe_op (opAdd K) (pe_callB (lenK K) (by rfl) M.len (by decide +kernel) (pa_cons (pv 1) pa_nil)) pe_int) pa_nil))) (pa_cons (pv 3) pa_nil)))))) pss_nil)
      (pss_one (ps_ret (pv 1)))))),
    (rs_seq (rs_asg (re_draw (ra_cons (re_var (i := 0)) (ra_cons re_int ra_nil))) (rg_name (i := 2)))
      (rs_seq (rs_if (rt_test (re_op os_eq (re_var (i := 2)) re_int)) (rs_ret (re_lrev (re_var (i := 1)))) rs_next)
      (rs_seq (rs_if (rt_and (rt_test (re_op os_cmp0 (re_var (i := 2)) re_int)) (rt_tru (re_var (i := 1)))) (rs_seq (rs_popA (i := 1) (re_draw (ra_cons (re_var (i := 0)) (ra_cons (re_call cs_len (ra_cons (re_var (i := 1)) ra_nil)) ra_nil))) (rg_name (i := 3)))
      (rs_ins (i := 1) (ra_cons (re_draw (ra_cons (re_var (i := 0)) (ra_cons (re_op os_add (re_call cs_len (ra_cons (re_var (i := 1)) ra_nil)) re_int) ra_nil))) (ra_cons (re_var (i := 3)) ra_nil)))) rs_next)
      (rs_retV (i := 1)))))⟩)
theorem df_law_next_scene (M : Blt mg) (A : At K mg "_law_next_scene" s_law_next_scene) (D_law_turned_items : Df (WP.P K) (WP.w K) K mg base 2 "_law_turned_items" ["tape", "items"] (spU K f_law_turned_items)) (D_law_draw : Df (WP.P K) (WP.w K) K mg base 1 "_law_draw" ["tape", "many"] (sp_law_draw K)) (D_law_primitive : Df (WP.P K) (WP.w K) K mg base 4 "_law_primitive" ["tape", "who", "room"] (spU K f_law_primitive)) (D_law_changed_item : Df (WP.P K) (WP.w K) K mg base 4 "_law_changed_item" ["tape", "item", "room"] (spU K f_law_changed_item)) (D_law_new_identity : Df (WP.P K) (WP.w K) K mg base 4 "_law_new_identity" ["tape", "taken"] (spU K f_law_new_identity)) (D_law_identities : Df (WP.P K) (WP.w K) K mg base 1 "_law_identities" ["items"] (spU K f_law_identities)) : Df (WP.P K) (WP.w K) K mg base 5 "_law_next_scene" ["tape", "scene", "room"] (spU K f_law_next_scene) := by
  have nd := sc_law_next_scene.nd
  exact Df.uni A (fun _ _ _ _ _ _ us hl => match us, hl with | [_, _, _], _ => rfl) sc_law_next_scene rfl (fun cdv A out f s H E hr hgd => ⟨_, (pss_cons (ps_set (i := 3) nd rfl (Or.inl rfl) (pe_lst pa_nil))
      (pss_cons (ps_for PassesOwn.never rfl (pi_seq K (pe_ix (ixU K) (pv 1) pe_int (fun _ _ => rfl))) (pg_name (i := 4) nd rfl (Or.inl rfl)) (pss_cons (ps_set (i := 5) nd rfl (Or.inl rfl) (pe_df D_law_draw (hr.mono (by decide)) hgd rfl (pa_cons (pv 0) (pa_cons pe_int pa_nil))))
      (pss_cons (ps_if (PW.pt (pw_or (pt_cmpR (opEq K hr.units) (pv 5) pe_int (nomark _)) (pw_or1 (pt_cmpR (opEq K hr.units) (pv 5) pe_int (nomark _))))) (pss_one (ps_set (i := 4) nd rfl (Or.inl rfl) (pe_df D_law_changed_item (hr.mono (by decide)) hgd rfl (pa_cons (pv 0) (pa_cons (pv 4) (pa_cons (pv 2) pa_nil)))))) pss_nil)
      (pss_one (ps_if (pt_cmpR op_gt (pv 5) pe_int (nomark _)) (pss_one (ps_expr (pe_bm PySem.F.plainAttrs_list PySem.F.slot_list_append PySem.F.type_list_append mt_append (pv 3) (pa_cons (pv 4) pa_nil)))) pss_nil)))))
      (pss_cons (ps_set (i := 3) nd rfl (Or.inl rfl) (pe_df D_law_turned_items (hr.mono (by decide)) hgd rfl (pa_cons (pv 0) (pa_cons (pv 3) pa_nil))))
      (pss_cons (ps_for PassesOwn.never rfl (pi_range1 rfl M.range (pa_cons (pe_ix (ixU K) (pe_lst (pa_cons pe_int (pa_cons pe_int (pa_cons pe_int (pa_cons pe_int pa_nil))))) (pe_df D_law_draw (hr.mono (by decide)) hgd rfl (pa_cons (pv 0) (pa_cons pe_int pa_nil))) (fun _ _ => rfl)) pa_nil)) (pg_name (i := 6) nd rfl (Or.inl rfl)) (pss_cons (ps_set (i := 7) nd rfl (Or.inl rfl) (pe_df D_law_primitive (hr.mono (by decide)) hgd rfl (pa_cons (pv 0) (pa_cons (pe_df D_law_new_identity (hr.mono (by decide)) hgd rfl (pa_cons (pv 0) (pa_cons (pe_df D_law_identities (hr.mono (by decide)) hgd rfl (pa_cons (pv 3) pa_nil)) pa_nil))) (pa_cons (pv 2) pa_nil)))))
      (pss_one (ps_expr (pe_bm PySem.F.plainAttrs_list PySem.F.slot_list_insert PySem.F.type_list_insert mt_ins (pv 3) (pa_cons (pe_ix (ixU K) (pe_lst (pa_cons (pe_callB (lenK K) (by rfl) M.len (by decide +kernel) (pa_cons (pv 3) pa_nil)) (pa_cons (pe_df D_law_draw (hr.mono (by decide)) hgd rfl (pa_cons (pv 0) (pa_cons (pe_op (opAdd K) (pe_callB (lenK K) (by rfl) M.len (by decide +kernel) (pa_cons (pv 3) pa_nil)) pe_int) pa_nil))) pa_nil))) (pe_df D_law_draw (hr.mono (by decide)) hgd rfl (pa_cons (pv 0) (pa_cons pe_int pa_nil))) (fun _ _ => rfl)) (pa_cons (pv 7) pa_nil)))))))
      (pss_cons (ps_set (i := 8) nd rfl (Or.inl rfl) (pe_tup (pa_cons (pe_ix (ixU K) (pv 1) pe_int (fun _ _ => rfl)) (pa_cons (pe_ix (ixU K) (pv 1) pe_int (fun _ _ => rfl)) pa_nil))))
      (pss_cons (ps_if (pt_cmpR (opEq K hr.units) (pe_df D_law_draw (hr.mono (by decide)) hgd rfl (pa_cons (pv 0) (pa_cons pe_int pa_nil))) pe_int (nomark _)) (pss_one (ps_set (i := 8) nd rfl (Or.inl rfl) (pe_ix (ixU K) (pe_lst (pa_cons (pe_tup (pa_cons (pe_ix (ixU K) (pv 1) pe_int (fun _ _ => rfl)) (pa_cons (pe_ix (ixU K) (pv 1) pe_int (fun _ _ => rfl)) pa_nil))) (pa_cons (pe_tup (pa_cons (pe_op (opAdd K) (pe_ix (ixU K) (pv 1) pe_int (fun _ _ => rfl)) pe_int) (pa_cons (pe_ix (ixU K) (pv 1) pe_int (fun _ _ => rfl)) pa_nil))) (pa_cons (pe_tup (pa_cons (pe_ix (ixU K) (pv 1) pe_int (fun _ _ => rfl)) (pa_cons pe_int pa_nil))) pa_nil)))) (pe_df D_law_draw (hr.mono (by decide)) hgd rfl (pa_cons (pv 0) (pa_cons pe_int pa_nil))) (fun _ _ => rfl)))) pss_nil)
      (pss_one (ps_ret (pe_tup (pa_cons (pe_ix (ixU K) (pv 8) pe_int (fun _ _ => rfl)) (pa_cons (pe_ix (ixU K) (pv 8) pe_int (fun _ _ => rfl)) (pa_cons (pe_callTy (tupK K) (by rfl) M.tuple (by decide +kernel) (pa_cons (pv 3) pa_nil)) pa_nil)))))))))))),
    (rs_seq (rs_asg (re_lst ra_nil) (rg_name (i := 3)))
      (rs_seq (rs_for (ri_seq (s := true) (re_op os_ix (re_var (i := 1)) re_int)) (rg_name (i := 4)) (rs_seq (rs_asg (re_draw (ra_cons (re_var (i := 0)) (ra_cons re_int ra_nil))) (rg_name (i := 5)))
      (rs_seq (rs_if (rt_or (rt_test (re_op os_eq (re_var (i := 5)) re_int)) (rt_test (re_op os_eq (re_var (i := 5)) re_int))) (rs_asg (re_fn (ra_cons (re_var (i := 0)) (ra_cons (re_var (i := 4)) (ra_cons (re_var (i := 2)) ra_nil)))) (rg_name (i := 4))) rs_next)
      (rs_if (rt_test (re_op os_cmp0 (re_var (i := 5)) re_int)) (rs_app (i := 3) (re_var (i := 4))) rs_next))))
      (rs_seq (rs_asgM (i := 3) (re_mv (t := 0) (i := 3)) (rg_name (i := 3)))
      (rs_seq (rs_for (ri_rng1 (s := true) (ra_cons (re_op os_ix (re_lst (ra_cons re_int (ra_cons re_int (ra_cons re_int (ra_cons re_int ra_nil))))) (re_draw (ra_cons (re_var (i := 0)) (ra_cons re_int ra_nil)))) ra_nil)) (rg_name (i := 6)) (rs_seq (rs_asg (re_fn (ra_cons (re_var (i := 0)) (ra_cons (re_fn (ra_cons (re_var (i := 0)) (ra_cons (re_fn (ra_cons (re_var (i := 3)) ra_nil)) ra_nil))) (ra_cons (re_var (i := 2)) ra_nil)))) (rg_name (i := 7)))
      (rs_ins (i := 3) (ra_cons (re_op os_ix (re_lst (ra_cons (re_call cs_len (ra_cons (re_var (i := 3)) ra_nil)) (ra_cons (re_draw (ra_cons (re_var (i := 0)) (ra_cons (re_op os_add (re_call cs_len (ra_cons (re_var (i := 3)) ra_nil)) re_int) ra_nil))) ra_nil))) (re_draw (ra_cons (re_var (i := 0)) (ra_cons re_int ra_nil)))) (ra_cons (re_var (i := 7)) ra_nil)))))
      (rs_seq (rs_asg (re_tup (ra_cons (re_op os_ix (re_var (i := 1)) re_int) (ra_cons (re_op os_ix (re_var (i := 1)) re_int) ra_nil))) (rg_name (i := 8)))
      (rs_seq (rs_if (rt_test (re_op os_eq (re_draw (ra_cons (re_var (i := 0)) (ra_cons re_int ra_nil))) re_int)) (rs_asg (re_op os_ix (re_lst (ra_cons (re_tup (ra_cons (re_op os_ix (re_var (i := 1)) re_int) (ra_cons (re_op os_ix (re_var (i := 1)) re_int) ra_nil))) (ra_cons (re_tup (ra_cons (re_op os_add (re_op os_ix (re_var (i := 1)) re_int) re_int) (ra_cons (re_op os_ix (re_var (i := 1)) re_int) ra_nil))) (ra_cons (re_tup (ra_cons (re_op os_ix (re_var (i := 1)) re_int) (ra_cons re_int ra_nil))) ra_nil)))) (re_draw (ra_cons (re_var (i := 0)) (ra_cons re_int ra_nil)))) (rg_name (i := 8))) rs_next)
      (rs_ret (re_tup (ra_cons (re_op os_ix (re_var (i := 8)) re_int) (ra_cons (re_op os_ix (re_var (i := 8)) re_int) (ra_cons (re_call cs_tuple (ra_cons (re_var (i := 3)) ra_nil)) ra_nil)))))))))))⟩)
theorem df_law_table (M : Blt mg) (A : At K mg "_law_table" s_law_table) : Df (WP.P K) (WP.w K) K mg base 1 "_law_table" ["items"] (spU K f_law_table) := by
  have nd := sc_law_table.nd
  exact Df.uni A (fun _ _ _ _ _ _ us hl => match us, hl with | [_], _ => rfl) sc_law_table rfl (fun cdv A out f s H E hr hgd => ⟨_, (pss_cons (ps_set (i := 1) nd rfl (Or.inl rfl) pe_dnewN)
      (pss_cons (ps_for PassesOwn.never rfl (pi_seq K (pv 0)) (pg_name (i := 2) nd rfl (Or.inl rfl)) (pss_one (ps_dputN (u9 hr) (pv 1) (pe_slice (slU K) (pv 2) po_none (po_some pe_int)) (pv 2) rfl)))
      (pss_one (ps_ret (pv 1))))),
    (rs_seq (rs_asg re_newN (rg_name (i := 1)))
      (rs_seq (rs_forV (i := 0) (rg_name (i := 2)) (rs_dputN (i := 1) (re_var (i := 2)) (re_sl (re_var (i := 2)) ro_no (ro_some re_int))))
      (rs_retV (i := 1))))⟩)
end
section
variable {K : PySem.W.Frag} [WP K] {mg : Str → Option Value} {base : Heap}
theorem df_law_marked (M : Blt mg) (A : At K mg "_law_marked" s_law_marked) : Df (WP.P K) (WP.w K) K mg base 1 "_law_marked" ["names"] (spU K f_law_marked) := by
  have nd := sc_law_marked.nd
  exact Df.uni A (fun _ _ _ _ _ _ us hl => match us, hl with | [_], _ => rfl) sc_law_marked rfl (fun cdv A out f s H E hr hgd => ⟨_, (pss_cons (ps_set (i := 1) nd rfl (Or.inl rfl) pe_dnewN)
      (pss_cons (ps_for PassesOwn.never rfl (pi_seq K (pv 0)) (pg_name (i := 2) nd rfl (Or.inl rfl)) (pss_one (ps_dputN (u9 hr) (pv 1) (pv 2) pe_bl rfl)))
      (pss_one (ps_ret (pv 1))))),
    (rs_seq (rs_asg re_newN (rg_name (i := 1)))
      (rs_seq (rs_forV (i := 0) (rg_name (i := 2)) (rs_dputN (i := 1) re_bl (re_var (i := 2))))
      (rs_retV (i := 1))))⟩)
theorem df_law_changes (M : Blt mg) (A : At K mg "_law_changes" s_law_changes) (D_law_table : Df (WP.P K) (WP.w K) K mg base 1 "_law_table" ["items"] (spU K f_law_table)) (D_law_identities : Df (WP.P K) (WP.w K) K mg base 1 "_law_identities" ["items"] (spU K f_law_identities)) : Df (WP.P K) (WP.w K) K mg base 2 "_law_changes" ["first", "second"] (spU K f_law_changes) := by
  have nd := sc_law_changes.nd
  exact Df.uni A (fun _ _ _ _ _ _ us hl => match us, hl with | [_, _], _ => rfl) sc_law_changes rfl (fun cdv A out f s H E hr hgd => ⟨_, (pss_cons (ps_set (i := 2) nd rfl (Or.inr rfl) (pe_df D_law_table (hr.mono (by decide)) hgd rfl (pa_cons (pe_ix (ixU K) (pv 0) pe_int (fun _ _ => rfl)) pa_nil)))
      (pss_cons (ps_set (i := 3) nd rfl (Or.inr rfl) (pe_df D_law_table (hr.mono (by decide)) hgd rfl (pa_cons (pe_ix (ixU K) (pv 1) pe_int (fun _ _ => rfl)) pa_nil)))
      (pss_cons (ps_setLc (i := 4) (own := [("one", 5)]) (g := (gName 5)) rfl nd rfl rfl (sw_true rfl rfl rfl (by decide +kernel)) (pi_seq K (pe_df D_law_identities (hr.mono (by decide)) hgd rfl (pa_cons (pe_ix (ixU K) (pv 0) pe_int (fun _ _ => rfl)) pa_nil))) (blkOk_by (N := ["first", "second", "old", "new", "removed", "one", "item"]) (sc := (defScope s_law_changes)) (by decide +kernel)) (fun _ _ _ _ _ => (pg_name (i := 5) nd rfl (Or.inl rfl))) (fun _ _ _ _ _ => (pts_one (pt_cmp (pc_dnotinN1 (u9 hr) (pv 5) (pv 3))))) (fun _ _ _ _ _ => (pv 5)))
      (pss_one (ps_frz (i := 4) (ps_ret (pe_lst (pa_cons (pv 4) (pa_cons (pe_frz (pe_lc (own := [("item", 6)]) (g := (gName 6)) rfl nd (pi_seq K (pe_ix (ixU K) (pv 1) pe_int (fun _ _ => rfl))) (blkOk_by (N := ["first", "second", "old", "new", "removed", "one", "item"]) (sc := (defScope s_law_changes)) (by decide +kernel)) (fun _ _ _ _ _ => (pg_name (i := 6) nd rfl (Or.inl rfl))) (fun _ _ _ _ _ => (pts_one (pt_cmpR (opNe K hr.units) (pe_dget1N (u9 hr) (pv 2) (pe_slice (slU K) (pv 6) po_none (po_some pe_int)) ⟨rfl, rfl, rfl, rfl⟩) (pv 6) (nomark _)))) (fun _ _ _ _ _ => (pv 6)))) pa_nil))))))))),
    (rs_seq (rs_asg (re_fn (ra_cons (re_op os_ix (re_var (i := 0)) re_int) ra_nil)) (rg_name (i := 2)))
      (rs_seq (rs_asg (re_fn (ra_cons (re_op os_ix (re_var (i := 1)) re_int) ra_nil)) (rg_name (i := 3)))
      (rs_seq (rs_asg (re_lc (s := false) (ri_seq (s := false) (re_fn (ra_cons (re_op os_ix (re_var (i := 0)) re_int) ra_nil))) (rg_name (i := 5)) (rt_test (re_dinN (n := true) (re_var (i := 5)) (re_var (i := 3)))) (re_var (i := 5)) (by decide)) (rg_name (i := 4)))
      (rs_frz (i := 4) (rs_ret (re_lst (ra_cons (re_var (i := 4)) (ra_cons (re_frz (re_lc (s := false) (ri_seq (s := false) (re_op os_ix (re_var (i := 1)) re_int)) (rg_name (i := 6)) (rt_test (re_op os_ne (re_dget1N (re_var (i := 2)) (re_sl (re_var (i := 6)) ro_no (ro_some re_int))) (re_var (i := 6)))) (re_var (i := 6)) (by decide))) ra_nil))))))))⟩)
theorem df_law_moved (M : Blt mg) (A : At K mg "_law_moved" s_law_moved) (D_law_changes : Df (WP.P K) (WP.w K) K mg base 2 "_law_changes" ["first", "second"] (spU K f_law_changes)) (D_law_marked : Df (WP.P K) (WP.w K) K mg base 1 "_law_marked" ["names"] (spU K f_law_marked)) (D_law_identities : Df (WP.P K) (WP.w K) K mg base 1 "_law_identities" ["items"] (spU K f_law_identities)) : Df (WP.P K) (WP.w K) K mg base 3 "_law_moved" ["first", "second"] (spU K f_law_moved) := by
  have nd := sc_law_moved.nd
  exact Df.uni A (fun _ _ _ _ _ _ us hl => match us, hl with | [_, _], _ => rfl) sc_law_moved rfl (fun cdv A out f s H E hr hgd => ⟨_, (pss_cons (ps_set (i := 2) nd rfl (Or.inl rfl) (pe_df D_law_changes (hr.mono (by decide)) hgd rfl (pa_cons (pv 0) (pa_cons (pv 1) pa_nil))))
      (pss_cons (ps_set (i := 3) nd rfl (Or.inr rfl) (pe_df D_law_marked (hr.mono (by decide)) hgd rfl (pa_cons (pe_op (opAdd K) (pe_ix (ixU K) (pv 2) pe_int (fun _ _ => rfl)) (pe_df D_law_identities (hr.mono (by decide)) hgd rfl (pa_cons (pe_ix (ixU K) (pv 2) pe_int (fun _ _ => rfl)) pa_nil))) pa_nil)))
      (pss_cons (ps_set (i := 4) nd rfl (Or.inr rfl) (pe_lc (own := [("one", 5)]) (g := (gName 5)) rfl nd (pi_seq K (pe_df D_law_identities (hr.mono (by decide)) hgd rfl (pa_cons (pe_ix (ixU K) (pv 0) pe_int (fun _ _ => rfl)) pa_nil))) (blkOk_by (N := ["first", "second", "changes", "out", "before", "one", "after", "places", "k"]) (sc := (defScope s_law_moved)) (by decide +kernel)) (fun _ _ _ _ _ => (pg_name (i := 5) nd rfl (Or.inl rfl))) (fun _ _ _ _ _ => (pts_one (pt_cmp (pc_dnotinN1 (u9 hr) (pv 5) (pv 3))))) (fun _ _ _ _ _ => (pv 5))))
      (pss_cons (ps_set (i := 6) nd rfl (Or.inr rfl) (pe_lc (own := [("one", 5)]) (g := (gName 5)) rfl nd (pi_seq K (pe_df D_law_identities (hr.mono (by decide)) hgd rfl (pa_cons (pe_ix (ixU K) (pv 1) pe_int (fun _ _ => rfl)) pa_nil))) (blkOk_by (N := ["first", "second", "changes", "out", "before", "one", "after", "places", "k"]) (sc := (defScope s_law_moved)) (by decide +kernel)) (fun _ _ _ _ _ => (pg_name (i := 5) nd rfl (Or.inl rfl))) (fun _ _ _ _ _ => (pts_one (pt_cmp (pc_dnotinN1 (u9 hr) (pv 5) (pv 3))))) (fun _ _ _ _ _ => (pv 5))))
      (pss_cons (ps_setLc (i := 7) (own := [("k", 8)]) (g := (gName 8)) rfl nd rfl rfl (sw_true rfl rfl rfl (by decide +kernel)) (pi_range1 rfl M.range (pa_cons (pe_callB (lenK K) (by rfl) M.len (by decide +kernel) (pa_cons (pv 4) pa_nil)) pa_nil)) (blkOk_by (N := ["first", "second", "changes", "out", "before", "one", "after", "places", "k"]) (sc := (defScope s_law_moved)) (by decide +kernel)) (fun _ _ _ _ _ => (pg_name (i := 8) nd rfl (Or.inl rfl))) (fun _ _ _ _ _ => (pts_one (pt_cmpR (opNe K hr.units) (pe_ix (ixU K) (pv 4) (pv 8) (fun _ _ => rfl)) (pe_ix (ixU K) (pv 6) (pv 8) (fun _ _ => rfl)) (nomark _)))) (fun _ _ _ _ _ => (pv 8)))
      (pss_cons (ps_if (pt_not (truK K (pv 7))) (pss_one (ps_ret (pe_lst pa_nil))) pss_nil)
      (pss_one (ps_ret (pe_slice (slU K) (pv 4) (po_some (pe_ix (ixU K) (pv 7) pe_int (fun _ _ => rfl))) (po_some (pe_op (opAdd K) (pe_ix (ixU K) (pv 7) (pe_op op_sub (pe_callB (lenK K) (by rfl) M.len (by decide +kernel) (pa_cons (pv 7) pa_nil)) pe_int) (fun _ _ => rfl)) pe_int))))))))))),
    (rs_seq (rs_asg (re_fn (ra_cons (re_var (i := 0)) (ra_cons (re_var (i := 1)) ra_nil))) (rg_name (i := 2)))
      (rs_seq (rs_asg (re_fn (ra_cons (re_op os_add (re_op os_ix (re_var (i := 2)) re_int) (re_fn (ra_cons (re_op os_ix (re_var (i := 2)) re_int) ra_nil))) ra_nil)) (rg_name (i := 3)))
      (rs_seq (rs_asg (re_lc (s := false) (ri_seq (s := false) (re_fn (ra_cons (re_op os_ix (re_var (i := 0)) re_int) ra_nil))) (rg_name (i := 5)) (rt_test (re_dinN (n := true) (re_var (i := 5)) (re_var (i := 3)))) (re_var (i := 5)) (by decide)) (rg_name (i := 4)))
      (rs_seq (rs_asg (re_lc (s := false) (ri_seq (s := false) (re_fn (ra_cons (re_op os_ix (re_var (i := 1)) re_int) ra_nil))) (rg_name (i := 5)) (rt_test (re_dinN (n := true) (re_var (i := 5)) (re_var (i := 3)))) (re_var (i := 5)) (by decide)) (rg_name (i := 6)))
      (rs_seq (rs_asg (re_lc (s := false) (ri_rng1 (s := false) (ra_cons (re_call cs_len (ra_cons (re_var (i := 4)) ra_nil)) ra_nil)) (rg_name (i := 8)) (rt_test (re_op os_ne (re_op os_ix (re_var (i := 4)) (re_var (i := 8))) (re_op os_ix (re_var (i := 6)) (re_var (i := 8))))) (re_var (i := 8)) (by decide)) (rg_name (i := 7)))
      (rs_seq (rs_if (rt_not (rt_tru (re_var (i := 7)))) (rs_ret (re_lst ra_nil)) rs_next)
      (rs_ret (re_sl (re_var (i := 4)) (ro_some (re_op os_ix (re_var (i := 7)) re_int)) (ro_some (re_op os_add (re_op os_ix (re_var (i := 7)) (re_op os_sub (re_call cs_len (ra_cons (re_var (i := 7)) ra_nil)) re_int)) re_int))))))))))⟩)
end

theorem ne_same {x : Str} : oNe (.val (.str x)) (.val (.str x)) = .ret (.val (.bool false)) := by rw [oNe_s, decide_eq_true rfl]; try rfl
theorem eq_same {x : Str} : oEq (.val (.str x)) (.val (.str x)) = .ret (.val (.bool true)) := by rw [oEq_s, decide_eq_true rfl]; try rfl
/-- the same data, shown -/
theorem repr_ne {d e : PyData} (h : d = e) : oNe (.val (.str d.shown)) (.val (.str e.shown)) = .ret (.val (.bool false)) := by rw [h]; exact ne_same
theorem repr_eq {d e : PyData} (h : d = e) : oEq (.val (.str d.shown)) (.val (.str e.shown)) = .ret (.val (.bool true)) := by rw [h]; exact eq_same
theorem oInD_has {n : Bool} {x : PyData} {ds : List PyData} (hx : SeqAt.shaped x = true) (hs : SeqAt.shaped (.list ds) = true) : oInD n x ds = .ret (.val (.bool (n ^^ hasD x ds))) := by
  unfold oInD
  rw [if_pos (by rw [hx, hs]; rfl)]
  rfl
/-- == of data that is no text -/
theorem oEq_d {n : Bool} {d e : PyData} (hd : SeqAt.shaped d = true) (he : SeqAt.shaped e = true) (ns : ∀ z, d ≠ .str z) : oEqD n (some d) (some e) = .ret (.val (.bool (n ^^ PyData.eqv d e))) := by
  match d, ns with
  | .str z, ns => exact absurd rfl (ns z)
  | .none, _ => exact if_pos (by rw [hd, he]; rfl)
  | .bool _, _ => exact if_pos (by rw [hd, he]; rfl)
  | .int _, _ => exact if_pos (by rw [hd, he]; rfl)
  | .list _, _ => exact if_pos (by rw [hd, he]; rfl)
  | .tuple _, _ => exact if_pos (by rw [hd, he]; rfl)
  | .dict _, _ => exact absurd hd (by unfold SeqAt.shaped; simp [PyData.canLay0])

theorem atS_at {m : List Nat} {i : Int} (h : m.length ≤ 16777216) (h0 : 0 ≤ i) (h1 : i < m.length) : ∃ c ∈ m, atS (S m) i = .ret (.val (.str (S [c]))) := by
  have hb : i.toNat < m.length := by omega
  refine ⟨m[i.toNat], List.getElem_mem hb, ?_⟩
  unfold atS
  rw [if_pos (lenOk_ok (by rw [S_len]; exact h)), S_codes]
  have e : atI m i = some m[i.toNat] := by
    have := atI_nat (List.getElem?_eq_getElem hb)
    rw [Int.toNat_of_nonneg h0] at this
    exact this
  rw [e]
  rfl
theorem word_wp {α : Type} {k : C → M α} {Q : α → Prop} (q : ∀ m, Word m → m.length ≤ 5 → wp (k (.val (.str (S m)))) Q) : wp ((f_law_word [.tape]).bind k) Q := by
  refine wp_call (fun r => ∃ m, Word m ∧ m.length ≤ 5 ∧ r = .val (.str (S m))) ?_ (by rintro r ⟨m, h1, h2, rfl⟩; exact q m h1 h2)
  refine wp_fn rfl ?_
  walk_at "we"
  refine wp_seqJ (fun ρ => ρ = [some .tape, some (.val (.str (Str.ofString " !\"#$&'()*+,-./0123456789:;<=>?@ABCDEFGHIJKLMNOPQRSTUVWXYZ[\\]^_`"))), none, none]) ?_ ?_
  · walk_at "wk"
    rfl
  rintro ρ rfl
  refine wp_seqJ (fun ρ => ρ = [some .tape, some (.val (.str (S alpha))), none, none]) ?_ ?_
  · walk_at "wk"
    rw [if_pos (by decide +kernel)]
    walk_at "wk"
    rw [show (Str.ofString " !\"#$&'()*+,-./0123456789:;<=>?@ABCDEFGHIJKLMNOPQRSTUVWXYZ[\\]^_`" ++ Str.ofString "abcdefghijklmnopqrstuvwxyz{|}~") = S alpha from S_eq rfl]
    rfl
  rintro ρ rfl
  refine wp_seqJ (fun ρ => ρ = [some .tape, some (.val (.str (S alpha))), some (.val (.str (S []))), none]) ?_ ?_
  · walk_at "wk"
    rw [← S_lit]
    rfl
  rintro ρ rfl
  refine wp_seqJ (fun ρ => ∃ (m : List Nat) (x : Option C), Word m ∧ m.length ≤ 5 ∧ ρ = [some .tape, some (.val (.str (S alpha))), some (.val (.str (S m))), x]) ?_ ?_
  · walk_at "wk"
    refine wp_drawn (by decide) fun v v0 v1 => ?_
    walk_at "wk"
    refine wp_pickI 5 (by decide) v0 (by simp only [List.length_cons, List.length_nil]; omega) fun j j0 j1 => ?_
    walk_at "wk"
    rw [if_pos (rngOk_ok (by omega) (by omega))]
    refine wp_turns (n := j.toNat) (fun i ρ => ∃ (m : List Nat) (x : Option C), Word m ∧ m.length = i ∧ ρ = [some .tape, some (.val (.str (S alpha))), some (.val (.str (S m))), x]) ?_ ?_ ⟨[], none, Word.nil, rfl, rfl⟩
    · rintro ρ ⟨m, x, h1, h2, rfl⟩
      exact ⟨m, x, h1, by omega, rfl⟩
    · rintro i ds ρ hi ⟨m, x, h1, h2, rfl⟩
      walk_at "wk"
      refine wp_drawn (by decide) fun n n0 n1 => ?_
      walk_at "wk"
      obtain ⟨c, hc, e⟩ := atS_at (m := alpha) (i := n) (by decide +kernel) n0 (by rw [alpha_len]; omega)
      rw [e]
      walk_at "wk"
      rw [S_len, S_len, if_pos (by simp only [List.length_cons, List.length_nil]; omega), S_app]
      walk_at "wk"
      exact ⟨m ++ [c], _, h1.app (Word.one hc), by simp [h2], rfl⟩
  rintro ρ ⟨m, x, h1, h2, rfl⟩
  walk_at "wk"
  exact ⟨m, h1, h2, rfl⟩
theorem isN_od (o : Option R) : C.isN (.val (odata o)) = o.isNone := by cases o <;> rfl
/-! texts of signs -/
theorem atS_int {z : Str} {i : Int} (hl : z.length ≤ 16777216) (h0 : 0 ≤ i) {c : Nat} (h : z.cps.toList[i.toNat]? = some c) : atS z i = .ret (.val (.str ⟨#[c]⟩)) := by
  obtain ⟨hb, _⟩ := List.getElem?_eq_some_iff.mp h
  have e : atI z.cps.toList i = some c := by
    unfold atI
    have e : ixN z.cps.toList.length i = some i.toNat := by
      unfold ixN
      first
        | (simp [h0, hb]; done)
        | (rw [Array.length_toList] at *; simp only [h0, if_true]; rw [if_pos (by omega)])
        | (split <;> first | rfl | omega | (simp_all; omega))
    rw [e]
    exact h
  unfold atS
  rw [if_pos (lenOk_ok hl), e]
theorem ok_app {a b : Str} (ha : PyData.strOk a = true) (hb : PyData.strOk b = true) : PyData.strOk (a ++ b) = true := by
  unfold PyData.strOk at *
  rw [← Array.all_toList] at *
  rw [show (a ++ b).cps.toList = a.cps.toList ++ b.cps.toList from Array.toList_append, List.all_append]
  exact Bool.and_eq_true_iff.mpr ⟨ha, hb⟩
theorem len_app {a b : Str} : (a ++ b).length = a.length + b.length := by
  show (a.cps ++ b.cps).size = _
  rw [Array.size_append]
  rfl
theorem hex_at {i : Int} (h0 : 0 ≤ i) (h1 : i < 16) : ∃ z : Str, PyData.strOk z = true ∧ z.length = 1 ∧ atS (Str.ofString "0123456789abcdef") i = .ret (.val (.str z)) := by
  have e : (Str.ofString "0123456789abcdef").cps.toList = [48, 49, 50, 51, 52, 53, 54, 55, 56, 57, 97, 98, 99, 100, 101, 102] := by decide +kernel
  have hl : i.toNat < [48, 49, 50, 51, 52, 53, 54, 55, 56, 57, 97, 98, 99, 100, 101, 102].length := by simp only [List.length_cons, List.length_nil]; omega
  have hm := List.getElem_mem hl
  refine ⟨⟨#[_]⟩, ?_, rfl, atS_int (by decide +kernel) h0 (by rw [e]; exact List.getElem?_eq_getElem hl)⟩
  have : ∀ c ∈ [48, 49, 50, 51, 52, 53, 54, 55, 56, 57, 97, 98, 99, 100, 101, 102], c < 1114112 := by decide
  unfold PyData.strOk
  rw [← Array.all_toList]
  simp only [List.all_cons, List.all_nil, Bool.and_true]
  exact decide_eq_true (this _ hm)
def ColOk (d : PyData) : Prop := d = .none ∨ ∃ z : Str, d = .str z ∧ PyData.strOk z = true ∧ z.length ≤ 7
theorem ColOk.sz {d : PyData} (h : ColOk d) : Sz d 0 2000 := by
  rcases h with rfl | ⟨z, rfl, h1, h2⟩
  · exact Sz.non.mono (by decide) (by decide)
  · exact (Sz.str h1 h2).mono (by decide) (by decide)
theorem ColOk.cln_ {d : PyData} (h : ColOk d) : cln d = true := by
  rcases h with rfl | ⟨z, rfl, h1, h2⟩ <;> rfl
theorem color_wp {α : Type} {k : C → M α} {Q : α → Prop} (q : ∀ d, ColOk d → wp (k (.val d)) Q) : wp ((f_law_color [.tape]).bind k) Q := by
  refine wp_call (fun c => ∃ d, ColOk d ∧ c = .val d) ?_ (by rintro c ⟨d, h1, rfl⟩; exact q d h1)
  refine wp_fn rfl ?_
  walk_at "we"
  refine wp_seqJ (fun ρ => ∃ n : Int, 0 ≤ n ∧ ρ = [some .tape, some (.val (.int n)), none, none]) ?_ ?_
  · walk_at "wk"
    refine wp_drawn (by decide) fun n n0 n1 => ?_
    walk_at "wk"
    exact ⟨n, n0, rfl⟩
  rintro ρ ⟨n, n0, rfl⟩
  refine wp_seqJ (fun ρ => ρ = [some .tape, some (.val (.int n)), some (.val (.str (Str.ofString ""))), none]) ?_ ?_
  · walk_at "wk"
    rfl
  rintro ρ rfl
  refine wp_seqJ (fun ρ => ∃ (n : Int) (z : Str) (y : Option C), PyData.strOk z = true ∧ z.length ≤ 6 ∧ ρ = [some .tape, some (.val (.int n)), some (.val (.str z)), y]) ?_ ?_
  · walk_at "wk"
    rw [if_pos (rngOk_ok (by decide) (by decide))]
    walk_at "wk"
    refine wp_turns (n := 6) (fun i ρ => ∃ (n : Int) (z : Str) (y : Option C), 0 ≤ n ∧ PyData.strOk z = true ∧ z.length ≤ i ∧ ρ = [some .tape, some (.val (.int n)), some (.val (.str z)), y]) ?_ ?_ ⟨n, _, none, n0, by decide +kernel, by decide +kernel, rfl⟩
    · rintro ρ ⟨n, z, y, m0, z1, z2, rfl⟩
      exact ⟨n, z, y, z1, z2, rfl⟩
    · clear n0
      rintro i ds ρ hi ⟨n, z, y, n0, z1, z2, rfl⟩
      walk_at "wk"
      rw [if_pos (cMod_ok (by decide))]
      walk_at "wk"
      obtain ⟨c, c1, c2, e⟩ := hex_at (Int.emod_nonneg n (show (16 : Int) ≠ 0 by decide)) (Int.emod_lt_of_pos n (by decide))
      rw [e]
      walk_at "wk"
      rw [if_pos (by omega)]
      walk_at "wk"
      rw [if_pos (cDiv_ok 5 (by decide) (by decide) (by decide) (by decide))]
      walk_at "wk"
      exact ⟨_, _, _, Int.ediv_nonneg n0 (by decide), ok_app c1 z1, by rw [len_app]; omega, rfl⟩
  clear n0
  rintro ρ ⟨n, z, y, z1, z2, rfl⟩
  walk_at "wk"
  rw [if_pos (by rw [show (Str.ofString "#").length = 1 by decide +kernel]; omega)]
  walk_at "wk"
  refine wp_drawn (by decide) fun w w0 w1 => ?_
  walk_at "wk"
  refine wp_pick w0 (by simp only [List.length_cons, List.length_nil]; omega) fun d hd => ?_
  simp only [List.mem_cons, List.not_mem_nil, or_false] at hd
  rcases hd with rfl | rfl | rfl | rfl | rfl
  · walk_at "wk"
    exact ⟨_, .inr ⟨_, rfl, ok_app (by decide +kernel) z1, by rw [len_app, show (Str.ofString "#").length = 1 by decide +kernel]; omega⟩, rfl⟩
  · walk_at "wk"
    exact ⟨_, .inr ⟨_, rfl, by decide +kernel, by decide +kernel⟩, rfl⟩
  · walk_at "wk"
    exact ⟨_, .inr ⟨_, rfl, by decide +kernel, by decide +kernel⟩, rfl⟩
  · walk_at "wk"
    exact ⟨_, .inr ⟨_, rfl, by decide +kernel, by decide +kernel⟩, rfl⟩
  · walk_at "wk"
    exact ⟨_, .inl rfl, rfl⟩
theorem clip_wp {m : Int} (m0 : 1 ≤ m) (m1 : m ≤ 100) {α : Type} {k : C → M α} {Q : α → Prop} (q : ∀ o, Small o → wp (k (.val (odata o))) Q) : wp ((f_law_clip [.tape, .val (.int m)]).bind k) Q := by
  unfold f_law_clip
  walk_at "wk"
  refine wp_drawn (by decide) fun n n0 n1 => ?_
  walk_at "wk"
  refine wp_ite (fun h => ?_) (fun h => ?_)
  · walk_at "wk"
    exact q none (fun _ z => by cases z)
  · walk_at "wk"
    refine wp_drawn (by omega) fun a a0 a1 => ?_
    walk_at "wk"
    refine wp_drawn (by omega) fun b b0 b1 => ?_
    walk_at "wk"
    refine wp_drawn (by omega) fun c c0 c1 => ?_
    walk_at "wk"
    refine wp_drawn (by omega) fun d d0 d1 => ?_
    walk_at "wk"
    refine q (some ⟨a - 2, b - 2, c, d⟩) fun r e => ?_
    cases e
    intro z hz
    simp only [List.mem_cons, List.not_mem_nil, or_false] at hz
    rcases hz with rfl | rfl | rfl | rfl <;> omega

def Sh.pD (s : Sh) : PyData := .tuple (s.pts.map .int)
def Sh.d (s : Sh) : PyData := .tuple [.str s.name, s.pD, .str (S s.txt)]
structure ShS (s : Sh) (L : Int) : Prop where
  ok : ShOk s
  sm : ∀ z ∈ s.pts, -L ≤ z ∧ z ≤ L
  rad : ∀ a b q, s = .circ a b q → 0 ≤ q
  few : s.pts.length ≤ 8
  some_ : 2 ≤ s.pts.length
  shrt : s.txt.length ≤ 5
theorem flat_map_int : ∀ ps : List (Int × Int), (flat ps).map PyData.int = (flat ps).map PyData.int := fun _ => rfl
theorem form_wp {m : Int} (m0 : 1 ≤ m) (m1 : m ≤ 100) {α : Type} {k : C → M α} {Q : α → Prop} (q : ∀ s, ShS s 300 → wp (k (.val s.d)) Q) : wp ((f_law_form [.tape, .val (.int m)]).bind k) Q := by
  refine wp_call (fun x => ∃ s, ShS s 300 ∧ x = .val s.d) ?_ (by rintro c ⟨s, h, rfl⟩; exact q s h)
  refine wp_fn rfl ?_
  walk_at "we"
  refine wp_seqJ (fun ρ => ∃ x : Int, -4 ≤ x ∧ x ≤ 200 ∧ ρ = [some .tape, some (.val (.int m)), some (.val (.int x)), none, none, none, none]) ?_ ?_
  · walk_at "wk"
    refine wp_drawn (by omega) fun v v0 v1 => ?_
    walk_at "wk"
    exact ⟨v - 4, by omega, by omega, rfl⟩
  rintro ρ ⟨x, x0, x1, rfl⟩
  refine wp_seqJ (fun ρ => ∃ y : Int, -4 ≤ y ∧ y ≤ 200 ∧ ρ = [some .tape, some (.val (.int m)), some (.val (.int x)), some (.val (.int y)), none, none, none]) ?_ ?_
  · walk_at "wk"
    refine wp_drawn (by omega) fun v v0 v1 => ?_
    walk_at "wk"
    exact ⟨v - 4, by omega, by omega, rfl⟩
  rintro ρ ⟨y, y0, y1, rfl⟩
  refine wp_seqJ (fun ρ => ∃ y' : Int, 0 ≤ y' ∧ y' < 8 ∧ ρ = [some .tape, some (.val (.int m)), some (.val (.int x)), some (.val (.int y)), some (.val (.int y')), none, none]) ?_ ?_
  · walk_at "wk"
    refine wp_drawn (by omega) fun v v0 v1 => ?_
    walk_at "wk"
    exact ⟨v, by omega, by omega, rfl⟩
  rintro ρ ⟨n, n0, n1, rfl⟩
  walk_at "wk"
  refine wp_ite (fun h => ?_) (fun h => ?_)
  · walk_at "wk"
    refine wp_drawn (by omega) fun a a0 a1 => ?_
    walk_at "wk"
    refine wp_drawn (by omega) fun b b0 b1 => ?_
    walk_at "wk"
    refine ⟨.rect x y a b, ⟨⟨Word.nil, Nat.zero_le _, (show 4 ≤ 1000 by decide)⟩, fun z hz => ?_, fun _ _ _ e => (by cases e), (show 4 ≤ 8 by decide), (show 2 ≤ 4 by decide), Nat.zero_le _⟩, rfl⟩
    have : z = x ∨ z = y ∨ z = a ∨ z = b := by simpa [Sh.pts] using hz
    rcases this with rfl | rfl | rfl | rfl <;> omega
  walk_at "wk"
  refine wp_ite (fun h => ?_) (fun h => ?_)
  · walk_at "wk"
    refine wp_drawn (by omega) fun a a0 a1 => ?_
    walk_at "wk"
    refine wp_drawn (by omega) fun b b0 b1 => ?_
    walk_at "wk"
    refine ⟨.line x y (a - 4) (b - 4), ⟨⟨Word.nil, Nat.zero_le _, (show 4 ≤ 1000 by decide)⟩, fun z hz => ?_, fun _ _ _ e => (by cases e), (show 4 ≤ 8 by decide), (show 2 ≤ 4 by decide), Nat.zero_le _⟩, rfl⟩
    have : z = x ∨ z = y ∨ z = a - 4 ∨ z = b - 4 := by simpa [Sh.pts] using hz
    rcases this with rfl | rfl | rfl | rfl <;> omega
  walk_at "wk"
  refine wp_ite (fun h => ?_) (fun h => ?_)
  · walk_at "wk"
    refine wp_drawn (by decide) fun v v0 v1 => ?_
    walk_at "wk"
    rw [if_pos (rngOk_ok (by omega) (by omega))]
    walk_at "wk"
    refine wp_call (fun r => ∃ (ps : List (Int × Int)) (z : Option C), ps.length ≤ 3 ∧ (∀ w ∈ flat ps, -4 ≤ w ∧ w ≤ 200) ∧ r = .nx [some .tape, some (.val (.int m)), some (.val (.int x)), some (.val (.int y)), some (.val (.int n)), some (.val (.tuple ((flat ((x, y) :: ps)).map .int))), z])
      (wp_turns (n := v.toNat) (fun i ρ => ∃ (ps : List (Int × Int)) (z : Option C), ps.length ≤ i ∧ (∀ w ∈ flat ps, -4 ≤ w ∧ w ≤ 200) ∧ ρ = [some .tape, some (.val (.int m)), some (.val (.int x)), some (.val (.int y)), some (.val (.int n)), some (.val (.tuple ((flat ((x, y) :: ps)).map .int))), z]) ?_ ?_ ⟨[], none, Nat.le_refl _, fun w h => (by cases h), rfl⟩) ?_
    · rintro ρ ⟨ps, z, p1, p2, rfl⟩
      exact ⟨ps, z, by omega, p2, rfl⟩
    · rintro i ds ρ hi ⟨ps, z, p1, p2, rfl⟩
      walk_at "wk"
      refine wp_drawn (by omega) fun a a0 a1 => ?_
      walk_at "wk"
      refine wp_drawn (by omega) fun b b0 b1 => ?_
      walk_at "wk"
      have fl : (flat ((x, y) :: (ps ++ [(a - 4, b - 4)]))).map PyData.int = (flat ((x, y) :: ps)).map PyData.int ++ [.int (a - 4), .int (b - 4)] := by
        rw [show ((x, y) :: (ps ++ [(a - 4, b - 4)])) = ((x, y) :: ps) ++ [(a - 4, b - 4)] from rfl, flat_app, List.map_append]
        rfl
      have ll : ((flat ((x, y) :: ps)).map PyData.int).length ≤ 100 := by rw [List.length_map, flat_len, List.length_cons]; omega
      rw [if_pos (by omega)]
      walk_at "wk"
      refine ⟨ps ++ [(a - 4, b - 4)], _, by rw [List.length_append]; simp; omega, fun w hw => ?_, by rw [fl]⟩
      rw [flat_app] at hw
      rcases List.mem_append.mp hw with hw | hw
      · exact p2 w hw
      · have : w = a - 4 ∨ w = b - 4 := by simpa [flat] using hw
        rcases this with rfl | rfl <;> omega
    rintro r ⟨ps, z, p1, p2, rfl⟩
    walk_at "wk"
    refine ⟨.poly (x, y) ps, ⟨⟨Word.nil, Nat.zero_le _, ?_⟩, fun w hw => ?_, fun _ _ _ e => (by cases e), ?_, ?_, Nat.zero_le _⟩, rfl⟩
    · show (flat ((x, y) :: ps)).length ≤ 1000
      rw [flat_len, List.length_cons]; omega
    · have : w = x ∨ w = y ∨ w ∈ flat ps := by simpa [Sh.pts, flat] using hw
      rcases this with rfl | rfl | h
      · omega
      · omega
      · have := p2 w h; omega
    · show (flat ((x, y) :: ps)).length ≤ 8
      rw [flat_len, List.length_cons]; omega
    · show 2 ≤ (flat ((x, y) :: ps)).length
      rw [flat_len, List.length_cons]; omega
  walk_at "wk"
  refine wp_ite (fun h => ?_) (fun h => ?_)
  · walk_at "wk"
    rw [if_pos (cDiv_ok 5 (by decide) (by decide) (by decide) (by decide))]
    walk_at "wk"
    refine wp_drawn (by omega) fun a a0 a1 => ?_
    walk_at "wk"
    refine ⟨.circ x y a, ⟨⟨Word.nil, Nat.zero_le _, (show 3 ≤ 1000 by decide)⟩, fun z hz => ?_, fun _ _ q e => (by cases e; exact a0), (show 3 ≤ 8 by decide), (show 2 ≤ 3 by decide), Nat.zero_le _⟩, rfl⟩
    have : z = x ∨ z = y ∨ z = a := by simpa [Sh.pts] using hz
    rcases this with rfl | rfl | rfl <;> omega
  walk_at "wk"
  refine wp_pick (by omega) (by simp only [List.length_cons, List.length_nil]; omega) fun d hd => ?_
  walk_at "wk"
  refine word_wp fun l hl hl5 => ?_
  have key : ∀ z : Int, z = x ∨ z = y → -300 ≤ z ∧ z ≤ 300 := fun z hz => by rcases hz with rfl | rfl <;> omega
  simp only [List.mem_cons, List.not_mem_nil, or_false] at hd
  rcases hd with rfl | rfl | rfl
  · walk_at "wk"
    exact ⟨.tS x y l, ⟨⟨hl, Nat.le_trans hl5 (by decide), (show 2 ≤ 1000 by decide)⟩, fun z hz => key z (by simpa [Sh.pts] using hz), fun _ _ _ e => (by cases e), (show 2 ≤ 8 by decide), (show 2 ≤ 2 by decide), hl5⟩, rfl⟩
  · walk_at "wk"
    exact ⟨.tM x y l, ⟨⟨hl, Nat.le_trans hl5 (by decide), (show 2 ≤ 1000 by decide)⟩, fun z hz => key z (by simpa [Sh.pts] using hz), fun _ _ _ e => (by cases e), (show 2 ≤ 8 by decide), (show 2 ≤ 2 by decide), hl5⟩, rfl⟩
  · walk_at "wk"
    exact ⟨.tE x y l, ⟨⟨hl, Nat.le_trans hl5 (by decide), (show 2 ≤ 1000 by decide)⟩, fun z hz => key z (by simpa [Sh.pts] using hz), fun _ _ _ e => (by cases e), (show 2 ≤ 8 by decide), (show 2 ≤ 2 by decide), hl5⟩, rfl⟩

/-- a primitive -/
structure Pm where
  a : PyData
  b : Str
  c : Str
  s : Sh
  fi : PyData
  st : PyData
  clip : Option R
def Pm.who (p : Pm) : PyData := .tuple [p.a, .str p.b, .str p.c]
def Pm.d (p : Pm) : PyData := .tuple [p.a, .str p.b, .str p.c, .str p.s.name, p.s.pD, .str (S p.s.txt), p.fi, p.st, odata p.clip]
def IdA (a : PyData) : Prop := a = .none ∨ ∃ i : Int, a = .int i ∧ 0 ≤ i ∧ i ≤ 99
structure IdOk (a : PyData) (b c : Str) : Prop where
  a_ : IdA a
  b1 : PyData.strOk b = true
  b2 : b.length ≤ 40
  c1 : PyData.strOk c = true
  c2 : c.length ≤ 900
structure PmOk (p : Pm) (L : Int) : Prop where
  id_ : IdOk p.a p.b p.c
  s_ : ShS p.s L
  lm : L ≤ 100000
  fi_ : ColOk p.fi
  st_ : ColOk p.st
  cl_ : Small p.clip
def idD (a : PyData) (b c : Str) : PyData := .tuple [a, .str b, .str c]
/-- the key of an identity -/
def aK : PyData → NestedKey
  | .int i => .num i
  | _ => .none
def idK (a : PyData) (b c : Str) : NestedKey := .tup [aK a, .text b, .text c]
def Pm.k (p : Pm) : NestedKey := idK p.a p.b p.c
theorem idK_data {a : PyData} {b c : Str} (h : IdA a) : nkD (idD a b c) = some (idK a b c) := by
  rcases h with rfl | ⟨i, rfl, _⟩ <;> rfl
theorem Pm.k_who {p : Pm} (h : IdOk p.a p.b p.c) : nkD p.who = some p.k := idK_data h.a_
theorem Pm.who_k {p : Pm} (h : IdOk p.a p.b p.c) : p.k.data = p.who := nkD_data (Pm.k_who h)
theorem idA_cln {a : PyData} (h : IdA a) : cln a = true := by rcases h with rfl | ⟨i, rfl, _⟩ <;> rfl
theorem idD_cln {a : PyData} {b c : Str} (h : IdA a) : cln (idD a b c) = true := by
  unfold idD
  simp only [cln, clnAll, idA_cln h]
  rfl
theorem idA_sz {a : PyData} (h : IdA a) : Sz a 0 1921 := by
  rcases h with rfl | ⟨i, rfl, h0, h1⟩
  · exact .non
  · exact .int (by omega) (by omega)
theorem idD_sz {a : PyData} {b c : Str} (h : IdOk a b c) : Sz (idD a b c) 1 20000 :=
  ((SzA.cons (idA_sz h.a_) (SzA.cons (Sz.str h.b1 h.b2) (SzA.cons (Sz.str h.c1 h.c2) (.nil (c := 0))))).tup).mono (by decide) (by decide)
theorem word_ok {l : List Nat} (h : Word l) : PyData.strOk (S l) = true := by
  unfold PyData.strOk
  rw [← Array.all_toList, S_codes]
  exact List.all_eq_true.mpr fun c hc => decide_eq_true (by have := alpha_small c (h c hc); omega)
def nmB (n : Str) : Bool := PyData.strOk n && decide (n.length ≤ 20)
theorem nmB_ok (s : Sh) : nmB s.name = true := by
  cases s
  · show nmB (Str.ofString "rectangle") = true; decide +kernel
  · show nmB (Str.ofString "line") = true; decide +kernel
  · show nmB (Str.ofString "polyline") = true; decide +kernel
  · show nmB (Str.ofString "circle") = true; decide +kernel
  · show nmB (Str.ofString "text start") = true; decide +kernel
  · show nmB (Str.ofString "text middle") = true; decide +kernel
  · show nmB (Str.ofString "text end") = true; decide +kernel
theorem shD_sz {s : Sh} {L : Int} (h : ShS s L) (hL : L ≤ 100000) : Sz (.str s.name) 0 2200 ∧ Sz s.pD 1 15500 ∧ Sz (.str (S s.txt)) 0 2000 := by
  refine ⟨?_, ?_, (Sz.str (word_ok h.ok.word) (by rw [S_len]; exact h.shrt)).mono (by decide) (by decide)⟩
  · have : PyData.strOk s.name = true ∧ s.name.length ≤ 20 := by
      have := nmB_ok s
      unfold nmB at this
      rw [Bool.and_eq_true, decide_eq_true_eq] at this
      exact this
    exact (Sz.str this.1 this.2).mono (by decide) (by decide)
  · have a : SzA (s.pts.map PyData.int) 0 ((1921 + 2) * (s.pts.map PyData.int).length) := SzA.all fun d hd => by
      obtain ⟨z, hz, rfl⟩ := List.mem_map.mp hd
      have := h.sm z hz
      exact Sz.int (by omega) (by omega)
    refine a.tup.mono (by decide) ?_
    rw [List.length_map]
    have := h.few
    have : (1921 + 2) * s.pts.length ≤ (1921 + 2) * 8 := Nat.mul_le_mul_left _ this
    omega
theorem clipD_sz {o : Option R} (h : Small o) : Sz (odata o) 1 7800 := by
  cases o with
  | none => exact Sz.non.mono (by decide) (by decide)
  | some r =>
    have q := h r rfl
    have i : ∀ z ∈ [r.l, r.t, r.w, r.h], Sz (.int z) 0 1921 := fun z hz => by
      have := q z hz
      exact Sz.int (by omega) (by omega)
    exact ((SzA.cons (i r.l (by simp)) (SzA.cons (i r.t (by simp)) (SzA.cons (i r.w (by simp)) (SzA.cons (i r.h (by simp)) (.nil (c := 0)))))).tup).mono (by decide) (by decide)
theorem pmD_sz {p : Pm} {L : Int} (h : PmOk p L) : Sz p.d 2 48000 := by
  obtain ⟨s1, s2, s3⟩ := shD_sz h.s_ h.lm
  have up : ∀ {d : PyData} {c : Nat}, Sz d 0 c → Sz d 1 c := fun z => z.mono (by decide) (Nat.le_refl _)
  have a1 : Sz p.a 1 1921 := up (idA_sz h.id_.a_)
  have a2 : Sz (.str p.b) 1 2400 := up ((Sz.str h.id_.b1 h.id_.b2).mono (by decide) (by decide))
  have a3 : Sz (.str p.c) 1 11000 := up ((Sz.str h.id_.c1 h.id_.c2).mono (by decide) (by decide))
  exact ((SzA.cons a1 (SzA.cons a2 (SzA.cons a3 (SzA.cons (up s1) (SzA.cons s2 (SzA.cons (up s3) (SzA.cons (up h.fi_.sz) (SzA.cons (up h.st_.sz) (SzA.cons (clipD_sz h.cl_) (.nil (c := 0))))))))))).tup).mono (by decide) (by decide)
theorem ints_cln : ∀ l : List Int, clnAll (l.map PyData.int) = true
  | [] => rfl
  | _ :: l => ints_cln l
theorem clip_cln {o : Option R} : cln (odata o) = true := by cases o <;> rfl
theorem pmD_cln {p : Pm} {L : Int} (h : PmOk p L) : cln p.d = true := by
  unfold Pm.d Sh.pD
  simp only [cln, clnAll, idA_cln h.id_.a_, h.fi_.cln_, h.st_.cln_, clip_cln, ints_cln]
  rfl
theorem who_cut {p : Pm} : oSl (.val p.d) none (some 3) = .ret (.val p.who) := rfl
/-! identities -/
theorem identity_wp {α : Type} {k : C → M α} {Q : α → Prop} (q : ∀ a b c, IdOk a b c → c.length ≤ 20 → wp (k (.val (.tuple [a, .str b, .str c]))) Q) : wp ((f_law_identity [.tape]).bind k) Q := by
  refine wp_call (fun x => ∃ a b c, IdOk a b c ∧ c.length ≤ 20 ∧ x = .val (.tuple [a, .str b, .str c])) ?_ (by rintro c ⟨a, b, c, h1, h2, rfl⟩; exact q a b c h1 h2)
  refine wp_fn rfl ?_
  walk_at "we"
  refine wp_seqJ (fun ρ => ∃ a, IdA a ∧ ρ = [some .tape, some (.val a), none, none]) ?_ ?_
  · walk_at "wk"
    refine wp_drawn (by decide) fun w w0 w1 => ?_
    walk_at "wk"
    refine wp_pick w0 (by simp only [List.length_cons, List.length_nil]; omega) fun d hd => ?_
    walk_at "wk"
    refine ⟨d, ?_, rfl⟩
    simp only [List.mem_cons, List.not_mem_nil, or_false] at hd
    rcases hd with rfl | rfl | rfl | rfl | rfl | rfl | rfl
    · exact .inl rfl
    all_goals exact .inr ⟨_, rfl, by decide, by decide⟩
  rintro ρ ⟨a, ha, rfl⟩
  refine wp_seqJ (fun ρ => ∃ b : Str, PyData.strOk b = true ∧ b.length ≤ 20 ∧ ρ = [some .tape, some (.val a), some (.val (.str b)), none]) ?_ ?_
  · walk_at "wk"
    refine wp_drawn (by decide) fun w w0 w1 => ?_
    walk_at "wk"
    refine wp_pick w0 (by simp only [List.length_cons, List.length_nil]; omega) fun d hd => ?_
    walk_at "wk"
    simp only [List.mem_cons, List.not_mem_nil, or_false] at hd
    rcases hd with rfl | rfl | rfl | rfl | rfl | rfl | rfl <;> exact ⟨_, by decide +kernel, by decide +kernel, rfl⟩
  rintro ρ ⟨b, b1, b2, rfl⟩
  refine wp_seqJ (fun ρ => ∃ c : Str, PyData.strOk c = true ∧ c.length ≤ 10 ∧ ρ = [some .tape, some (.val a), some (.val (.str b)), some (.val (.str c))]) ?_ ?_
  · walk_at "wk"
    refine wp_drawn (by decide) fun w w0 w1 => ?_
    walk_at "wk"
    refine wp_pick w0 (by simp only [List.length_cons, List.length_nil]; omega) fun d hd => ?_
    walk_at "wk"
    simp only [List.mem_cons, List.not_mem_nil, or_false] at hd
    rcases hd with rfl | rfl | rfl | rfl | rfl | rfl <;> exact ⟨_, by decide +kernel, by decide +kernel, rfl⟩
  rintro ρ ⟨c, c1, c2, rfl⟩
  refine wp_seqJ (fun ρ => ∃ c : Str, PyData.strOk c = true ∧ c.length ≤ 20 ∧ ρ = [some .tape, some (.val a), some (.val (.str b)), some (.val (.str c))]) ?_ ?_
  · walk_at "wk"
    refine wp_drawn (by decide) fun w w0 w1 => ?_
    walk_at "wk"
    refine wp_ite (fun h => ?_) (fun h => ?_)
    · refine word_wp fun m hm hl => ?_
      walk_at "wk"
      rw [if_pos (by rw [S_len]; omega)]
      walk_at "wk"
      exact ⟨_, ok_app c1 (word_ok hm), by rw [len_app, S_len]; omega, rfl⟩
    · walk_at "wk"
      exact ⟨c, c1, by omega, rfl⟩
  clear c1 c2
  rintro ρ ⟨c, c1, c2, rfl⟩
  walk_at "wk"
  exact ⟨a, b, c, ⟨ha, b1, by omega, c1, by omega⟩, c2, rfl⟩
theorem prim_wp {a : PyData} {b c : Str} {m : Int} (hi : IdOk a b c) (m0 : 1 ≤ m) (m1 : m ≤ 100) {α : Type} {k : C → M α} {Q : α → Prop} (q : ∀ p, PmOk p 300 → p.a = a → p.b = b → p.c = c → wp (k (.val p.d)) Q) :
    wp ((f_law_primitive [.tape, .val (idD a b c), .val (.int m)]).bind k) Q := by
  unfold f_law_primitive idD
  walk_at "wk"
  refine form_wp m0 m1 fun s hs => ?_
  unfold Sh.d
  walk_at "wk"
  refine color_wp fun fi hfi => ?_
  walk_at "wk"
  refine color_wp fun st hst => ?_
  walk_at "wk"
  refine clip_wp m0 m1 fun o ho => ?_
  walk_at "wk"
  have h := q ⟨a, b, c, s, fi, st, o⟩ ⟨hi, hs, by decide, hfi, hst, ho⟩ rfl rfl rfl
  unfold Pm.d at h
  simp only [List.cons_append, List.nil_append]
  exact h
/-! new identities -/
theorem digits {n : Nat} (h : n < 200) : PyData.strOk (toString (n : Int)) = true ∧ 1 ≤ (toString (n : Int) : Str).length ∧ (toString (n : Int) : Str).length ≤ 3 := by
  have : ∀ n ∈ List.range 200, PyData.strOk (toString (n : Int)) = true ∧ 1 ≤ (toString (n : Int) : Str).length ∧ (toString (n : Int) : Str).length ≤ 3 := by decide +kernel
  exact this n (List.mem_range.mpr h)
/-- identities as data -/
def WhoOk (ds : List PyData) (B : Nat) : Prop := ∀ d ∈ ds, ∃ a b c, IdOk a b c ∧ c.length ≤ B ∧ d = idD a b c
theorem WhoOk.sz {ds : List PyData} {B : Nat} (h : WhoOk ds B) (hl : ds.length ≤ 700) : Sz (.list ds) 2 16000000 := by
  have a : SzA ds 1 ((20000 + 2) * ds.length) := SzA.all fun d m => by
    obtain ⟨a, b, c, h1, _, rfl⟩ := h d m
    exact idD_sz h1
  refine a.lst.mono (by decide) ?_
  have : (20000 + 2) * ds.length ≤ (20000 + 2) * 700 := Nat.mul_le_mul_left _ hl
  omega
theorem WhoOk.cln_ {ds : List PyData} {B : Nat} (h : WhoOk ds B) : ∀ d ∈ ds, cln d = true := fun d m => by
  obtain ⟨a, b, c, h1, _, rfl⟩ := h d m
  exact idD_cln h1.a_
theorem in_who {ds : List PyData} {B : Nat} {x : PyData} (h : WhoOk ds B) (hl : ds.length ≤ 700) (hx : Sz x 60 16777216) (ht : ∃ xs, x = .tuple xs) : oIn (.val x) (.bor (.lst ds)) = .ret (.val (.bool (hasD x ds))) := by
  refine oIn_l (hx.shaped (by decide)) ((h.sz hl).shaped (by decide)) ?_
  obtain ⟨xs, rfl⟩ := ht
  intro z e
  cases e
theorem new_loop {ds : List PyData} {B : Nat} (h : WhoOk ds B) (h17 : 17 ≤ B) (hB : B ≤ 800) (hl : ds.length < 200) {Q : Res → Prop} (q : ∀ a b c, IdOk a b c → c.length ≤ B + 3 → idD a b c ∉ ds → Q (.nx [some .tape, some (.bor (.lst ds)), some (.val (idD a b c))])) :
    ∀ (fuel : Nat) (a : PyData) (b c : Str), IdOk a b c → c.length ≤ B + 3 → B + 5 ≤ fuel + c.length →
      wp (whlL (gTest (gOp oIn (gVar 2) (gVar 1))) (mAsg (gTupE (gaCons (gOp oIx (gVar 2) (gC (.int 0))) (gaCons (gOp oIx (gVar 2) (gC (.int 1))) (gaCons (gOp oAdd (gOp oIx (gVar 2) (gC (.int 2))) (gCall oStr (gaCons (gCall oLen (gaCons (gVar 1) gaNil)) gaNil))) gaNil)))) (asgR 2)) fuel [some .tape, some (.bor (.lst ds)), some (.val (idD a b c))]) Q
  | 0, a, b, c, hi, h1, h2 => by omega
  | n + 1, a, b, c, hi, h1, h2 => by
    unfold whlL
    walk_at "wk"
    rw [in_who h (by omega) ((idD_sz hi).mono (by decide) (by decide)) ⟨_, rfl⟩]
    walk_at "wk"
    cases e : hasD (idD a b c) ds with
    | false =>
      walk_at "wk"
      exact q a b c hi h1 fun m => by rw [(hasD_iff (idD_cln hi.a_) h.cln_).mpr m] at e; cases e
    | true =>
      obtain ⟨a', b', c', _, hc, e2⟩ := h _ ((hasD_iff (idD_cln hi.a_) h.cln_).mp e)
      have e3 : c = c' := by
        unfold idD at e2
        injection e2 with e2
        simp only [List.cons.injEq, PyData.str.injEq, and_true] at e2
        exact e2.2.2
      obtain ⟨d1, d2, d3⟩ := digits hl
      unfold idD
      walk_at "wk"
      unfold strD
      have hlog : (ds.length : Int).natAbs.log2 < 1920 := small_log (k := 1920) (by decide) (by have : (2 : Nat) ^ 8 ≤ 2 ^ 1920 := Nat.pow_le_pow_right (by decide) (by decide); omega)
      dsimp only
      rw [if_pos (decide_eq_true hlog)]
      walk_at "wk"
      rw [← e3] at hc
      rw [if_pos (by omega)]
      walk_at "wk"
      exact new_loop h h17 hB hl q n a b (c ++ Str.ofString (toString (ds.length : Int))) ⟨hi.a_, hi.b1, hi.b2, ok_app hi.c1 d1, by rw [len_app]; omega⟩ (by rw [len_app]; omega) (by rw [len_app]; omega)
theorem new_wp {ds : List PyData} {B : Nat} (h : WhoOk ds B) (h17 : 17 ≤ B) (hB : B ≤ 800) (hl : ds.length < 200) {α : Type} {k : C → M α} {Q : α → Prop} (q : ∀ a b c, IdOk a b c → c.length ≤ B + 3 → idD a b c ∉ ds → wp (k (.val (idD a b c))) Q) :
    wp ((f_law_new_identity [.tape, .bor (.lst ds)]).bind k) Q := by
  refine wp_call (fun x => ∃ a b c, IdOk a b c ∧ c.length ≤ B + 3 ∧ idD a b c ∉ ds ∧ x = .val (idD a b c)) ?_ (by rintro c ⟨a, b, c, h1, h2, h3, rfl⟩; exact q a b c h1 h2 h3)
  refine wp_fn rfl ?_
  walk_at "we"
  refine wp_seqJ (fun ρ => ∃ a b c, IdOk a b c ∧ c.length ≤ 20 ∧ ρ = [some .tape, some (.bor (.lst ds)), some (.val (idD a b c))]) ?_ ?_
  · walk_at "wk"
    refine identity_wp fun a b c h hl => ?_
    walk_at "wk"
    exact ⟨a, b, c, h, hl, rfl⟩
  rintro ρ ⟨a, b, c, hi, h2, rfl⟩
  refine wp_seqJ (fun ρ => ∃ a b c, IdOk a b c ∧ c.length ≤ B + 3 ∧ idD a b c ∉ ds ∧ ρ = [some .tape, some (.bor (.lst ds)), some (.val (idD a b c))]) ?_ ?_
  · exact new_loop h h17 hB hl (fun a b c h1 h2 h3 => ⟨a, b, c, h1, h2, h3, rfl⟩) 1000 a b c hi (by omega) (by omega)
  rintro ρ ⟨a, b, c, h1, h2, h3, rfl⟩
  walk_at "wk"
  exact ⟨a, b, c, h1, h2, h3, rfl⟩

/-! rows of primitives, scenes -/
def dsO (ps : List Pm) : List PyData := ps.map Pm.d
def whosO (ps : List Pm) : List PyData := ps.map Pm.who
/-- all is well with the primitives, their keys no longer than B -/
structure PsOk (ps : List Pm) (B : Nat) (L : Int) : Prop where
  ok : ∀ p ∈ ps, PmOk p L
  cl : ∀ p ∈ ps, p.c.length ≤ B
theorem PsOk.who {ps : List Pm} {B : Nat} {L : Int} (h : PsOk ps B L) : WhoOk (whosO ps) B := fun d m => by
  obtain ⟨p, hp, rfl⟩ := List.mem_map.mp m
  exact ⟨p.a, p.b, p.c, (h.ok p hp).id_, h.cl p hp, rfl⟩
theorem PsOk.mono {ps : List Pm} {B B' : Nat} {L : Int} (h : PsOk ps B L) (hB : B ≤ B') : PsOk ps B' L := ⟨h.ok, fun p m => Nat.le_trans (h.cl p m) hB⟩
theorem PsOk.sub {ps qs : List Pm} {B : Nat} {L : Int} (h : PsOk ps B L) (s : ∀ q ∈ qs, q ∈ ps) : PsOk qs B L := ⟨fun q m => h.ok q (s q m), fun q m => h.cl q (s q m)⟩
theorem PsOk.app {ps qs : List Pm} {B : Nat} {L : Int} (h : PsOk ps B L) (h2 : PsOk qs B L) : PsOk (ps ++ qs) B L :=
  ⟨fun q m => (List.mem_append.mp m).elim (h.ok q) (h2.ok q), fun q m => (List.mem_append.mp m).elim (h.cl q) (h2.cl q)⟩
theorem PsOk.one {p : Pm} {B : Nat} {L : Int} (h : PmOk p L) (hc : p.c.length ≤ B) : PsOk [p] B L := ⟨fun q m => by rw [List.mem_singleton.mp m]; exact h, fun q m => by rw [List.mem_singleton.mp m]; exact hc⟩
theorem PsOk.nil {B : Nat} {L : Int} : PsOk [] B L := ⟨(fun _ m => nomatch m), (fun _ m => nomatch m)⟩
theorem PsOk.sz {ps : List Pm} {B : Nat} {L : Int} (h : PsOk ps B L) : SzA (dsO ps) 2 (48002 * ps.length) := by
  have a : SzA (dsO ps) 2 ((48000 + 2) * (dsO ps).length) := SzA.all fun d m => by
    obtain ⟨p, hp, rfl⟩ := List.mem_map.mp m
    exact pmD_sz (h.ok p hp)
  unfold dsO at a ⊢
  rw [List.length_map] at a
  exact a
theorem dsO_cln {ps : List Pm} {B : Nat} {L : Int} (h : PsOk ps B L) : ∀ d ∈ dsO ps, cln d = true := fun d m => by
  obtain ⟨p, hp, rfl⟩ := List.mem_map.mp m
  exact pmD_cln (h.ok p hp)
theorem whosO_nk {ps : List Pm} {B : Nat} {L : Int} (h : PsOk ps B L) : nkDs (whosO ps) = some (ps.map Pm.k) := nkDs_map ps fun p m => Pm.k_who (h.ok p m).id_
theorem k_inj {p q : Pm} {L L' : Int} (hp : PmOk p L) (hq : PmOk q L') : p.k = q.k ↔ p.who = q.who :=
  ⟨fun e => by rw [← Pm.who_k hp.id_, ← Pm.who_k hq.id_, e], fun e => by
    have h1 := Pm.k_who hp.id_
    rw [e, Pm.k_who hq.id_] at h1
    exact (Option.some.inj h1).symm⟩
/-- the keys are told as data -/
theorem mem_whos {ps : List Pm} {B : Nat} {L : Int} (h : PsOk ps B L) {p : Pm} {L' : Int} (hp : PmOk p L') : p.who ∈ whosO ps ↔ p.k ∈ ps.map Pm.k := by
  constructor
  · intro m
    obtain ⟨q, hq, e⟩ := List.mem_map.mp m
    exact List.mem_map.mpr ⟨q, hq, (k_inj (h.ok q hq) hp).mpr e⟩
  · intro m
    obtain ⟨q, hq, e⟩ := List.mem_map.mp m
    exact List.mem_map.mpr ⟨q, hq, (k_inj (h.ok q hq) hp).mp e⟩
theorem idents_o {ps : List Pm} (hl : ps.length ≤ 1000) : f_law_identities [.bor (.lst (dsO ps))] = .ret (.own (.lst (whosO ps))) := by
  unfold f_law_identities dsO
  walk_at "wk"
  rw [if_pos (by rw [List.length_map]; omega), lcL_map Pm.d Pm.who ps [] fun p _ => ⟨_, by walk_at "pr", by walk_at "pr", by walk_at "pl"; exact who_cut⟩]
  walk_at "wk"
  rfl
theorem idents_t {ps : List Pm} (hl : ps.length ≤ 1000) : f_law_identities [.val (.tuple (dsO ps))] = .ret (.own (.lst (whosO ps))) := by
  unfold f_law_identities dsO
  walk_at "wk"
  rw [if_pos (by rw [List.length_map]; omega), lcL_map Pm.d Pm.who ps [] fun p _ => ⟨_, by walk_at "pr", by walk_at "pr", by walk_at "pl"; exact who_cut⟩]
  walk_at "wk"
  rfl
def scD (w h : Int) (ps : List Pm) : PyData := .tuple [.int w, .int h, .tuple (dsO ps)]
theorem map_snoc {δ : Type} (f : δ → PyData) (xs : List δ) (x : δ) : xs.map f ++ [f x] = (xs ++ [x]).map f := by rw [List.map_append]; rfl
/-- a keyed scene -/
theorem scene_wp {w h m n : Int} (m0 : 1 ≤ m) (m1 : m ≤ 100) (n0 : 0 ≤ n) (n1 : n ≤ 45) {α : Type} {k : C → M α} {Q : α → Prop} (q : ∀ ps : List Pm, PsOk ps 160 300 → (ps.length : Int) = n → (ps.map Pm.k).Nodup → wp (k (.val (scD w h ps))) Q) :
    wp ((f_law_scene [.tape, .val (.int w), .val (.int h), .val (.int m), .val (.int n)]).bind k) Q := by
  refine wp_call (fun x => ∃ ps : List Pm, PsOk ps 160 300 ∧ (ps.length : Int) = n ∧ (ps.map Pm.k).Nodup ∧ x = .val (scD w h ps)) ?_ (by rintro c ⟨ps, h1, h2, h3, rfl⟩; exact q ps h1 h2 h3)
  refine wp_fn rfl ?_
  walk_at "we"
  refine wp_seqJ (fun ρ => ρ = [some .tape, some (.val (.int w)), some (.val (.int h)), some (.val (.int m)), some (.val (.int n)), some (.own (.lst (dsO []))), none]) ?_ ?_
  · walk_at "wk"
    rfl
  rintro ρ rfl
  refine wp_seqJ (fun ρ => ∃ (ps : List Pm) (z : Option C), PsOk ps 160 300 ∧ (ps.length : Int) = n ∧ (ps.map Pm.k).Nodup ∧ ρ = [some .tape, some (.val (.int w)), some (.val (.int h)), some (.val (.int m)), some (.val (.int n)), some (.own (.lst (dsO ps))), z]) ?_ ?_
  · walk_at "wk"
    rw [if_pos (rngOk_ok (by omega) (by omega))]
    walk_at "wk"
    refine wp_turns (n := n.toNat) (fun i ρ => ∃ (ps : List Pm) (z : Option C), PsOk ps (20 + 3 * i) 300 ∧ ps.length = i ∧ (ps.map Pm.k).Nodup ∧ ρ = [some .tape, some (.val (.int w)), some (.val (.int h)), some (.val (.int m)), some (.val (.int n)), some (.own (.lst (dsO ps))), z]) ?_ ?_ ⟨[], _, .nil, rfl, List.nodup_nil, rfl⟩
    · rintro ρ ⟨ps, z, p1, p2, p3, rfl⟩
      exact ⟨ps, z, p1.mono (by omega), by omega, p3, rfl⟩
    rintro i ds ρ hi ⟨ps, z, p1, p2, p3, rfl⟩
    walk_at "wk"
    rw [idents_o (by omega)]
    walk_at "wk"
    refine new_wp p1.who (by omega) (by omega) (by unfold whosO; rw [List.length_map]; omega) fun a b c hid hcl hn => ?_
    walk_at "wk"
    refine prim_wp hid m0 m1 fun p hp pa pb pc => ?_
    walk_at "wk"
    have ew : p.who = idD a b c := by unfold Pm.who idD; rw [pa, pb, pc]
    rw [if_pos (by unfold dsO; rw [List.length_map]; omega)]
    walk_at "wk"
    refine ⟨ps ++ [p], _, (p1.mono (by omega)).app (.one hp (by rw [pc]; omega)), by rw [List.length_append]; simp; omega, ?_, by unfold dsO; rw [map_snoc]⟩
    rw [List.map_append, List.nodup_append]
    refine ⟨p3, List.nodup_cons.mpr ⟨List.not_mem_nil, List.nodup_nil⟩, fun a ha b hb e => ?_⟩
    rw [show b = p.k from by simpa using hb] at e
    rw [e] at ha
    rw [← ew] at hn
    exact hn ((mem_whos p1 hp).mpr ha)
  rintro ρ ⟨ps, z, p1, p2, p3, rfl⟩
  walk_at "wk"
  exact ⟨ps, p1, p2, p3, rfl⟩
theorem scD_sz {w h : Int} {ps : List Pm} {B : Nat} {L : Int} (ok : PsOk ps B L) (w0 : 0 ≤ w ∧ w ≤ 1000) (h0 : 0 ≤ h ∧ h ≤ 1000) : Sz (scD w h ps) 4 (48002 * ps.length + 6000) :=
  ((SzA.cons (Sz.mono (Sz.int (i := w) (by omega) (by omega)) (Nat.zero_le 3) (Nat.le_refl _)) (SzA.cons (Sz.mono (Sz.int (i := h) (by omega) (by omega)) (Nat.zero_le 3) (Nat.le_refl _)) (SzA.cons ok.sz.tup (.nil (c := 0))))).tup).mono (Nat.le_refl _) (by omega)
theorem at_ds {ps : List Pm} {i : Int} (i0 : 0 ≤ i) (i1 : i < ps.length) : ∃ p ∈ ps, ps[i.toNat]? = some p ∧ atD (dsO ps) i = .ret (.val p.d) := by
  have e := List.getElem?_eq_getElem (l := ps) (i := i.toNat) (by omega)
  exact ⟨_, List.mem_of_getElem? e, e, atD_int i0 (by unfold dsO; rw [List.getElem?_map, e]; rfl)⟩
theorem dsO_len {ps : List Pm} : (dsO ps).length = ps.length := by unfold dsO; rw [List.length_map]
theorem whosO_len {ps : List Pm} : (whosO ps).length = ps.length := by unfold whosO; rw [List.length_map]
theorem pm_ix0 {p : Pm} : oIx (.val p.d) (.val (.int 0)) = .ret (.val p.a) := rfl
theorem pm_ix1 {p : Pm} : oIx (.val p.d) (.val (.int 1)) = .ret (.val (.str p.b)) := rfl
theorem pm_ix2 {p : Pm} : oIx (.val p.d) (.val (.int 2)) = .ret (.val (.str p.c)) := rfl
/-- what stands behind the identity -/
def Pm.tl (p : Pm) : List PyData := [.str p.s.name, p.s.pD, .str (S p.s.txt), p.fi, p.st, odata p.clip]
theorem tl_cut {p : Pm} : oSl (.val p.d) (some 3) none = .ret (.val (.tuple p.tl)) := rfl
theorem two_cut {p : Pm} : oSl (.val p.d) none (some 2) = .ret (.val (.tuple [p.a, .str p.b])) := rfl
theorem setN_snoc {ks : List NestedKey} {k : NestedKey} : setN (ks ++ [k]) = addN (setN ks) k := by
  unfold setN
  rw [List.foldl_append]
  rfl
/-- different identities, as data -/
def keysD (ps : List Pm) : List PyData := (setN (ps.map Pm.k)).map NestedKey.data
theorem keysD_who {ps : List Pm} {B : Nat} {L : Int} (h : PsOk ps B L) : WhoOk (keysD ps) B := fun d m => by
  obtain ⟨k, hk, rfl⟩ := List.mem_map.mp m
  obtain ⟨p, hp, rfl⟩ := List.mem_map.mp (mem_setN.mp hk)
  exact ⟨p.a, p.b, p.c, (h.ok p hp).id_, h.cl p hp, Pm.who_k (h.ok p hp).id_⟩
theorem keysD_len {ps : List Pm} : (keysD ps).length ≤ ps.length := by
  unfold keysD
  rw [List.length_map]
  have := len_setN (ps.map Pm.k)
  rwa [List.length_map] at this
theorem mem_keysD {ps : List Pm} {B : Nat} {L : Int} (h : PsOk ps B L) {p : Pm} {L' : Int} (hp : PmOk p L') : p.who ∈ keysD ps ↔ p.k ∈ ps.map Pm.k := by
  rw [← mem_setN]
  constructor
  · intro m
    obtain ⟨k, hk, e⟩ := List.mem_map.mp m
    obtain ⟨q, hq, rfl⟩ := List.mem_map.mp (mem_setN.mp hk)
    rw [Pm.who_k (h.ok q hq).id_] at e
    rw [← (k_inj (h.ok q hq) hp).mpr e]
    exact hk
  · intro m
    exact List.mem_map.mpr ⟨p.k, m, Pm.who_k hp.id_⟩
theorem notin_keysD {ps : List Pm} {B : Nat} {L : Int} (h : PsOk ps B L) (hl : ps.length ≤ 700) {p : Pm} {L' : Int} (hp : PmOk p L') : oNotIn (.val p.who) (.bor (.lst (keysD ps))) = .ret (.val (.bool (!decide (p.k ∈ ps.map Pm.k)))) := by
  have e : oNotIn (.val p.who) (.bor (.lst (keysD ps))) = oInD true p.who (keysD ps) := rfl
  have w := keysD_who h
  have hx : SeqAt.shaped p.who = true := (idD_sz hp.id_).shaped (by decide)
  have cx : cln p.who = true := idD_cln hp.id_.a_
  rw [e, oInD_has hx ((w.sz (Nat.le_trans keysD_len hl)).shaped (by decide)), Bool.true_xor]
  congr 4
  have := hasD_iff cx w.cln_
  by_cases c : p.k ∈ ps.map Pm.k
  · rw [decide_eq_true c]
    exact this.mpr ((mem_keysD h hp).mpr c)
  · rw [decide_eq_false c]
    cases q : hasD p.who (keysD ps) with
    | false => rfl
    | true => exact absurd ((mem_keysD h hp).mp (this.mp q)) c

/-! identities as keys -/
def KOk (k : NestedKey) (B : Nat) : Prop := ∃ a b c, IdOk a b c ∧ c.length ≤ B ∧ k = idK a b c
def KsOk (ks : List NestedKey) (B : Nat) : Prop := ∀ k ∈ ks, KOk k B
def ksD (ks : List NestedKey) : List PyData := ks.map NestedKey.data
theorem idK_d {a : PyData} {b c : Str} (h : IdA a) : (idK a b c).data = idD a b c := nkD_data (idK_data h)
theorem KOk.mono {k : NestedKey} {B B' : Nat} (h : KOk k B) (hb : B ≤ B') : KOk k B' := by
  obtain ⟨a, b, c, h1, h2, h3⟩ := h
  exact ⟨a, b, c, h1, Nat.le_trans h2 hb, h3⟩
theorem KsOk.mono {k : List NestedKey} {B B' : Nat} (h : KsOk k B) (hb : B ≤ B') : KsOk k B' := fun x m => (h x m).mono hb
theorem KsOk.sub {k j : List NestedKey} {B : Nat} (h : KsOk k B) (s : ∀ x ∈ j, x ∈ k) : KsOk j B := fun x m => h x (s x m)
theorem KsOk.nil {B : Nat} : KsOk [] B := (fun _ m => nomatch m)
theorem KsOk.app {k j : List NestedKey} {B : Nat} (h : KsOk k B) (h2 : KsOk j B) : KsOk (k ++ j) B := fun x m => (List.mem_append.mp m).elim (h x) (h2 x)
theorem KsOk.one {k : NestedKey} {B : Nat} (h : KOk k B) : KsOk [k] B := fun x m => by rw [List.mem_singleton.mp m]; exact h
theorem KOk.nk {k : NestedKey} {B : Nat} (h : KOk k B) : nkD k.data = some k := by
  obtain ⟨a, b, c, h1, h2, rfl⟩ := h
  rw [idK_d h1.a_]
  exact idK_data h1.a_
theorem KOk.tup {k : NestedKey} {B : Nat} (h : KOk k B) : ∃ xs, k.data = .tuple xs := by
  obtain ⟨a, b, c, h1, h2, rfl⟩ := h
  rw [idK_d h1.a_]
  exact ⟨_, rfl⟩
theorem KOk.cln_ {k : NestedKey} {B : Nat} (h : KOk k B) : cln k.data = true := by
  obtain ⟨a, b, c, h1, h2, rfl⟩ := h
  rw [idK_d h1.a_]
  exact idD_cln h1.a_
theorem KOk.sz {k : NestedKey} {B : Nat} (h : KOk k B) : Sz k.data 1 20000 := by
  obtain ⟨a, b, c, h1, h2, rfl⟩ := h
  rw [idK_d h1.a_]
  exact idD_sz h1
theorem KOk.inj {k j : NestedKey} {B B' : Nat} (h : KOk k B) (h' : KOk j B') : k.data = j.data ↔ k = j :=
  ⟨fun e => by
    have := h.nk
    rw [e, h'.nk] at this
    exact (Option.some.inj this).symm, fun e => by rw [e]⟩
theorem KsOk.who {ks : List NestedKey} {B : Nat} (h : KsOk ks B) : WhoOk (ksD ks) B := fun d m => by
  obtain ⟨k, hk, rfl⟩ := List.mem_map.mp m
  obtain ⟨a, b, c, h1, h2, rfl⟩ := h k hk
  exact ⟨a, b, c, h1, h2, idK_d h1.a_⟩
theorem KsOk.nks {ks : List NestedKey} {B : Nat} (h : KsOk ks B) : nkDs (ksD ks) = some ks := by
  have := nkDs_map (f := NestedKey.data) (g := fun k => k) ks fun k m => (h k m).nk
  rwa [List.map_id'] at this
theorem ksD_len {ks : List NestedKey} : (ksD ks).length = ks.length := by unfold ksD; rw [List.length_map]
theorem ksD_app {k j : List NestedKey} : ksD (k ++ j) = ksD k ++ ksD j := List.map_append
theorem mem_ksD {ks : List NestedKey} {k : NestedKey} {B B' : Nat} (h : KsOk ks B) (hk : KOk k B') : k.data ∈ ksD ks ↔ k ∈ ks :=
  ⟨fun m => by
    obtain ⟨j, hj, e⟩ := List.mem_map.mp m
    rw [← (KOk.inj (h j hj) hk).mp e]
    exact hj, fun m => List.mem_map.mpr ⟨k, m, rfl⟩⟩
theorem inD_ks {n : Bool} {ks : List NestedKey} {k : NestedKey} {B B' : Nat} (h : KsOk ks B) (hl : ks.length ≤ 700) (hk : KOk k B') : oInD n k.data (ksD ks) = .ret (.val (.bool (n ^^ decide (k ∈ ks)))) := by
  rw [oInD_has (hk.sz.shaped (by decide)) ((h.who.sz (by rw [ksD_len]; exact hl)).shaped (by decide))]
  have := hasD_iff hk.cln_ h.who.cln_
  rw [mem_ksD h hk] at this
  by_cases c : k ∈ ks
  · rw [decide_eq_true c, this.mpr c]
  · rw [decide_eq_false c, show hasD k.data (ksD ks) = false by
      cases q : hasD k.data (ksD ks) with
      | false => rfl
      | true => exact absurd (this.mp q) c]
section
variable {ks : List NestedKey} {k : NestedKey} {B B' : Nat} (h : KsOk ks B) (hl : ks.length ≤ 700) (hk : KOk k B')
include h hl hk
theorem in_b : oIn (.val k.data) (.bor (.lst (ksD ks))) = .ret (.val (.bool (decide (k ∈ ks)))) := by
  have q := inD_ks (n := false) h hl hk
  rw [Bool.false_xor] at q
  rw [← q]
  obtain ⟨xs, e⟩ := hk.tup
  rw [e]
  rfl
theorem in_o : oIn (.val k.data) (.own (.lst (ksD ks))) = .ret (.val (.bool (decide (k ∈ ks)))) := by
  have q := inD_ks (n := false) h hl hk
  rw [Bool.false_xor] at q
  rw [← q]
  obtain ⟨xs, e⟩ := hk.tup
  rw [e]
  rfl
theorem in_t : oIn (.val k.data) (.val (.tuple (ksD ks))) = .ret (.val (.bool (decide (k ∈ ks)))) := by
  have q := inD_ks (n := false) h hl hk
  rw [Bool.false_xor] at q
  rw [← q]
  obtain ⟨xs, e⟩ := hk.tup
  rw [e]
  rfl
theorem nin_b : oNotIn (.val k.data) (.bor (.lst (ksD ks))) = .ret (.val (.bool (!decide (k ∈ ks)))) := by
  have q := inD_ks (n := true) h hl hk
  rw [Bool.true_xor] at q
  rw [← q]
  obtain ⟨xs, e⟩ := hk.tup
  rw [e]
  rfl
theorem nin_t : oNotIn (.val k.data) (.val (.tuple (ksD ks))) = .ret (.val (.bool (!decide (k ∈ ks)))) := by
  have q := inD_ks (n := true) h hl hk
  rw [Bool.true_xor] at q
  rw [← q]
  obtain ⟨xs, e⟩ := hk.tup
  rw [e]
  rfl
end
theorem set_ks {ks : List NestedKey} {B : Nat} (h : KsOk ks B) (hl : ks.length < 63) : oSetN [.val (.tuple (ksD ks))] = .ret (.own (.xo (.sN (setN ks)))) :=
  oSetN_eq h.nks (by have := len_setN ks; omega)
theorem whosO_ks {ps : List Pm} {B : Nat} {L : Int} (h : PsOk ps B L) : whosO ps = ksD (ps.map Pm.k) := by
  unfold whosO ksD
  rw [List.map_map]
  exact List.map_congr_left fun p m => (Pm.who_k (h.ok p m).id_).symm
theorem PsOk.ks {ps : List Pm} {B : Nat} {L : Int} (h : PsOk ps B L) : KsOk (ps.map Pm.k) B := fun k m => by
  obtain ⟨p, hp, rfl⟩ := List.mem_map.mp m
  exact ⟨p.a, p.b, p.c, (h.ok p hp).id_, h.cl p hp, rfl⟩
theorem id_ok {a : PyData} {b c : Str} {B : Nat} (h : IdOk a b c) (hc : c.length ≤ B) : KOk (idK a b c) B := ⟨a, b, c, h, hc, rfl⟩
theorem setN_mem {ks : List NestedKey} : ∀ j, (j ∈ setN ks) = (j ∈ ks) := fun j => propext mem_setN
/-! dicts of which the keys alone are read -/
structure HasK (kvs : List (NestedKey × PyData)) (ks : List NestedKey) : Prop where
  has : ∀ j, (valD kvs j).isSome = decide (j ∈ ks)
  len : kvs.length ≤ ks.length
theorem HasK.nil : HasK [] [] := ⟨fun j => rfl, Nat.le_refl _⟩
theorem HasK.put {kvs : List (NestedKey × PyData)} {ks : List NestedKey} (h : HasK kvs ks) (k : NestedKey) (v : PyData) : HasK (putD kvs k v) (ks ++ [k]) := by
  refine ⟨fun j => ?_, ?_⟩
  · rw [valD_put]
    by_cases e : j = k
    · rw [if_pos e, e, decide_eq_true (by simp)]
      rfl
    · rw [if_neg e, h.has j]
      exact decide_eq_decide.mpr ⟨fun m => List.mem_append_left _ m, fun m => (List.mem_append.mp m).elim id fun z => absurd (List.mem_singleton.mp z) e⟩
  · have : (putD kvs k v).length ≤ kvs.length + 1 := by
      unfold putD
      split
      · rw [List.length_map]; omega
      · rw [List.length_append]; exact Nat.le_refl _
    rw [List.length_append, List.length_singleton]
    have := h.len
    omega
theorem nin_d {kvs : List (NestedKey × PyData)} {ks : List NestedKey} (h : HasK kvs ks) {k : NestedKey} {B : Nat} (hk : KOk k B) {n : Bool} {c : C} (hc : c.kvN = some kvs) : inN n (lkN c k.data) = .ret (.val (.bool (n ^^ decide (k ∈ ks)))) := by
  rw [lkN_eq hc hk.nk, inN_s, h.has k]
/-- a row of data that may be walked: a tuple, or a list that is lent -/
def Row (c : C) (ds : List PyData) : Prop := c = .val (.tuple ds) ∨ c = .bor (.lst ds)
theorem marked_wp {c : C} {ks : List NestedKey} {B : Nat} (hc : Row c (ksD ks)) (h : KsOk ks B) (hl : ks.length ≤ 700) {α : Type} {k : C → M α} {Q : α → Prop} (q : ∀ kvs, HasK kvs ks → wp (k (.own (.xo (.dN kvs)))) Q) : wp ((f_law_marked [c]).bind k) Q := by
  refine wp_call (fun x => ∃ kvs, HasK kvs ks ∧ x = .own (.xo (.dN kvs))) ?_ (by rintro c ⟨kvs, h1, rfl⟩; exact q kvs h1)
  refine wp_fn rfl ?_
  have main : wp (forL (asgR 2) (mNPut 1 (gC (.bool true)) (gVar 2)) (ks.map NestedKey.data) [some c, some (.own (.xo (.dN []))), none]) (Jn (fun ρ => ∃ kvs z, HasK kvs ks ∧ ρ = [some c, some (.own (.xo (.dN kvs))), z]) (fun r => wp (Res.out r) fun x => ∃ kvs, HasK kvs ks ∧ x = .own (.xo (.dN kvs)))) := by
    refine wp_over NestedKey.data (fun rest ρ => ∃ dn kvs z, ks = dn ++ rest ∧ HasK kvs dn ∧ ρ = [some c, some (.own (.xo (.dN kvs))), z]) ?_ ?_ ⟨[], [], none, rfl, .nil, rfl⟩
    · rintro ρ ⟨dn, kvs, z, e, h1, rfl⟩
      rw [List.append_nil] at e
      subst e
      exact ⟨kvs, z, h1, rfl⟩
    rintro d rest ρ ⟨dn, kvs, z, e, h1, rfl⟩
    have hd : KOk d B := h d (by rw [e]; simp)
    walk_at "wk"
    rw [kPutN_v hd.nk (by have := h1.len; rw [e, List.length_append] at hl; omega)]
    walk_at "wk"
    exact ⟨dn ++ [d], _, _, by rw [e, List.append_assoc]; rfl, h1.put d _, rfl⟩
  walk_at "we"
  refine wp_seqJ (fun ρ => ρ = [some c, some (.own (.xo (.dN []))), none]) ?_ ?_
  · walk_at "wk"
    rfl
  rintro ρ rfl
  refine wp_seqJ (fun ρ => ∃ kvs z, HasK kvs ks ∧ ρ = [some c, some (.own (.xo (.dN kvs))), z]) ?_ ?_
  · rcases hc with rfl | rfl
    · walk_at "wk"
      exact main
    · walk_at "wk"
      exact main
  rintro ρ ⟨kvs, z, h1, rfl⟩
  walk_at "wk"
  exact ⟨kvs, h1, rfl⟩
theorem idents_r {c : C} {ps : List Pm} {B : Nat} {L : Int} (hc : Row c (dsO ps)) (h : PsOk ps B L) (hl : ps.length ≤ 700) : f_law_identities [c] = .ret (.own (.lst (ksD (ps.map Pm.k)))) := by
  rw [← whosO_ks h]
  rcases hc with rfl | rfl
  · exact idents_t (by omega)
  · exact idents_o (by omega)

theorem cutT_to {ds : List PyData} {k : Nat} (h : k ≤ ds.length) : cutD ds none (some (k : Int)) = ds.take k := by
  unfold cutD
  rw [HT.sIx_none, HT.sIx_nat, Nat.min_eq_left h, Nat.sub_zero]
  rfl
theorem cutT_from {ds : List PyData} {k : Nat} (h : k ≤ ds.length) : cutD ds (some (k : Int)) none = ds.drop k := by
  unfold cutD
  rw [HT.sIx_none, HT.sIx_nat, Nat.min_eq_left h, ← List.length_drop, List.take_length]
def kIns (i : Nat) (ρ : Ro) (ds : List PyData) : List C → M Res
  | [.val (.int j), .val d] => if (decide (0 ≤ j) && (decide (j < 9223372036854775808) && lenOk (ds.length + 1))) = true then .ret (.nx (setOwn i (ds.take j.toNat ++ [d] ++ ds.drop j.toNat) ρ)) else .fail
  | _ => .fail
theorem mIns_o {i : Nat} {gs : Ro → M (List C)} {ρ : Ro} {ds : List PyData} (h : ρ[i]? = some (some (.own (.lst ds)))) : mIns i gs ρ = (gs ρ).bind (kIns i ρ ds) := by
  unfold mIns
  rw [h]
  rfl
theorem kIns_v {i : Nat} {ρ : Ro} {ds : List PyData} {j : Int} {d : PyData} (j0 : 0 ≤ j) (j1 : j < 1000000) (hl : ds.length < 1000000) : kIns i ρ ds [.val (.int j), .val d] = .ret (.nx (ρ.set i (some (.own (.lst (ds.take j.toNat ++ [d] ++ ds.drop j.toNat)))))) := by
  show (if (decide (0 ≤ j) && (decide (j < 9223372036854775808) && lenOk (ds.length + 1))) = true then _ else _) = _
  rw [decide_eq_true j0, decide_eq_true (show j < 9223372036854775808 by omega), show lenOk (ds.length + 1) = true from decide_eq_true (by omega)]
  rfl
/-! a primitive changed -/
theorem flat_set : ∀ (ps : List (Int × Int)) (i : Nat) (v : Int), ∃ qs : List (Int × Int), qs.length = ps.length ∧ flat qs = (flat ps).set i v
  | [], i, v => ⟨[], rfl, rfl⟩
  | (x, y) :: r, 0, v => ⟨(v, y) :: r, rfl, rfl⟩
  | (x, y) :: r, 1, v => ⟨(x, v) :: r, rfl, rfl⟩
  | (x, y) :: r, i + 2, v => by
    obtain ⟨qs, h1, h2⟩ := flat_set r i v
    exact ⟨(x, y) :: qs, by rw [List.length_cons, List.length_cons, h1], by unfold flat; rw [h2]; rfl⟩
theorem sh_set {s : Sh} {i : Nat} {v : Int} (hv : ∀ o, s.pts[i]? = some o → o ≤ v) : ∃ t : Sh, t.name = s.name ∧ t.txt = s.txt ∧ t.pts = s.pts.set i v ∧ ∀ a b q, t = .circ a b q → ∃ a' b' q', s = .circ a' b' q' ∧ q' ≤ q := by
  cases s with
  | rect x y w h =>
    match i with
    | 0 => exact ⟨.rect v y w h, rfl, rfl, rfl, fun _ _ _ e => (by cases e)⟩
    | 1 => exact ⟨.rect x v w h, rfl, rfl, rfl, fun _ _ _ e => (by cases e)⟩
    | 2 => exact ⟨.rect x y v h, rfl, rfl, rfl, fun _ _ _ e => (by cases e)⟩
    | 3 => exact ⟨.rect x y w v, rfl, rfl, rfl, fun _ _ _ e => (by cases e)⟩
    | n + 4 => exact ⟨.rect x y w h, rfl, rfl, rfl, fun _ _ _ e => (by cases e)⟩
  | line x y w h =>
    match i with
    | 0 => exact ⟨.line v y w h, rfl, rfl, rfl, fun _ _ _ e => (by cases e)⟩
    | 1 => exact ⟨.line x v w h, rfl, rfl, rfl, fun _ _ _ e => (by cases e)⟩
    | 2 => exact ⟨.line x y v h, rfl, rfl, rfl, fun _ _ _ e => (by cases e)⟩
    | 3 => exact ⟨.line x y w v, rfl, rfl, rfl, fun _ _ _ e => (by cases e)⟩
    | n + 4 => exact ⟨.line x y w h, rfl, rfl, rfl, fun _ _ _ e => (by cases e)⟩
  | poly p ps =>
    obtain ⟨qs, h1, h2⟩ := flat_set (p :: ps) i v
    match qs, h1, h2 with
    | q :: qs, h1, h2 => exact ⟨.poly q qs, rfl, rfl, h2, fun _ _ _ e => (by cases e)⟩
  | circ x y r =>
    match i with
    | 0 => exact ⟨.circ v y r, rfl, rfl, rfl, fun _ _ _ e => by cases e; exact ⟨_, _, _, rfl, Int.le_refl _⟩⟩
    | 1 => exact ⟨.circ x v r, rfl, rfl, rfl, fun _ _ _ e => by cases e; exact ⟨_, _, _, rfl, Int.le_refl _⟩⟩
    | 2 => exact ⟨.circ x y v, rfl, rfl, rfl, fun _ _ _ e => by cases e; exact ⟨_, _, _, rfl, hv r rfl⟩⟩
    | n + 3 => exact ⟨.circ x y r, rfl, rfl, rfl, fun _ _ _ e => by cases e; exact ⟨_, _, _, rfl, Int.le_refl _⟩⟩
  | tS x y l =>
    match i with
    | 0 => exact ⟨.tS v y l, rfl, rfl, rfl, fun _ _ _ e => (by cases e)⟩
    | 1 => exact ⟨.tS x v l, rfl, rfl, rfl, fun _ _ _ e => (by cases e)⟩
    | n + 2 => exact ⟨.tS x y l, rfl, rfl, rfl, fun _ _ _ e => (by cases e)⟩
  | tM x y l =>
    match i with
    | 0 => exact ⟨.tM v y l, rfl, rfl, rfl, fun _ _ _ e => (by cases e)⟩
    | 1 => exact ⟨.tM x v l, rfl, rfl, rfl, fun _ _ _ e => (by cases e)⟩
    | n + 2 => exact ⟨.tM x y l, rfl, rfl, rfl, fun _ _ _ e => (by cases e)⟩
  | tE x y l =>
    match i with
    | 0 => exact ⟨.tE v y l, rfl, rfl, rfl, fun _ _ _ e => (by cases e)⟩
    | 1 => exact ⟨.tE x v l, rfl, rfl, rfl, fun _ _ _ e => (by cases e)⟩
    | n + 2 => exact ⟨.tE x y l, rfl, rfl, rfl, fun _ _ _ e => (by cases e)⟩
theorem ShS.mono {s : Sh} {L L' : Int} (h : ShS s L) (hl : L ≤ L') : ShS s L' := ⟨h.ok, fun z m => by have := h.sm z m; omega, h.rad, h.few, h.some_, h.shrt⟩
theorem PmOk.mono {p : Pm} {L L' : Int} (h : PmOk p L) (hl : L ≤ L') (hm : L' ≤ 100000) : PmOk p L' := ⟨h.id_, h.s_.mono hl, hm, h.fi_, h.st_, h.cl_⟩
theorem PsOk.up {ps : List Pm} {B : Nat} {L L' : Int} (h : PsOk ps B L) (hl : L ≤ L') (hm : L' ≤ 100000) : PsOk ps B L' := ⟨fun p m => (h.ok p m).mono hl hm, h.cl⟩
theorem sh_set_ok {s t : Sh} {i : Nat} {v L : Int} (h : ShS s L) (v0 : -(L + 1) ≤ v) (v1 : v ≤ L + 1) (h2 : t.txt = s.txt) (h3 : t.pts = s.pts.set i v) (h4 : ∀ a b q, t = .circ a b q → ∃ a' b' q', s = .circ a' b' q' ∧ q' ≤ q) : ShS t (L + 1) := by
  refine ⟨⟨by rw [h2]; exact h.ok.word, by rw [h2]; exact h.ok.tlen, by rw [h3, List.length_set]; exact h.ok.plen⟩, fun z m => ?_, fun a b q e => ?_, by rw [h3, List.length_set]; exact h.few, by rw [h3, List.length_set]; exact h.some_, by rw [h2]; exact h.shrt⟩
  · rw [h3] at m
    rcases List.mem_or_eq_of_mem_set m with m | rfl
    · have := h.sm z m; omega
    · omega
  · obtain ⟨a', b', q', e1, e2⟩ := h4 a b q e
    have := h.rad a' b' q' e1
    omega
theorem pm_ix4 {p : Pm} : oIx (.val p.d) (.val (.int 4)) = .ret (.val (.tuple (p.s.pts.map .int))) := rfl
theorem pm_to4 {p : Pm} : oSl (.val p.d) none (some 4) = .ret (.val (.tuple [p.a, .str p.b, .str p.c, .str p.s.name])) := rfl
theorem pm_to6 {p : Pm} : oSl (.val p.d) none (some 6) = .ret (.val (.tuple [p.a, .str p.b, .str p.c, .str p.s.name, p.s.pD, .str (S p.s.txt)])) := rfl
theorem pm_to7 {p : Pm} : oSl (.val p.d) none (some 7) = .ret (.val (.tuple [p.a, .str p.b, .str p.c, .str p.s.name, p.s.pD, .str (S p.s.txt), p.fi])) := rfl
theorem pm_to8 {p : Pm} : oSl (.val p.d) none (some 8) = .ret (.val (.tuple [p.a, .str p.b, .str p.c, .str p.s.name, p.s.pD, .str (S p.s.txt), p.fi, p.st])) := rfl
theorem pm_fr5 {p : Pm} : oSl (.val p.d) (some 5) none = .ret (.val (.tuple [.str (S p.s.txt), p.fi, p.st, odata p.clip])) := rfl
theorem pm_fr6 {p : Pm} : oSl (.val p.d) (some 6) none = .ret (.val (.tuple [p.fi, p.st, odata p.clip])) := rfl
theorem pm_fr7 {p : Pm} : oSl (.val p.d) (some 7) none = .ret (.val (.tuple [p.st, odata p.clip])) := rfl
theorem pm_fr8 {p : Pm} : oSl (.val p.d) (some 8) none = .ret (.val (.tuple [odata p.clip])) := rfl
theorem changed_wp {p : Pm} {L m : Int} (hp : PmOk p L) (hL : 300 ≤ L) (hL' : L < 100000) (m0 : 1 ≤ m) (m1 : m ≤ 100) {α : Type} {k : C → M α} {Q : α → Prop} (q : ∀ r, PmOk r (L + 1) → r.a = p.a → r.b = p.b → r.c = p.c → wp (k (.val r.d)) Q) :
    wp ((f_law_changed_item [.tape, .val p.d, .val (.int m)]).bind k) Q := by
  refine wp_call (fun x => ∃ r, PmOk r (L + 1) ∧ r.a = p.a ∧ r.b = p.b ∧ r.c = p.c ∧ x = .val r.d) ?_ (by rintro c ⟨r, h1, h2, h3, h4, rfl⟩; exact q r h1 h2 h3 h4)
  have hu : PmOk p (L + 1) := hp.mono (by omega) (by omega)
  refine wp_fn rfl ?_
  walk_at "we"
  refine wp_seqJ (fun ρ => ∃ v : Int, 0 ≤ v ∧ v < 6 ∧ ρ = [some .tape, some (.val p.d), some (.val (.int m)), some (.val (.int v)), none]) ?_ ?_
  · walk_at "wk"
    refine wp_drawn (by decide) fun v v0 v1 => ?_
    walk_at "wk"
    exact ⟨v, by omega, by omega, rfl⟩
  rintro ρ ⟨v, v0, v1, rfl⟩
  walk_at "wk"
  refine wp_ite (fun c0 => ?_) (fun c0 => ?_)
  · rw [who_cut]
    unfold Pm.who
    walk_at "wk"
    refine form_wp m0 m1 fun s hs => ?_
    unfold Sh.d
    walk_at "wk"
    rw [pm_fr6]
    walk_at "wk"
    rw [if_pos (by rw [List.length_append]; simp only [List.length_cons, List.length_nil]; omega)]
    walk_at "wk"
    exact ⟨{ p with s := s }, ⟨hp.id_, hs.mono (by omega), by omega, hp.fi_, hp.st_, hp.cl_⟩, rfl, rfl, rfl, rfl⟩
  refine wp_ite (fun c1 => ?_) (fun c1 => ?_)
  · rw [pm_ix4]
    walk_at "wk"
    have hf := hp.s_.few
    have hs := hp.s_.some_
    try rw [List.length_map]
    refine wp_drawn (by omega) fun n n0 n1 => ?_
    obtain ⟨n, rfl⟩ : ∃ j : Nat, n = (j : Int) := ⟨n.toNat, by omega⟩
    have hn : n < p.s.pts.length := by omega
    have hx : p.s.pts[n]? = some (p.s.pts[n]) := List.getElem?_eq_getElem hn
    have hb := hp.s_.sm _ (List.getElem_mem hn)
    walk_at "wk"
    rw [pm_to4]
    walk_at "wk"
    rw [pm_ix4]
    walk_at "wk"
    rw [cutT_to (by rw [List.length_map]; omega), atD_int (d := .int p.s.pts[n]) (by omega) (by rw [Int.toNat_natCast, List.getElem?_map, hx]; rfl)]
    walk_at "wk"
    rw [if_pos (by rw [List.length_take, List.length_map]; omega)]
    walk_at "wk"
    rw [show ((n : Int) + 1) = ((n + 1 : Nat) : Int) from rfl, cutT_from (by rw [List.length_map]; omega)]
    walk_at "wk"
    rw [if_pos (by rw [List.length_append, List.length_drop, List.length_take, List.length_map]; simp only [List.length_cons, List.length_nil]; omega)]
    walk_at "wk"
    rw [pm_fr5]
    walk_at "wk"
    rw [if_pos (by rw [List.length_append]; simp only [List.length_cons, List.length_nil]; omega)]
    walk_at "wk"
    obtain ⟨t, h2, h3, h4, h5⟩ := sh_set (s := p.s) (i := n) (v := p.s.pts[n] + 1) (fun o e => by rw [hx] at e; cases e; omega)
    refine ⟨{ p with s := t }, ⟨hp.id_, sh_set_ok hp.s_ (by omega) (by omega) h3 h4 h5, by omega, hp.fi_, hp.st_, hp.cl_⟩, rfl, rfl, rfl, ?_⟩
    have e : t.pD = .tuple ((p.s.pts.map PyData.int).take n ++ [.int (p.s.pts[n] + 1)] ++ (p.s.pts.map PyData.int).drop (n + 1)) := by
      unfold Sh.pD
      rw [h4, List.set_eq_take_append_cons_drop, if_pos hn, List.map_append, List.map_cons, List.map_take, List.map_drop, List.append_assoc]
      rfl
    unfold Pm.d
    dsimp only
    rw [e, h2, h3]
    rfl
  refine wp_ite (fun c2 => ?_) (fun c2 => ?_)
  · rw [pm_to6]
    walk_at "wk"
    refine color_wp fun d hd => ?_
    walk_at "wk"
    rw [pm_fr7]
    walk_at "wk"
    rw [if_pos (by rw [List.length_append]; simp only [List.length_cons, List.length_nil]; omega)]
    walk_at "wk"
    exact ⟨{ p with fi := d }, ⟨hp.id_, hp.s_.mono (by omega), by omega, hd, hp.st_, hp.cl_⟩, rfl, rfl, rfl, rfl⟩
  refine wp_ite (fun c3 => ?_) (fun c3 => ?_)
  · rw [pm_to7]
    walk_at "wk"
    refine color_wp fun d hd => ?_
    walk_at "wk"
    rw [pm_fr8]
    walk_at "wk"
    rw [if_pos (by rw [List.length_append]; simp only [List.length_cons, List.length_nil]; omega)]
    walk_at "wk"
    exact ⟨{ p with st := d }, ⟨hp.id_, hp.s_.mono (by omega), by omega, hp.fi_, hd, hp.cl_⟩, rfl, rfl, rfl, rfl⟩
  rw [pm_to8]
  walk_at "wk"
  refine clip_wp m0 m1 fun o ho => ?_
  walk_at "wk"
  exact ⟨{ p with clip := o }, ⟨hp.id_, hp.s_.mono (by omega), by omega, hp.fi_, hp.st_, ho⟩, rfl, rfl, rfl, rfl⟩
/-! items turned -/
theorem move_perm {δ : Type} {xs : List δ} {i j : Nat} {x : δ} (h : xs[i]? = some x) : ((xs.eraseIdx i).take j ++ [x] ++ (xs.eraseIdx i).drop j).Perm xs := by
  have hi := (List.getElem?_eq_some_iff.mp h).1
  have e : xs = xs.take i ++ x :: xs.drop (i + 1) := by
    have := List.drop_eq_getElem_cons hi
    rw [(List.getElem?_eq_some_iff.mp h).2] at this
    rw [← this, List.take_append_drop]
  have p1 : ((xs.eraseIdx i).take j ++ [x] ++ (xs.eraseIdx i).drop j).Perm (x :: xs.eraseIdx i) := by
    rw [List.append_assoc]
    refine List.perm_middle.trans ?_
    show (x :: (List.take j (xs.eraseIdx i) ++ List.drop j (xs.eraseIdx i))).Perm _
    rw [List.take_append_drop]
  refine p1.trans ?_
  rw [List.eraseIdx_eq_take_drop_succ]
  conv => rhs; rw [e]
  exact List.perm_middle.symm
theorem map_erase {δ ε : Type} (f : δ → ε) (xs : List δ) (i : Nat) : (xs.map f).eraseIdx i = (xs.eraseIdx i).map f := by
  rw [List.eraseIdx_eq_take_drop_succ, List.eraseIdx_eq_take_drop_succ, List.map_append, List.map_take, List.map_drop]
theorem turned_wp {δ : Type} {f : δ → PyData} {xs : List δ} (hl : xs.length ≤ 1000) {α : Type} {k : C → M α} {Q : α → Prop} (q : ∀ ys : List δ, ys.Perm xs → wp (k (.own (.lst (ys.map f)))) Q) : wp ((f_law_turned_items [.tape, .own (.lst (xs.map f))]).bind k) Q := by
  refine wp_call (fun c => ∃ ys : List δ, ys.Perm xs ∧ c = .own (.lst (ys.map f))) ?_ (by rintro c ⟨ys, h, rfl⟩; exact q ys h)
  refine wp_fn rfl ?_
  walk_at "we"
  refine wp_seqJ (fun ρ => ∃ v : Int, ρ = [some .tape, some (.own (.lst (xs.map f))), some (.val (.int v)), none]) ?_ ?_
  · walk_at "wk"
    refine wp_drawn (by decide) fun v v0 v1 => ?_
    walk_at "wk"
    exact ⟨v, rfl⟩
  rintro ρ ⟨v, rfl⟩
  walk_at "wk"
  refine wp_ite (fun c0 => ?_) (fun c0 => ?_)
  · walk_at "wk"
    exact ⟨xs.reverse, List.reverse_perm xs, by rw [List.map_reverse]⟩
  refine wp_ite (fun c1 => ?_) (fun c1 => ?_)
  · have hx0 : 0 < xs.length := by
      cases xs with
      | nil => rw [Bool.and_eq_true] at c1; exact Bool.noConfusion c1.2
      | cons _ _ => rw [List.length_cons]; omega
    rw [List.length_map]
    refine wp_drawn (by omega) fun i i0 i1 => ?_
    have hx : xs[i.toNat]? = some (xs[i.toNat]'(by omega)) := List.getElem?_eq_getElem _
    rw [kPopA_v i0 (d := f (xs[i.toNat]'(by omega))) (by rw [List.getElem?_map, hx]; rfl) (by rw [List.length_map]; omega), map_erase]
    unfold setOwn
    walk_at "wk"
    rw [mIns_o rfl]
    walk_at "wk"
    rw [List.length_map]
    have le : (xs.eraseIdx i.toNat).length ≤ 1000 := by rw [List.length_eraseIdx]; split <;> omega
    refine wp_drawn (by omega) fun j j0 j1 => ?_
    walk_at "wk"
    rw [kIns_v j0 (by omega) (by rw [List.length_map]; omega)]
    walk_at "wk"
    exact ⟨(xs.eraseIdx i.toNat).take j.toNat ++ [xs[i.toNat]'(by omega)] ++ (xs.eraseIdx i.toNat).drop j.toNat, move_perm hx, by rw [List.map_append, List.map_append, List.map_take, List.map_drop]; rfl⟩
  · walk_at "wk"
    exact ⟨xs, .refl _, rfl⟩

theorem dsO_app {ps qs : List Pm} : dsO (ps ++ qs) = dsO ps ++ dsO qs := List.map_append
theorem dsO_take {ps : List Pm} {n : Nat} : (dsO ps).take n = dsO (ps.take n) := by unfold dsO; rw [List.map_take]
theorem dsO_drop {ps : List Pm} {n : Nat} : (dsO ps).drop n = dsO (ps.drop n) := by unfold dsO; rw [List.map_drop]
theorem ins_mem {δ : Type} {xs : List δ} {n : Nat} {y x : δ} (h : x ∈ xs.take n ++ [y] ++ xs.drop n) : x = y ∨ x ∈ xs := by
  rcases List.mem_append.mp h with h | h
  · rcases List.mem_append.mp h with h | h
    · exact .inr (List.mem_of_mem_take h)
    · exact .inl (List.mem_singleton.mp h)
  · exact .inr (List.mem_of_mem_drop h)
theorem ins_len {δ : Type} {xs : List δ} {n : Nat} {y : δ} (h : n ≤ xs.length) : (xs.take n ++ [y] ++ xs.drop n).length = xs.length + 1 := by
  rw [List.length_append, List.length_append, List.length_take, List.length_drop, List.length_singleton]
  omega
theorem ins_perm {δ : Type} {xs : List δ} {n : Nat} {y : δ} : (xs.take n ++ [y] ++ xs.drop n).Perm (y :: xs) := by
  rw [List.append_assoc]
  refine List.perm_middle.trans ?_
  show (y :: (List.take n xs ++ List.drop n xs)).Perm _
  rw [List.take_append_drop]
theorem PsOk.ins {xs : List Pm} {n : Nat} {y : Pm} {B : Nat} {L : Int} (h : PsOk xs B L) (hy : PmOk y L) (hc : y.c.length ≤ B) : PsOk (xs.take n ++ [y] ++ xs.drop n) B L :=
  ⟨fun x m => (ins_mem m).elim (fun e => e ▸ hy) (h.ok x), fun x m => (ins_mem m).elim (fun e => e ▸ hc) (h.cl x)⟩
theorem PsOk.perm {xs ys : List Pm} {B : Nat} {L : Int} (h : PsOk xs B L) (p : ys.Perm xs) : PsOk ys B L := h.sub fun _ m => p.mem_iff.mp m
theorem sc_ix0 {w h : Int} {ps : List Pm} : oIx (.val (scD w h ps)) (.val (.int 0)) = .ret (.val (.int w)) := rfl
theorem sc_ix1 {w h : Int} {ps : List Pm} : oIx (.val (scD w h ps)) (.val (.int 1)) = .ret (.val (.int h)) := rfl
theorem sc_ix2 {w h : Int} {ps : List Pm} : oIx (.val (scD w h ps)) (.val (.int 2)) = .ret (.val (.tuple (dsO ps))) := rfl
theorem k_of {p r : Pm} (ha : r.a = p.a) (hb : r.b = p.b) (hc : r.c = p.c) : r.k = p.k := by unfold Pm.k; rw [ha, hb, hc]
/-- a scene made out of another one -/
theorem next_wp {w h m Z : Int} {ps : List Pm} {B : Nat} {L : Int} (hs : PsOk ps B L) (nd : (ps.map Pm.k).Nodup) (lps : ps.length ≤ 60) (h17 : 17 ≤ B) (hB : B ≤ 700) (hL : 300 ≤ L) (hL' : L < 100000) (m0 : 1 ≤ m) (m1 : m ≤ 100) (w0 : 0 ≤ w ∧ w ≤ Z) (h0 : 0 ≤ h ∧ h ≤ Z)
    {α : Type} {k : C → M α} {Q : α → Prop} (q : ∀ w' h' qs, PsOk qs (B + 6) (L + 1) → (qs.map Pm.k).Nodup → qs.length ≤ ps.length + 2 → (0 ≤ w' ∧ w' ≤ Z + 1) → (0 ≤ h' ∧ h' ≤ Z + 1) → wp (k (.val (scD w' h' qs))) Q) :
    wp ((f_law_next_scene [.tape, .val (scD w h ps), .val (.int m)]).bind k) Q := by
  refine wp_call (fun x => ∃ w' h' qs, PsOk qs (B + 6) (L + 1) ∧ (qs.map Pm.k).Nodup ∧ qs.length ≤ ps.length + 2 ∧ (0 ≤ w' ∧ w' ≤ Z + 1) ∧ (0 ≤ h' ∧ h' ≤ Z + 1) ∧ x = .val (scD w' h' qs)) ?_ (by rintro c ⟨w', h', qs, h1, h2, h3, h4, h5, rfl⟩; exact q w' h' qs h1 h2 h3 h4 h5)
  refine wp_fn rfl ?_
  walk_at "we"
  refine wp_seqJ (fun ρ => ρ = [some .tape, some (.val (scD w h ps)), some (.val (.int m)), some (.own (.lst (dsO []))), none, none, none, none, none]) ?_ ?_
  · walk_at "wk"
    rfl
  rintro ρ rfl
  refine wp_seqJ (fun ρ => ∃ qs z4 z5, PsOk qs B (L + 1) ∧ (qs.map Pm.k).Nodup ∧ qs.length ≤ ps.length ∧ ρ = [some .tape, some (.val (scD w h ps)), some (.val (.int m)), some (.own (.lst (dsO qs))), z4, z5, none, none, none]) ?_ ?_
  · walk_at "wk"
    rw [sc_ix2]
    walk_at "wk"
    conv => arg 1; arg 3; unfold dsO
    refine wp_over Pm.d (fun rest ρ => ∃ dn qs z4 z5, ps = dn ++ rest ∧ PsOk qs B (L + 1) ∧ (qs.map Pm.k).Nodup ∧ (∀ j ∈ qs.map Pm.k, j ∈ dn.map Pm.k) ∧ qs.length ≤ dn.length ∧ ρ = [some .tape, some (.val (scD w h ps)), some (.val (.int m)), some (.own (.lst (dsO qs))), z4, z5, none, none, none]) ?_ ?_ ⟨[], [], none, none, rfl, .nil, List.nodup_nil, (fun _ m => nomatch m), Nat.le_refl _, rfl⟩
    · rintro ρ ⟨dn, qs, z4, z5, e, h1, h2, h3, h4, rfl⟩
      rw [List.append_nil] at e
      subst e
      exact ⟨qs, z4, z5, h1, h2, h4, rfl⟩
    rintro p rest ρ ⟨dn, qs, z4, z5, e, h1, h2, h3, h4, rfl⟩
    have hp : PmOk p L := hs.ok p (by rw [e]; simp)
    have hc : p.c.length ≤ B := hs.cl p (by rw [e]; simp)
    have e' : ps = (dn ++ [p]) ++ rest := by rw [e, List.append_assoc]; rfl
    have la : (dn ++ [p]).length = dn.length + 1 := by rw [List.length_append]; rfl
    have dl : dn.length + 1 ≤ ps.length := by rw [e, List.length_append, List.length_cons]; omega
    have new : p.k ∉ dn.map Pm.k := by
      rw [e, List.map_append, List.map_cons, List.nodup_append] at nd
      exact fun m => nd.2.2 _ m _ List.mem_cons_self rfl
    refine wp_call (fun ρ => ρ = [some .tape, some (.val (scD w h ps)), some (.val (.int m)), some (.own (.lst (dsO qs))), some (.val p.d), z5, none, none, none]) (by walk_at "wk") ?_
    rintro ρ rfl
    refine wp_seqJ (fun ρ => ∃ v, ρ = [some .tape, some (.val (scD w h ps)), some (.val (.int m)), some (.own (.lst (dsO qs))), some (.val p.d), some (.val (.int v)), none, none, none]) ?_ ?_
    · walk_at "wk"
      refine wp_drawn (by decide) fun v v0 v1 => ?_
      walk_at "wk"
      exact ⟨v, rfl⟩
    rintro ρ ⟨v, rfl⟩
    refine wp_seqJ (fun ρ => ∃ r, PmOk r (L + 1) ∧ r.c.length ≤ B ∧ r.k = p.k ∧ ρ = [some .tape, some (.val (scD w h ps)), some (.val (.int m)), some (.own (.lst (dsO qs))), some (.val r.d), some (.val (.int v)), none, none, none]) ?_ ?_
    · walk_at "wk"
      refine wp_ite (fun _ => ?_) (fun _ => ?_)
      · refine changed_wp hp hL hL' m0 m1 fun r hr ra rb rc => ?_
        walk_at "wk"
        exact ⟨r, hr, by rw [rc]; exact hc, k_of ra rb rc, rfl⟩
      · walk_at "wk"
        exact ⟨p, hp.mono (by omega) (by omega), hc, rfl, rfl⟩
    rintro ρ ⟨r, hr, rc, rk, rfl⟩
    walk_at "wk"
    refine wp_ite (fun _ => ?_) (fun _ => ?_)
    · walk_at "wk"
      rw [if_pos (by rw [dsO_len]; omega)]
      walk_at "wk"
      refine ⟨dn ++ [p], qs ++ [r], _, _, e', h1.app (.one hr rc), ?_, ?_, by rw [la, List.length_append, List.length_singleton]; omega, by rw [dsO_app]; try rfl⟩
      · rw [List.map_append, List.nodup_append]
        refine ⟨h2, List.nodup_cons.mpr ⟨List.not_mem_nil, List.nodup_nil⟩, fun a ha b hb z => ?_⟩
        rw [show b = r.k from by simpa using hb, rk] at z
        rw [z] at ha
        exact new (h3 _ ha)
      · intro j hj
        rw [List.map_append] at hj ⊢
        rcases List.mem_append.mp hj with hj | hj
        · exact List.mem_append_left _ (h3 j hj)
        · refine List.mem_append_right _ ?_
          rw [show j = r.k from by simpa using hj, rk]
          simp
    · walk_at "wk"
      refine ⟨dn ++ [p], qs, _, _, e', h1, h2, fun j hj => ?_, by omega, rfl⟩
      rw [List.map_append]
      exact List.mem_append_left _ (h3 j hj)
  rintro ρ ⟨qs, z4, z5, h1, h2, h3, rfl⟩
  refine wp_seqJ (fun ρ => ∃ qs, PsOk qs B (L + 1) ∧ (qs.map Pm.k).Nodup ∧ qs.length ≤ ps.length ∧ ρ = [some .tape, some (.val (scD w h ps)), some (.val (.int m)), some (.own (.lst (dsO qs))), z4, z5, none, none, none]) ?_ ?_
  · walk_at "wk"
    unfold dsO
    refine turned_wp (by omega) fun ys hy => ?_
    walk_at "wk"
    exact ⟨ys, h1.perm hy, (hy.map Pm.k).nodup_iff.mpr h2, by have := hy.length_eq; omega, rfl⟩
  clear h1 h2 h3
  rintro ρ ⟨qs, h1, h2, h3, rfl⟩
  refine wp_seqJ (fun ρ => ∃ qs z6 z7, PsOk qs (B + 6) (L + 1) ∧ (qs.map Pm.k).Nodup ∧ qs.length ≤ ps.length + 2 ∧ ρ = [some .tape, some (.val (scD w h ps)), some (.val (.int m)), some (.own (.lst (dsO qs))), z4, z5, z6, z7, none]) ?_ ?_
  · walk_at "wk"
    refine wp_drawn (by decide) fun v v0 v1 => ?_
    walk_at "wk"
    refine wp_pickI 2 (by decide) v0 (by simp only [List.length_cons, List.length_nil]; omega) fun j j0 j1 => ?_
    walk_at "wk"
    rw [if_pos (rngOk_ok (by omega) (by omega))]
    refine wp_turns (n := j.toNat) (fun i ρ => ∃ qs z6 z7, PsOk qs (B + 3 * i) (L + 1) ∧ (qs.map Pm.k).Nodup ∧ qs.length ≤ ps.length + i ∧ ρ = [some .tape, some (.val (scD w h ps)), some (.val (.int m)), some (.own (.lst (dsO qs))), z4, z5, z6, z7, none]) ?_ ?_ ⟨qs, none, none, h1, h2, h3, rfl⟩
    · rintro ρ ⟨qs, z6, z7, p1, p2, p3, rfl⟩
      exact ⟨qs, z6, z7, p1.mono (by omega), p2, by omega, rfl⟩
    clear h1 h2 h3
    rintro i ds ρ hi ⟨qs, z6, z7, p1, p2, p3, rfl⟩
    walk_at "wk"
    rw [idents_r (.inr rfl) p1 (by omega)]
    walk_at "wk"
    refine new_wp p1.ks.who (by omega) (by omega) (by rw [ksD_len, List.length_map]; omega) fun a b c hid hcl hn => ?_
    walk_at "wk"
    refine prim_wp hid m0 m1 fun p hp pa pb pc => ?_
    walk_at "wk"
    have pk : p.k = idK a b c := by unfold Pm.k; rw [pa, pb, pc]
    have pn : p.k ∉ qs.map Pm.k := by
      intro m
      rw [pk] at m
      refine hn ?_
      rw [← idK_d hid.a_]
      exact List.mem_map.mpr ⟨_, m, rfl⟩
    rw [mIns_o rfl]
    walk_at "wk"
    rw [dsO_len]
    refine wp_drawn (by omega) fun u u0 u1 => ?_
    walk_at "wk"
    refine wp_drawn (by omega) fun x x0 x1 => ?_
    walk_at "wk"
    have two : ∃ n : Nat, n ≤ qs.length ∧ atD [PyData.int qs.length, PyData.int u] x = .ret (.val (.int (n : Int))) := by
      have : x = 0 ∨ x = 1 := by omega
      rcases this with rfl | rfl
      · exact ⟨qs.length, Nat.le_refl _, atD_0⟩
      · exact ⟨u.toNat, by omega, by rw [Int.toNat_of_nonneg u0]; exact atD_1⟩
    obtain ⟨n, hn', e⟩ := two
    rw [e]
    walk_at "wk"
    rw [kIns_v (by omega) (by omega) (by rw [dsO_len]; omega)]
    walk_at "wk"
    refine ⟨qs.take n ++ [p] ++ qs.drop n, some (.val (.int (0 + (i : Int) * 1))), some (.val p.d), (p1.mono (by omega)).ins (hp.mono (by omega) (by omega)) (by rw [pc]; omega), ?_, by rw [ins_len hn']; omega, ?_⟩
    · refine (ins_perm.map Pm.k).nodup_iff.mpr ?_
      rw [List.map_cons]
      exact List.nodup_cons.mpr ⟨pn, p2⟩
    · rw [Int.toNat_natCast, dsO_take, dsO_drop, dsO_app, dsO_app]
      rfl
  clear h1 h2 h3
  rintro ρ ⟨qs, z6, z7, h1, h2, h3, rfl⟩
  refine wp_seqJ (fun ρ => ρ = [some .tape, some (.val (scD w h ps)), some (.val (.int m)), some (.own (.lst (dsO qs))), z4, z5, z6, z7, some (.val (.tuple [.int w, .int h]))]) ?_ ?_
  · walk_at "wk"
    rw [sc_ix0]
    walk_at "wk"
    rw [sc_ix1]
    walk_at "wk"
    rfl
  rintro ρ rfl
  refine wp_seqJ (fun ρ => ∃ w' h' : Int, (0 ≤ w' ∧ w' ≤ Z + 1) ∧ (0 ≤ h' ∧ h' ≤ Z + 1) ∧ ρ = [some .tape, some (.val (scD w h ps)), some (.val (.int m)), some (.own (.lst (dsO qs))), z4, z5, z6, z7, some (.val (.tuple [.int w', .int h']))]) ?_ ?_
  · walk_at "wk"
    refine wp_drawn (by decide) fun v v0 v1 => ?_
    walk_at "wk"
    refine wp_ite (fun _ => ?_) (fun _ => ?_)
    · rw [sc_ix1]
      walk_at "wk"
      rw [sc_ix0]
      walk_at "wk"
      try rw [sc_ix0]
      walk_at "wk"
      try rw [sc_ix1]
      walk_at "wk"
      try rw [sc_ix0]
      walk_at "wk"
      refine wp_drawn (by decide) fun x x0 x1 => ?_
      walk_at "wk"
      refine wp_pick x0 (by simp only [List.length_cons, List.length_nil]; omega) fun d hd => ?_
      simp only [List.mem_cons, List.not_mem_nil, or_false] at hd
      rcases hd with rfl | rfl | rfl
      · walk_at "wk"
        exact ⟨h, w, by omega, by omega, rfl⟩
      · walk_at "wk"
        exact ⟨w + 1, h, by omega, by omega, rfl⟩
      · walk_at "wk"
        exact ⟨w, 0, by omega, by omega, rfl⟩
    · walk_at "wk"
      exact ⟨w, h, by omega, by omega, rfl⟩
  rintro ρ ⟨w', h', w1, w2, rfl⟩
  walk_at "wk"
  exact ⟨w', h', qs, h1, h2, h3, w1, w2, rfl⟩

/-! scenes as tables -/
open Classical
theorem nd_inj : ∀ {ps : List Pm}, (ps.map Pm.k).Nodup → ∀ {p q : Pm}, p ∈ ps → q ∈ ps → p.k = q.k → p = q
  | [], _, _, _, m, _, _ => nomatch m
  | x :: xs, nd, p, q, mp, mq, e => by
    rw [List.map_cons, List.nodup_cons] at nd
    rcases List.mem_cons.mp mp with rfl | mp'
    · rcases List.mem_cons.mp mq with rfl | mq'
      · rfl
      · exact absurd (show p.k ∈ xs.map Pm.k from List.mem_map.mpr ⟨q, mq', e.symm⟩) nd.1
    · rcases List.mem_cons.mp mq with rfl | mq'
      · exact absurd (show q.k ∈ xs.map Pm.k from List.mem_map.mpr ⟨p, mp', e⟩) nd.1
      · exact nd_inj nd.2 mp' mq' e
def tbl (ps : List Pm) : List (NestedKey × PyData) := ps.map fun p => (p.k, p.d)
theorem tbl_keys {ps : List Pm} : (tbl ps).map (·.1) = ps.map Pm.k := by unfold tbl; rw [List.map_map]; rfl
theorem tbl_some {ps : List Pm} {k : NestedKey} {d : PyData} (h : valD (tbl ps) k = some d) : ∃ q ∈ ps, q.k = k ∧ q.d = d := by
  unfold tbl at h
  rw [valD_map] at h
  obtain ⟨q, e, rfl⟩ := Option.map_eq_some_iff.mp h
  have e2 := List.find?_some e
  exact ⟨q, List.mem_of_find?_eq_some e, by simpa using e2, rfl⟩
theorem tbl_none {ps : List Pm} {k : NestedKey} (h : valD (tbl ps) k = none) : k ∉ ps.map Pm.k := by
  unfold tbl at h
  rw [valD_map, Option.map_eq_none_iff, List.find?_eq_none] at h
  intro m
  obtain ⟨q, hq, e⟩ := List.mem_map.mp m
  exact h q hq (decide_eq_true e)
theorem tbl_at {ps : List Pm} (nd : (ps.map Pm.k).Nodup) {p : Pm} (hp : p ∈ ps) : valD (tbl ps) p.k = some p.d := by
  cases e : valD (tbl ps) p.k with
  | none => exact absurd (List.mem_map.mpr ⟨p, hp, rfl⟩) (tbl_none e)
  | some d =>
    obtain ⟨q, hq, e1, rfl⟩ := tbl_some e
    rw [nd_inj nd hq hp e1]
theorem tbl_is {ps : List Pm} (k : NestedKey) : (valD (tbl ps) k).isSome = decide (k ∈ ps.map Pm.k) := by
  cases e : valD (tbl ps) k with
  | none => rw [decide_eq_false (tbl_none e)]; rfl
  | some d =>
    obtain ⟨q, hq, e1, _⟩ := tbl_some e
    rw [decide_eq_true (List.mem_map.mpr ⟨q, hq, e1⟩)]
    rfl
theorem d_inj {p q : Pm} (h : p.d = q.d) : p.k = q.k := by
  unfold Pm.d at h
  simp only [PyData.tuple.injEq, List.cons.injEq, PyData.str.injEq] at h
  unfold Pm.k
  rw [h.1, h.2.1, h.2.2.1]
theorem eq_dd {n : Bool} {d e : PyData} (cd : cln d = true) (ce : cln e = true) (sd : SeqAt.shaped d = true) (se : SeqAt.shaped e = true) (ns : ∀ z, d ≠ .str z) : oEqD n (some d) (some e) = .ret (.val (.bool (n ^^ decide (d = e)))) := by
  rw [oEq_d sd se ns, eqv_dec cd ce]
theorem pm_shaped {p : Pm} {L : Int} (h : PmOk p L) : SeqAt.shaped p.d = true := (pmD_sz h).shaped (by decide)
/-- old.get(k) == item -/
theorem get_eq {n : Bool} {ps : List Pm} {B : Nat} {L L' : Int} (h : PsOk ps B L) {k : NestedKey} {q : Pm} (hq : PmOk q L') : oEqD n (some ((valD (tbl ps) k).getD .none)) (some q.d) = .ret (.val (.bool (n ^^ decide (valD (tbl ps) k = some q.d)))) := by
  cases e : valD (tbl ps) k with
  | none =>
    rw [show (Option.none.getD PyData.none) = PyData.none from rfl, eq_dd rfl (pmD_cln hq) (by decide) (pm_shaped hq) (fun z => by intro w; cases w)]
    congr 4
    exact decide_eq_decide.mpr ⟨(fun w => by unfold Pm.d at w; cases w), (fun w => by cases w)⟩
  | some d =>
    obtain ⟨p, hp, _, rfl⟩ := tbl_some e
    rw [show (Option.some p.d).getD PyData.none = p.d from rfl, eq_dd (pmD_cln (h.ok p hp)) (pmD_cln hq) (pm_shaped (h.ok p hp)) (pm_shaped hq) (fun z => by intro w; unfold Pm.d at w; cases w)]
    congr 4
    exact decide_eq_decide.mpr ⟨fun w => by rw [w], fun w => Option.some.inj w⟩
/-- the same, the other way round -/
theorem get_eq' {n : Bool} {ps : List Pm} {B : Nat} {L L' : Int} (h : PsOk ps B L) {k : NestedKey} {q : Pm} (hq : PmOk q L') : oEqD n (some q.d) (some ((valD (tbl ps) k).getD .none)) = .ret (.val (.bool (n ^^ decide (valD (tbl ps) k = some q.d)))) := by
  cases e : valD (tbl ps) k with
  | none =>
    rw [show (Option.none.getD PyData.none) = PyData.none from rfl, eq_dd (pmD_cln hq) rfl (pm_shaped hq) (by decide) (fun z => by intro w; unfold Pm.d at w; cases w)]
    congr 4
    exact decide_eq_decide.mpr ⟨(fun w => by unfold Pm.d at w; cases w), (fun w => by cases w)⟩
  | some d =>
    obtain ⟨p, hp, _, rfl⟩ := tbl_some e
    rw [show (Option.some p.d).getD PyData.none = p.d from rfl, eq_dd (pmD_cln hq) (pmD_cln (h.ok p hp)) (pm_shaped hq) (pm_shaped (h.ok p hp)) (fun z => by intro w; unfold Pm.d at w; cases w)]
    congr 4
    exact decide_eq_decide.mpr ⟨fun w => by rw [w], fun w => (Option.some.inj w).symm⟩
/-- the law's table -/
theorem put_tbl {dn : List Pm} {p : Pm} (h : ((dn ++ [p]).map Pm.k).Nodup) : putD (tbl dn) p.k p.d = tbl (dn ++ [p]) := by
  have := fold_new Pm.k Pm.d [p] (tbl dn) (by rw [tbl_keys, ← List.map_append]; exact h)
  rw [List.foldl_cons, List.foldl_nil] at this
  rw [this]
  unfold tbl
  rw [List.map_append]
theorem tbl_wp {ps : List Pm} {B : Nat} {L : Int} (h : PsOk ps B L) (nd : (ps.map Pm.k).Nodup) (hl : ps.length ≤ 700) {α : Type} {k : C → M α} {Q : α → Prop} (q : wp (k (.own (.xo (.dN (tbl ps))))) Q) : wp ((f_law_table [.val (.tuple (dsO ps))]).bind k) Q := by
  refine wp_call (fun x => x = .own (.xo (.dN (tbl ps)))) ?_ (by rintro c rfl; exact q)
  refine wp_fn rfl ?_
  walk_at "we"
  refine wp_seqJ (fun ρ => ρ = [some (.val (.tuple (dsO ps))), some (.own (.xo (.dN []))), none]) ?_ ?_
  · walk_at "wk"
    rfl
  rintro ρ rfl
  refine wp_seqJ (fun ρ => ∃ z, ρ = [some (.val (.tuple (dsO ps))), some (.own (.xo (.dN (tbl ps)))), z]) ?_ ?_
  · walk_at "wk"
    conv => arg 1; arg 3; unfold dsO
    refine wp_over Pm.d (fun rest ρ => ∃ dn z, ps = dn ++ rest ∧ ρ = [some (.val (.tuple (dsO ps))), some (.own (.xo (.dN (tbl dn)))), z]) ?_ ?_ ⟨[], none, rfl, rfl⟩
    · rintro ρ ⟨dn, z, e, rfl⟩
      rw [List.append_nil] at e
      subst e
      exact ⟨z, rfl⟩
    rintro p rest ρ ⟨dn, z, e, rfl⟩
    have e' : ps = (dn ++ [p]) ++ rest := by rw [e, List.append_assoc]; rfl
    have hp : PmOk p L := h.ok p (by rw [e]; simp)
    have nd' : ((dn ++ [p]).map Pm.k).Nodup := by
      rw [e', List.map_append] at nd
      exact (List.nodup_append.mp nd).1
    walk_at "wk"
    rw [who_cut]
    walk_at "wk"
    rw [kPutN_v (Pm.k_who hp.id_) (by unfold tbl; rw [List.length_map]; rw [e, List.length_append] at hl; omega), put_tbl nd']
    walk_at "wk"
    exact ⟨dn ++ [p], _, e', rfl⟩
  rintro ρ ⟨z, rfl⟩
  walk_at "wk"
/-- the program's -/
def kO : PyData → NestedKey
  | .tuple (a :: b :: c :: _) => (nkD (.tuple [a, b, c])).getD .none
  | _ => .none
theorem kO_d {p : Pm} {L : Int} (h : PmOk p L) : kO p.d = p.k := by
  show (nkD p.who).getD .none = p.k
  rw [Pm.k_who h.id_]
  rfl
theorem identity_eq {p : Pm} : f_identity [.val p.d] = .ret (.val p.who) := by
  unfold f_identity
  walk_at "wk"
  exact who_cut
theorem by_identity_eq {w h : Int} {ps : List Pm} {B : Nat} {L : Int} (hs : PsOk ps B L) (nd : (ps.map Pm.k).Nodup) (hl : ps.length ≤ 700) : f_by_identity [.val (scD w h ps)] = .ret (.own (.xo (.dN (tbl ps)))) := by
  unfold f_by_identity
  walk_at "wk"
  rw [sc_ix2]
  walk_at "wk"
  rw [dcLN_map kO (fun d => d) (fun _ => true) (dsO ps) [] (by rw [dsO_len]; simp only [List.length_nil]; omega) fun d hd => by
    obtain ⟨p, hp, rfl⟩ := List.mem_map.mp hd
    have kp := hs.ok p hp
    exact ⟨_, by walk_at "pr", by walk_at "pr", fun _ => ⟨p.who, by rw [kO_d kp]; exact Pm.k_who kp.id_, by walk_at "wk"; rw [identity_eq], by walk_at "pr"⟩⟩]
  walk_at "wk"
  rw [List.filter_eq_self.mpr (fun _ _ => rfl)]
  have go : ∀ (qs : List Pm) (acc : List (NestedKey × PyData)), (∀ p ∈ qs, PmOk p L) → (dsO qs).foldl (fun acc d => putD acc (kO d) d) acc = qs.foldl (fun a x => putD a x.k x.d) acc := by
    intro qs
    induction qs with
    | nil => intro acc _; rfl
    | cons p r ih =>
      intro acc hq
      show (dsO r).foldl (fun acc d => putD acc (kO d) d) (putD acc (kO p.d) p.d) = _
      rw [kO_d (hq p List.mem_cons_self), ih _ fun x m => hq x (List.mem_cons_of_mem _ m)]
      rfl
  rw [go ps [] hs.ok, fold_new Pm.k Pm.d ps [] (by rw [List.map_nil, List.nil_append]; exact nd)]
  rfl
/-- those that the second has alike, in the order of the first -/
noncomputable def alK (ps qs : List Pm) : List NestedKey := (ps.filter fun p => decide (valD (tbl qs) p.k = some p.d)).map Pm.k
theorem alK_nodup {ps qs : List Pm} (nd : (ps.map Pm.k).Nodup) : (alK ps qs).Nodup := nd.sublist ((List.filter_sublist).map Pm.k)
theorem alK_mem {ps qs : List Pm} (n1 : (ps.map Pm.k).Nodup) (n2 : (qs.map Pm.k).Nodup) {k : NestedKey} (h : k ∈ alK ps qs) : k ∈ alK qs ps := by
  obtain ⟨p, hp, rfl⟩ := List.mem_map.mp h
  obtain ⟨m, e⟩ := List.mem_filter.mp hp
  obtain ⟨q, hq, e1, e2⟩ := tbl_some (of_decide_eq_true e)
  refine List.mem_map.mpr ⟨q, List.mem_filter.mpr ⟨hq, decide_eq_true ?_⟩, e1⟩
  rw [e1, tbl_at n1 m, e2]
theorem alK_perm {ps qs : List Pm} (n1 : (ps.map Pm.k).Nodup) (n2 : (qs.map Pm.k).Nodup) : (alK ps qs).Perm (alK qs ps) :=
  (List.perm_ext_iff_of_nodup (alK_nodup n1) (alK_nodup n2)).mpr fun _ => ⟨alK_mem n1 n2, alK_mem n2 n1⟩
theorem alK_len (ps qs : List Pm) : (alK ps qs).length ≤ ps.length := by
  unfold alK
  rw [List.length_map]
  exact List.length_filter_le _ _
theorem alK_ks {ps qs : List Pm} {B : Nat} {L : Int} (h : PsOk ps B L) : KsOk (alK ps qs) B := h.ks.sub fun k m => by
  obtain ⟨p, hp, rfl⟩ := List.mem_map.mp m
  exact List.mem_map.mpr ⟨p, (List.mem_filter.mp hp).1, rfl⟩
/-! where two rows differ -/
def dif (b a : List NestedKey) : List Nat := (List.range b.length).filter fun i => decide (b[i]? ≠ a[i]?)
theorem dif_mem {b a : List NestedKey} {i : Nat} : i ∈ dif b a ↔ i < b.length ∧ b[i]? ≠ a[i]? := by
  unfold dif
  rw [List.mem_filter, List.mem_range, decide_eq_true_eq]
theorem dif_sorted (b a : List NestedKey) : (dif b a).Pairwise (· < ·) := List.pairwise_lt_range.filter _
theorem sorted_ends {D : List Nat} (h : D.Pairwise (· < ·)) (ne : D ≠ []) : ∃ f l, D[0]? = some f ∧ D[D.length - 1]? = some l ∧ f ∈ D ∧ l ∈ D ∧ ∀ i ∈ D, f ≤ i ∧ i ≤ l := by
  have hl : 0 < D.length := List.length_pos_iff.mpr ne
  refine ⟨D[0], D[D.length - 1], List.getElem?_eq_getElem hl, List.getElem?_eq_getElem (by omega), List.getElem_mem _, List.getElem_mem _, fun i hi => ?_⟩
  obtain ⟨n, hn, rfl⟩ := List.getElem_of_mem hi
  have lt := List.pairwise_iff_getElem.mp h
  constructor
  · by_cases c : n = 0
    · subst c; exact Nat.le_refl _
    · exact Nat.le_of_lt (lt 0 n hl hn (by omega))
  · by_cases c : n = D.length - 1
    · subst c; exact Nat.le_refl _
    · exact Nat.le_of_lt (lt n (D.length - 1) hn (by omega) (by omega))
theorem dif_nil {b a : List NestedKey} (hl : b.length = a.length) (h : dif b a = []) : b = a := by
  refine List.ext_getElem? fun i => ?_
  by_cases c : i < b.length
  · refine Decidable.byContradiction fun n => ?_
    have : i ∈ dif b a := dif_mem.mpr ⟨c, n⟩
    rw [h] at this
    exact nomatch this
  · rw [List.getElem?_eq_none (by omega), List.getElem?_eq_none (by omega)]
structure Difs (b a : List NestedKey) (f l : Nat) : Prop where
  d0 : (dif b a)[0]? = some f
  d1 : (dif b a)[(dif b a).length - 1]? = some l
  le : f ≤ l
  lt : l < b.length
  nf : b[f]? ≠ a[f]?
  nl : b[l]? ≠ a[l]?
  pre : ∀ i, i < f → b[i]? = a[i]?
  post : ∀ i, l < i → b[i]? = a[i]?
theorem difs {b a : List NestedKey} (hl : b.length = a.length) (h : dif b a ≠ []) : ∃ f l, Difs b a f l := by
  obtain ⟨f, l, h1, h2, h3, h4, h5⟩ := sorted_ends (dif_sorted b a) h
  have m3 := dif_mem.mp h3
  have m4 := dif_mem.mp h4
  refine ⟨f, l, h1, h2, (h5 f h3).2, m4.1, m3.2, m4.2, fun i hi => ?_, fun i hi => ?_⟩
  · refine Decidable.byContradiction fun n => ?_
    have := (h5 i (dif_mem.mpr ⟨by omega, n⟩)).1
    omega
  · by_cases c : i < b.length
    · refine Decidable.byContradiction fun n => ?_
      have := (h5 i (dif_mem.mpr ⟨c, n⟩)).2
      omega
    · rw [List.getElem?_eq_none (by omega), List.getElem?_eq_none (by omega)]
/-- from the first to the last place at which they differ -/
def mvK (b a : List NestedKey) : List NestedKey := match dif b a with
  | [] => []
  | D => (b.drop (D[0]?.getD 0)).take (D[D.length - 1]?.getD 0 + 1 - D[0]?.getD 0)
theorem mvK_nil {b a : List NestedKey} (h : dif b a = []) : mvK b a = [] := by unfold mvK; rw [h]
theorem mvK_at {b a : List NestedKey} {f l : Nat} (h : Difs b a f l) : mvK b a = (b.drop f).take (l + 1 - f) := by
  unfold mvK
  split
  · rename_i e
    have := h.d0
    rw [e] at this
    cases this
  · rw [h.d0, h.d1]
    rfl
theorem Difs.ne {b a : List NestedKey} {f l : Nat} (h : Difs b a f l) : dif b a ≠ [] := fun e => by
  have := h.d0
  rw [e] at this
  cases this

open Classical
theorem cutT_both {ds : List PyData} {f e : Nat} (h1 : f ≤ ds.length) (h2 : e ≤ ds.length) : cutD ds (some (f : Int)) (some (e : Int)) = (ds.drop f).take (e - f) := by
  unfold cutD
  rw [HT.sIx_nat, HT.sIx_nat, Nat.min_eq_left h1, Nat.min_eq_left h2]
theorem tbl_data {ps : List Pm} : (tbl ps).map (fun kv => kv.1.data) = ps.map fun p => p.k.data := by unfold tbl; rw [List.map_map]; rfl
theorem ksD_take {ps : List NestedKey} {n : Nat} : (ksD ps).take n = ksD (ps.take n) := by unfold ksD; rw [List.map_take]
theorem ksD_drop {ps : List NestedKey} {n : Nat} : (ksD ps).drop n = ksD (ps.drop n) := by unfold ksD; rw [List.map_drop]
theorem atD_ks {ks : List NestedKey} {i : Nat} (h : i < ks.length) : atD (ksD ks) ((i : Nat) : Int) = .ret (.val (ks[i].data)) :=
  atD_int (by omega) (by unfold ksD; rw [Int.toNat_natCast, List.getElem?_map, List.getElem?_eq_getElem h]; rfl)
def nats (D : List Nat) : List PyData := D.map fun i : Nat => .int (i : Int)
theorem rng_nats {n : Nat} : rngD 0 1 n = nats (List.range n) := by
  unfold rngD nats
  refine List.map_congr_left fun i _ => ?_
  show PyData.int (0 + (i : Int) * 1) = _
  congr 1
  omega
theorem key_eq {n : Bool} {k j : NestedKey} {B B' : Nat} (hk : KOk k B) (hj : KOk j B') : oEqD n (some k.data) (some j.data) = .ret (.val (.bool (n ^^ decide (k = j)))) := by
  rw [eq_dd hk.cln_ hj.cln_ (hk.sz.shaped (by decide)) (hj.sz.shaped (by decide)) (fun z => by obtain ⟨xs, e⟩ := hk.tup; rw [e]; intro w; cases w)]
  congr 4
  exact decide_eq_decide.mpr (KOk.inj hk hj)
theorem keys_eq {n : Bool} {k j : List NestedKey} {B B' : Nat} (hk : KsOk k B) (hj : KsOk j B') (lk : k.length ≤ 700) (lj : j.length ≤ 700) : oEqD n (some (.list (ksD k))) (some (.list (ksD j))) = .ret (.val (.bool (n ^^ decide (k = j)))) := by
  have c1 : cln (.list (ksD k)) = true := clnAll_mem.mpr hk.who.cln_
  have c2 : cln (.list (ksD j)) = true := clnAll_mem.mpr hj.who.cln_
  rw [eq_dd c1 c2 ((hk.who.sz (by rw [ksD_len]; exact lk)).shaped (by decide)) ((hj.who.sz (by rw [ksD_len]; exact lj)).shaped (by decide)) (fun z => by intro w; cases w)]
  congr 4
  refine decide_eq_decide.mpr ⟨fun e => ?_, fun e => by rw [e]⟩
  have e1 := hk.nks
  rw [PyData.list.inj e, hj.nks] at e1
  exact (Option.some.inj e1).symm
/-- [place for place in range(len(b)) if b[place] != a[place]] -/
theorem dif_lc {a : C → Ro → M Ro} {c : Ro → M Bool} {e : Ro → M C} {ρ : Ro} {x y : List NestedKey} {B : Nat} (hx : KsOk x B) (hy : KsOk y B) (hl : x.length = y.length)
    (h : ∀ (i : Nat) (hi : i < x.length), ∃ ρ1, a (.val (.int (i : Int))) ρ = .ret ρ1 ∧ (∃ b, oEqD true (some (x[i]).data) (some (y[i]'(by omega)).data) = .ret (.val (.bool b)) ∧ c ρ1 = .ret b) ∧ e ρ1 = .ret (.val (.int (i : Int)))) : lcL a c e (nats (List.range x.length)) ρ [] = .ret (.own (.lst (nats (dif x y)))) := by
  refine (lcL_fm (fun i : Nat => PyData.int (i : Int)) (fun i => decide (x[i]? ≠ y[i]?)) (fun i : Nat => PyData.int (i : Int)) (List.range x.length) [] fun i hi => ?_).trans ?_
  · have li := List.mem_range.mp hi
    obtain ⟨ρ1, h1, ⟨b, h2, h3⟩, h4⟩ := h i li
    refine ⟨ρ1, h1, ?_, fun _ => h4⟩
    rw [key_eq (hx _ (List.getElem_mem li)) (hy _ (List.getElem_mem (by omega)))] at h2
    rw [h3]
    have : b = (true ^^ decide (x[i] = y[i]'(by omega))) := by
      injection h2 with h2
      injection h2 with h2
      injection h2 with h2
      exact h2.symm
    rw [this, List.getElem?_eq_getElem li, List.getElem?_eq_getElem (by omega), Bool.true_xor]
    congr 1
    by_cases q : x[i] = y[i]'(by omega)
    · simp [q]
    · simp [q]
  · rfl
theorem nats_at {D : List Nat} {i n : Nat} (h : D[i]? = some n) : atD (nats D) (i : Int) = .ret (.val (.int (n : Int))) := atD_int (by omega) (by unfold nats; rw [Int.toNat_natCast, List.getElem?_map, h]; rfl)
theorem nats_0 {D : List Nat} {n : Nat} (h : D[0]? = some n) : atD (nats D) 0 = .ret (.val (.int (n : Int))) := nats_at (i := 0) h
theorem nats_last {D : List Nat} {n : Nat} (h : D[D.length - 1]? = some n) : atD (nats D) (-1) = .ret (.val (.int (n : Int))) := atD_m1 (by unfold nats; rw [List.length_map, List.getElem?_map, h]; rfl)
theorem nats_len {D : List Nat} : (nats D).length = D.length := by unfold nats; rw [List.length_map]
theorem alK_d {ps qs : List Pm} : [] ++ (ps.filter fun p => decide (valD (tbl qs) p.k = some p.d)).map (fun p => p.k.data) = ksD (alK ps qs) := by
  unfold alK ksD
  rw [List.map_map]
  rfl
theorem moved_eq {w h w' h' : Int} {ps qs : List Pm} {B : Nat} {L L' : Int} (hp : PsOk ps B L) (hq : PsOk qs B L') (n1 : (ps.map Pm.k).Nodup) (n2 : (qs.map Pm.k).Nodup) (lp : ps.length ≤ 200) (lq : qs.length ≤ 200) {α : Type} {k : C → M α} {Q : α → Prop}
    (q : wp (k (.val (.tuple (ksD (mvK (alK ps qs) (alK qs ps)))))) Q) : wp ((f_moved [.val (scD w h ps), .val (scD w' h' qs)]).bind k) Q := by
  refine wp_call (fun x => x = .val (.tuple (ksD (mvK (alK ps qs) (alK qs ps))))) ?_ (by rintro c rfl; exact q)
  refine wp_fn rfl ?_
  walk_at "we"
  refine wp_seqJ (fun ρ => ρ = [some (.val (scD w h ps)), some (.val (scD w' h' qs)), some (.own (.xo (.dN (tbl ps)))), some (.own (.xo (.dN (tbl qs)))), none, none, none, none, none]) ?_ ?_
  · rw [mParO_o (o := .xo (.dN (tbl ps))) (o' := .xo (.dN (tbl qs))) (by walk_at "wk"; rw [by_identity_eq hp n1 (by omega)]) (by walk_at "wk"; rw [by_identity_eq hq n2 (by omega)])]
    walk_at "wk"
    rfl
  rintro ρ rfl
  refine wp_seqJ (fun ρ => ρ = [some (.val (scD w h ps)), some (.val (scD w' h' qs)), some (.own (.xo (.dN (tbl ps)))), some (.own (.xo (.dN (tbl qs)))), some (.own (.lst (ksD (alK ps qs)))), none, none, none, none]) ?_ ?_
  · walk_at "wk"
    rw [tbl_data, List.length_map, if_pos (by omega)]
    rw [lcL_fm (fun p : Pm => p.k.data) (fun p => decide (valD (tbl qs) p.k = some p.d)) (fun p : Pm => p.k.data) ps [] fun p m => ⟨_, by walk_at "pr", by
      walk_at "wk"
      rw [lkN_eq kvN_b (hp.ks _ (List.mem_map.mpr ⟨p, m, rfl⟩)).nk, get1N_s]
      walk_at "wk"
      rw [lkN_eq kvN_l (hp.ks _ (List.mem_map.mpr ⟨p, m, rfl⟩)).nk, tbl_at n1 m, getN_s]
      walk_at "wk"
      rw [show oEq (.val ((valD (tbl qs) p.k).getD .none)) (.val p.d) = oEqD false (some ((valD (tbl qs) p.k).getD .none)) (some p.d) from rfl, get_eq hq (hp.ok p m), Bool.false_xor]
      walk_at "wk", fun _ => by walk_at "pr"⟩]
    rw [alK_d]
    walk_at "wk"
    rfl
  rintro ρ rfl
  refine wp_seqJ (fun ρ => ρ = [some (.val (scD w h ps)), some (.val (scD w' h' qs)), some (.own (.xo (.dN (tbl ps)))), some (.own (.xo (.dN (tbl qs)))), some (.own (.lst (ksD (alK ps qs)))), none, some (.own (.lst (ksD (alK qs ps)))), none, none]) ?_ ?_
  · walk_at "wk"
    rw [tbl_data, List.length_map, if_pos (by omega)]
    rw [lcL_fm (fun p : Pm => p.k.data) (fun p => decide (valD (tbl ps) p.k = some p.d)) (fun p : Pm => p.k.data) qs [] fun p m => ⟨_, by walk_at "pr", by
      walk_at "wk"
      rw [lkN_eq kvN_b (hq.ks _ (List.mem_map.mpr ⟨p, m, rfl⟩)).nk, get1N_s]
      walk_at "wk"
      rw [lkN_eq kvN_l (hq.ks _ (List.mem_map.mpr ⟨p, m, rfl⟩)).nk, tbl_at n2 m, getN_s]
      walk_at "wk"
      rw [show oEq (.val ((valD (tbl ps) p.k).getD .none)) (.val p.d) = oEqD false (some ((valD (tbl ps) p.k).getD .none)) (some p.d) from rfl, get_eq hp (hq.ok p m), Bool.false_xor]
      walk_at "wk", fun _ => by walk_at "pr"⟩]
    rw [alK_d]
    walk_at "wk"
    rfl
  rintro ρ rfl
  have kb : KsOk (alK ps qs) B := alK_ks hp
  have ka : KsOk (alK qs ps) B := alK_ks hq
  have la := alK_len ps qs
  have ll : (alK ps qs).length = (alK qs ps).length := (alK_perm n1 n2).length_eq
  generalize alK ps qs = b at kb la ll ⊢
  generalize alK qs ps = a at ka ll ⊢
  refine wp_seqJ (fun ρ => ρ = [some (.val (scD w h ps)), some (.val (scD w' h' qs)), some (.own (.xo (.dN (tbl ps)))), some (.own (.xo (.dN (tbl qs)))), some (.own (.lst (ksD b))), none, some (.own (.lst (ksD a))), some (.own (.lst (nats (dif b a)))), none]) ?_ ?_
  · walk_at "wk"
    rw [ksD_len, if_pos (rngOk_ok (by omega) (by omega))]
    walk_at "wk"
    rw [Int.toNat_natCast, rng_nats]
    rw [nats_len, List.length_range, if_pos (by omega)]
    rw [dif_lc kb ka ll fun i hi => ⟨_, by walk_at "pr", ⟨_, key_eq (kb _ (List.getElem_mem hi)) (ka _ (List.getElem_mem (by omega))), by
      walk_at "wk"
      rw [atD_ks hi]
      walk_at "wk"
      rw [atD_ks (by omega)]
      walk_at "wk"
      rw [show oNe (.val (b[i]).data) (.val (a[i]'(by omega)).data) = oEqD true (some (b[i]).data) (some (a[i]'(by omega)).data) from rfl, key_eq (kb _ (List.getElem_mem hi)) (ka _ (List.getElem_mem (by omega)))]
      walk_at "wk"⟩, by walk_at "pr"⟩]
    walk_at "wk"
    rfl
  rintro ρ rfl
  by_cases ne : dif b a = []
  · rw [mvK_nil ne, ne, show nats [] = [] from rfl]
    walk_at "wk"
    rw [show ([] : List PyData).isEmpty = true from rfl]
    walk_at "wk"
    try rfl
  obtain ⟨f, l, d⟩ := difs ll ne
  rw [mvK_at d]
  walk_at "wk"
  have em : (nats (dif b a)).isEmpty = false := by
    cases e : dif b a with
    | nil => exact absurd e ne
    | cons x xs => rfl
  have fl := d.le
  have llt := d.lt
  rw [em]
  walk_at "wk"
  rw [nats_0 d.d0]
  walk_at "wk"
  rw [nats_last d.d1]
  walk_at "wk"
  rw [show ((l : Int) + 1) = ((l + 1 : Nat) : Int) from rfl, cutT_both (by rw [ksD_len]; omega) (by rw [ksD_len]; omega), ksD_drop, ksD_take]

open Classical
theorem idents_l {ps : List Pm} {B : Nat} {L : Int} (h : PsOk ps B L) (hl : ps.length ≤ 700) : f_law_identities [.val (.list (dsO ps))] = .ret (.own (.lst (ksD (ps.map Pm.k)))) := by
  rw [← whosO_ks h]
  unfold f_law_identities dsO
  walk_at "wk"
  rw [if_pos (by rw [List.length_map]; omega), lcL_map Pm.d Pm.who ps [] fun p _ => ⟨_, by walk_at "pr", by walk_at "pr", by walk_at "pl"; exact who_cut⟩]
  walk_at "wk"
  rfl
noncomputable def puts (ps qs : List Pm) : List Pm := qs.filter fun q => !decide (valD (tbl ps) q.k = some q.d)
def gone (ps qs : List Pm) : List NestedKey := (ps.map Pm.k).filter fun k => !decide (k ∈ qs.map Pm.k)
theorem changes_wp {w h w' h' : Int} {ps qs : List Pm} {B : Nat} {L L' : Int} (hp : PsOk ps B L) (hq : PsOk qs B L') (n1 : (ps.map Pm.k).Nodup) (n2 : (qs.map Pm.k).Nodup) (lp : ps.length ≤ 200) (lq : qs.length ≤ 200) {α : Type} {k : C → M α} {Q : α → Prop}
    (q : wp (k (.own (.lst [.list (ksD (gone ps qs)), .list (dsO (puts ps qs))]))) Q) : wp ((f_law_changes [.val (scD w h ps), .val (scD w' h' qs)]).bind k) Q := by
  refine wp_call (fun x => x = .own (.lst [.list (ksD (gone ps qs)), .list (dsO (puts ps qs))])) ?_ (by rintro c rfl; exact q)
  refine wp_fn rfl ?_
  walk_at "we"
  refine wp_seqJ (fun ρ => ρ = [some (.val (scD w h ps)), some (.val (scD w' h' qs)), some (.own (.xo (.dN (tbl ps)))), none, none, none, none]) ?_ ?_
  · walk_at "wk"
    rw [sc_ix2]
    walk_at "wk"
    refine tbl_wp hp n1 (by omega) ?_
    walk_at "wk"
    rfl
  rintro ρ rfl
  refine wp_seqJ (fun ρ => ρ = [some (.val (scD w h ps)), some (.val (scD w' h' qs)), some (.own (.xo (.dN (tbl ps)))), some (.own (.xo (.dN (tbl qs)))), none, none, none]) ?_ ?_
  · walk_at "wk"
    rw [sc_ix2]
    walk_at "wk"
    refine tbl_wp hq n2 (by omega) ?_
    walk_at "wk"
    rfl
  rintro ρ rfl
  have ht : HasK (tbl qs) (qs.map Pm.k) := ⟨fun j => tbl_is j, by unfold tbl; rw [List.length_map, List.length_map]; exact Nat.le_refl _⟩
  refine wp_seqJ (fun ρ => ρ = [some (.val (scD w h ps)), some (.val (scD w' h' qs)), some (.own (.xo (.dN (tbl ps)))), some (.own (.xo (.dN (tbl qs)))), some (.own (.lst (ksD (gone ps qs)))), none, none]) ?_ ?_
  · walk_at "wk"
    rw [sc_ix2]
    walk_at "wk"
    rw [idents_r (.inl rfl) hp (by omega)]
    walk_at "wk"
    unfold ksD
    rw [List.length_map, List.length_map, if_pos (by omega), lcL_fm NestedKey.data (fun k => !decide (k ∈ qs.map Pm.k)) NestedKey.data (ps.map Pm.k) [] fun x hx => ⟨_, by walk_at "pr", by walk_at "wk"; rw [nin_d ht (hp.ks x hx) kvN_b]; walk_at "wk", fun _ => by walk_at "pr"⟩]
    walk_at "wk"
    rfl
  rintro ρ rfl
  walk_at "wk"
  rw [sc_ix2]
  walk_at "wk"
  rw [dsO_len, if_pos (by omega)]
  unfold dsO
  rw [lcL_fm Pm.d (fun q => !decide (valD (tbl ps) q.k = some q.d)) Pm.d qs [] fun p m => ⟨_, by walk_at "pr", by
    walk_at "wk"
    rw [who_cut, ← Pm.who_k (hq.ok p m).id_]
    walk_at "wk"
    rw [lkN_eq kvN_b (hq.ks _ (List.mem_map.mpr ⟨p, m, rfl⟩)).nk, get1N_s]
    walk_at "wk"
    rw [show oNe (.val ((valD (tbl ps) p.k).getD .none)) (.val p.d) = oEqD true (some ((valD (tbl ps) p.k).getD .none)) (some p.d) from rfl, get_eq hp (hq.ok p m), Bool.true_xor]
    walk_at "wk", fun _ => by walk_at "pr"⟩]
  walk_at "wk"
  rfl
theorem puts_ok {ps qs : List Pm} {B : Nat} {L : Int} (h : PsOk qs B L) : PsOk (puts ps qs) B L := h.sub fun q m => (List.mem_filter.mp m).1
theorem puts_mem {ps qs : List Pm} {q : Pm} : q ∈ puts ps qs ↔ q ∈ qs ∧ valD (tbl ps) q.k ≠ some q.d := by
  unfold puts
  rw [List.mem_filter, Bool.not_eq_true', decide_eq_false_iff_not]
theorem gone_mem {ps qs : List Pm} {k : NestedKey} : k ∈ gone ps qs ↔ k ∈ ps.map Pm.k ∧ k ∉ qs.map Pm.k := by
  unfold gone
  rw [List.mem_filter, Bool.not_eq_true', decide_eq_false_iff_not]
theorem filt_k {ps : List Pm} {f : NestedKey → Bool} {g : Pm → Bool} (h : ∀ p ∈ ps, f p.k = g p) : (ps.map Pm.k).filter f = (ps.filter g).map Pm.k := by
  rw [List.filter_map]
  congr 1
  exact List.filter_congr h
theorem before_eq {ps qs : List Pm} (n1 : (ps.map Pm.k).Nodup) (n2 : (qs.map Pm.k).Nodup) : (ps.map Pm.k).filter (fun k => !decide (k ∈ gone ps qs ++ (puts ps qs).map Pm.k)) = alK ps qs := by
  refine filt_k fun p m => ?_
  rw [← decide_not]
  refine decide_eq_decide.mpr ⟨fun h => ?_, fun h => ?_⟩
  · rw [List.mem_append, not_or, gone_mem] at h
    have : p.k ∈ qs.map Pm.k := Decidable.byContradiction fun z => h.1 ⟨List.mem_map.mpr ⟨p, m, rfl⟩, z⟩
    obtain ⟨q, hq, e⟩ := List.mem_map.mp this
    have nq : ¬valD (tbl ps) q.k ≠ some q.d := fun z => h.2 (List.mem_map.mpr ⟨q, puts_mem.mpr ⟨hq, z⟩, e⟩)
    have e2 := Decidable.not_not.mp nq
    rw [e, tbl_at n1 m] at e2
    rw [e2, ← e, tbl_at n2 hq]
  · obtain ⟨q, hq, e1, e2⟩ := tbl_some h
    rw [List.mem_append, not_or, gone_mem]
    refine ⟨fun z => z.2 (List.mem_map.mpr ⟨q, hq, e1⟩), fun z => ?_⟩
    obtain ⟨q', hq', e3⟩ := List.mem_map.mp z
    have := puts_mem.mp hq'
    have e4 := nd_inj n2 this.1 hq (e3.trans e1.symm)
    rw [e4, e1, tbl_at n1 m, e2] at this
    exact this.2 rfl
theorem after_eq {ps qs : List Pm} (n1 : (ps.map Pm.k).Nodup) (n2 : (qs.map Pm.k).Nodup) : (qs.map Pm.k).filter (fun k => !decide (k ∈ gone ps qs ++ (puts ps qs).map Pm.k)) = alK qs ps := by
  refine filt_k fun q m => ?_
  rw [← decide_not]
  refine decide_eq_decide.mpr ⟨fun h => ?_, fun h => ?_⟩
  · rw [List.mem_append, not_or] at h
    exact Decidable.byContradiction fun z => h.2 (List.mem_map.mpr ⟨q, puts_mem.mpr ⟨m, z⟩, rfl⟩)
  · rw [List.mem_append, not_or, gone_mem]
    refine ⟨fun z => z.2 (List.mem_map.mpr ⟨q, m, rfl⟩), fun z => ?_⟩
    obtain ⟨q', hq', e3⟩ := List.mem_map.mp z
    have := puts_mem.mp hq'
    have e4 := nd_inj n2 this.1 m e3
    rw [e4] at this
    exact this.2 h
theorem law_moved_wp {w h w' h' : Int} {ps qs : List Pm} {B : Nat} {L L' : Int} (hp : PsOk ps B L) (hq : PsOk qs B L') (n1 : (ps.map Pm.k).Nodup) (n2 : (qs.map Pm.k).Nodup) (lp : ps.length ≤ 200) (lq : qs.length ≤ 200) {α : Type} {k : C → M α} {Q : α → Prop}
    (q : wp (k (.own (.lst (ksD (mvK (alK ps qs) (alK qs ps)))))) Q) : wp ((f_law_moved [.val (scD w h ps), .val (scD w' h' qs)]).bind k) Q := by
  refine wp_call (fun x => x = .own (.lst (ksD (mvK (alK ps qs) (alK qs ps))))) ?_ (by rintro c rfl; exact q)
  refine wp_fn rfl ?_
  walk_at "we"
  have okp := puts_ok (ps := ps) hq
  have okg : KsOk (gone ps qs) B := hp.ks.sub fun x m => (gone_mem.mp m).1
  have lg : (gone ps qs).length ≤ 200 := by
    have := List.length_filter_le (fun k => !decide (k ∈ qs.map Pm.k)) (ps.map Pm.k)
    rw [List.length_map] at this
    exact Nat.le_trans this lp
  have lpu : (puts ps qs).length ≤ 200 := Nat.le_trans (List.length_filter_le _ _) lq
  have be := before_eq n1 n2
  have af := after_eq n1 n2
  refine wp_seqJ (fun ρ => ρ = [some (.val (scD w h ps)), some (.val (scD w' h' qs)), some (.own (.lst [.list (ksD (gone ps qs)), .list (dsO (puts ps qs))])), none, none, none, none, none, none]) ?_ ?_
  · walk_at "wk"
    refine changes_wp hp hq n1 n2 lp lq ?_
    walk_at "wk"
    rfl
  rintro ρ rfl
  refine wp_seqJ (fun ρ => ∃ o, HasK o (gone ps qs ++ (puts ps qs).map Pm.k) ∧ ρ = [some (.val (scD w h ps)), some (.val (scD w' h' qs)), some (.own (.lst [.list (ksD (gone ps qs)), .list (dsO (puts ps qs))])), some (.own (.xo (.dN o))), none, none, none, none, none]) ?_ ?_
  · walk_at "wk"
    rw [idents_l okp (by omega)]
    walk_at "wk"
    rw [if_pos (by rw [ksD_len, ksD_len, List.length_map]; omega), ← ksD_app]
    walk_at "wk"
    refine marked_wp (.inr rfl) (okg.app okp.ks) (by rw [List.length_append, List.length_map]; omega) fun o ho => ?_
    walk_at "wk"
    exact ⟨o, ho, rfl⟩
  rintro ρ ⟨o, ho, rfl⟩
  generalize gone ps qs ++ (puts ps qs).map Pm.k = out at ho be af
  refine wp_seqJ (fun ρ => ρ = [some (.val (scD w h ps)), some (.val (scD w' h' qs)), some (.own (.lst [.list (ksD (gone ps qs)), .list (dsO (puts ps qs))])), some (.own (.xo (.dN o))), some (.own (.lst (ksD (alK ps qs)))), none, none, none, none]) ?_ ?_
  · walk_at "wk"
    rw [sc_ix2]
    walk_at "wk"
    rw [idents_r (.inl rfl) hp (by omega)]
    walk_at "wk"
    rw [← be]
    unfold ksD
    rw [List.length_map, List.length_map, if_pos (by omega), lcL_fm NestedKey.data (fun k => !decide (k ∈ out)) NestedKey.data (ps.map Pm.k) [] fun x hx => ⟨_, by walk_at "pr", by walk_at "wk"; rw [nin_d ho (hp.ks x hx) kvN_b]; walk_at "wk", fun _ => by walk_at "pr"⟩]
    walk_at "wk"
    rfl
  rintro ρ rfl
  refine wp_seqJ (fun ρ => ρ = [some (.val (scD w h ps)), some (.val (scD w' h' qs)), some (.own (.lst [.list (ksD (gone ps qs)), .list (dsO (puts ps qs))])), some (.own (.xo (.dN o))), some (.own (.lst (ksD (alK ps qs)))), none, some (.own (.lst (ksD (alK qs ps)))), none, none]) ?_ ?_
  · walk_at "wk"
    rw [sc_ix2]
    walk_at "wk"
    rw [idents_r (.inl rfl) hq (by omega)]
    walk_at "wk"
    rw [← af]
    unfold ksD
    rw [List.length_map, List.length_map, if_pos (by omega), lcL_fm NestedKey.data (fun k => !decide (k ∈ out)) NestedKey.data (qs.map Pm.k) [] fun x hx => ⟨_, by walk_at "pr", by walk_at "wk"; rw [nin_d ho (hq.ks x hx) kvN_b]; walk_at "wk", fun _ => by walk_at "pr"⟩]
    walk_at "wk"
    rfl
  rintro ρ rfl
  have kb : KsOk (alK ps qs) B := alK_ks hp
  have ka : KsOk (alK qs ps) B := alK_ks hq
  have la := alK_len ps qs
  have ll : (alK ps qs).length = (alK qs ps).length := (alK_perm n1 n2).length_eq
  clear be af
  generalize alK ps qs = b at kb la ll ⊢
  generalize alK qs ps = a at ka ll ⊢
  refine wp_seqJ (fun ρ => ρ = [some (.val (scD w h ps)), some (.val (scD w' h' qs)), some (.own (.lst [.list (ksD (gone ps qs)), .list (dsO (puts ps qs))])), some (.own (.xo (.dN o))), some (.own (.lst (ksD b))), none, some (.own (.lst (ksD a))), some (.own (.lst (nats (dif b a)))), none]) ?_ ?_
  · walk_at "wk"
    rw [ksD_len, if_pos (rngOk_ok (by omega) (by omega))]
    walk_at "wk"
    rw [Int.toNat_natCast, rng_nats]
    rw [nats_len, List.length_range, if_pos (by omega)]
    rw [dif_lc kb ka ll fun i hi => ⟨_, by walk_at "pr", ⟨_, key_eq (kb _ (List.getElem_mem hi)) (ka _ (List.getElem_mem (by omega))), by
      walk_at "wk"
      rw [atD_ks hi]
      walk_at "wk"
      rw [atD_ks (by omega)]
      walk_at "wk"
      rw [show oNe (.val (b[i]).data) (.val (a[i]'(by omega)).data) = oEqD true (some (b[i]).data) (some (a[i]'(by omega)).data) from rfl, key_eq (kb _ (List.getElem_mem hi)) (ka _ (List.getElem_mem (by omega)))]
      walk_at "wk"⟩, by walk_at "pr"⟩]
    walk_at "wk"
    rfl
  rintro ρ rfl
  by_cases ne : dif b a = []
  · rw [mvK_nil ne, ne, show nats [] = [] from rfl]
    walk_at "wk"
    rw [show ([] : List PyData).isEmpty = true from rfl]
    walk_at "wk"
    try rfl
  obtain ⟨f, l, d⟩ := difs ll ne
  rw [mvK_at d]
  walk_at "wk"
  have em : (nats (dif b a)).isEmpty = false := by
    cases e : dif b a with
    | nil => exact absurd e ne
    | cons x xs => rfl
  have fl := d.le
  have llt := d.lt
  have dp : 0 < (dif b a).length := List.length_pos_iff.mpr ne
  rw [em]
  walk_at "wk"
  rw [nats_0 d.d0]
  walk_at "wk"
  rw [nats_len, show ((dif b a).length : Int) - 1 = (((dif b a).length - 1 : Nat) : Int) by omega, nats_at d.d1]
  walk_at "wk"
  rw [show ((l : Int) + 1) = ((l + 1 : Nat) : Int) from rfl, cutT_both (by rw [ksD_len]; omega) (by rw [ksD_len]; omega), ksD_drop, ksD_take]

open Classical
theorem in_ps {ps qs : List Pm} {B : Nat} {L L' : Int} (hp : PsOk ps B L) (hq : PsOk qs B L') (n2 : (qs.map Pm.k).Nodup) (lq : qs.length ≤ 200) {p : Pm} (m : p ∈ ps) : oIn (.val p.d) (.val (.tuple (dsO qs))) = .ret (.val (.bool (decide (valD (tbl qs) p.k = some p.d)))) := by
  have hx := hp.ok p m
  rw [show oIn (.val p.d) (.val (.tuple (dsO qs))) = oInD false p.d (dsO qs) from rfl, oInD_has (pm_shaped hx) (hq.sz.lst.shaped (by decide)), Bool.false_xor]
  congr 4
  have := hasD_iff (pmD_cln hx) (dsO_cln hq)
  by_cases c : valD (tbl qs) p.k = some p.d
  · rw [decide_eq_true c]
    obtain ⟨q, h1, h2, h3⟩ := tbl_some c
    exact this.mpr (List.mem_map.mpr ⟨q, h1, h3⟩)
  · rw [decide_eq_false c]
    cases e : hasD p.d (dsO qs) with
    | false => rfl
    | true =>
      obtain ⟨q, h1, h2⟩ := List.mem_map.mp (this.mp e)
      refine absurd ?_ c
      rw [← d_inj h2, ← h2]
      exact tbl_at n2 h1
theorem idx_ks {b : List NestedKey} {B : Nat} (h : KsOk b B) (nd : b.Nodup) (lb : b.length ≤ 700) {f : Nat} (hf : f < b.length) : idxD (b[f]).data (ksD b) = .ret (.val (.int (f : Int))) := by
  have hk := h _ (List.getElem_mem hf)
  have e : idx (b[f]).data (ksD b) = some f := by
    unfold idx
    rw [List.findIdx?_eq_some_iff_getElem]
    refine ⟨by rw [ksD_len]; exact hf, ?_, fun j hj => ?_⟩
    · unfold ksD
      rw [List.getElem_map]
      exact (eqv_cln _ _ hk.cln_ hk.cln_).mpr rfl
    · have hj2 : j < b.length := by omega
      have kj := h _ (List.getElem_mem hj2)
      unfold ksD
      rw [List.getElem_map]
      intro z
      have := (KOk.inj kj hk).mp ((eqv_cln _ _ kj.cln_ hk.cln_).mp z)
      exact List.pairwise_iff_getElem.mp nd j f hj2 hf hj this
  unfold idxD
  rw [if_pos (by rw [hk.sz.shaped (by decide), (h.who.sz (by rw [ksD_len]; exact lb)).shaped (by decide)]; rfl), e]
theorem ks_rep {ks : List NestedKey} {B : Nat} (h : KsOk ks B) (hl : ks.length ≤ 200) : repD1 (.tuple (ksD ks)) = .ret (.val (.str (PyData.tuple (ksD ks)).shown)) := by
  refine repr_ok (Sz.rep (n := 2) (c := 16000000) ?_ (by decide) (by decide))
  have a : SzA (ksD ks) 1 ((20000 + 2) * (ksD ks).length) := SzA.all fun d m => by
    obtain ⟨k, hk, rfl⟩ := List.mem_map.mp m
    exact (h k hk).sz
  refine a.tup.mono (by decide) ?_
  rw [ksD_len]
  have : (20000 + 2) * ks.length ≤ (20000 + 2) * 200 := Nat.mul_le_mul_left _ hl
  omega
theorem mvK_sub {b a : List NestedKey} : ∀ k ∈ mvK b a, k ∈ b := by
  intro k m
  unfold mvK at m
  split at m
  · exact nomatch m
  · exact List.mem_of_mem_drop (List.mem_of_mem_take m)
theorem mvK_len {b a : List NestedKey} : (mvK b a).length ≤ b.length := by
  unfold mvK
  split
  · exact Nat.zero_le _
  · rw [List.length_take, List.length_drop]
    omega
theorem law_true : wp (m_law ([none, some .tape] ++ List.replicate 8 none)) (fun r => r = .rt (.val (.bool true))) := by
  unfold m_law
  refine wp_seqJ (fun ρ => ∃ (w h : Int) (ps : List Pm), PsOk ps 160 300 ∧ ps.length ≤ 9 ∧ (ps.map Pm.k).Nodup ∧ (0 ≤ w ∧ w ≤ 100) ∧ (0 ≤ h ∧ h ≤ 100) ∧ ρ = [none, some .tape, some (.val (scD w h ps)), none, none, none, none, none, none, none]) ?_ ?_
  · walk_at "wk"
    refine wp_drawn (by decide) fun w w0 w1 => ?_
    walk_at "wk"
    refine wp_drawn (by decide) fun h h0 h1 => ?_
    walk_at "wk"
    refine wp_drawn (by decide) fun n n0 n1 => ?_
    walk_at "wk"
    refine scene_wp (by decide) (by decide) n0 (by omega) fun ps h1 h2 h3 => ?_
    walk_at "wk"
    exact ⟨w, h, ps, h1, by omega, h3, by omega, by omega, rfl⟩
  rintro ρ ⟨w, h, ps, ok, pl, n1, w0, h0, rfl⟩
  refine wp_seqJ (fun ρ => ∃ (w' h' : Int) (qs : List Pm), PsOk qs 166 301 ∧ qs.length ≤ 11 ∧ (qs.map Pm.k).Nodup ∧ ρ = [none, some .tape, some (.val (scD w h ps)), some (.val (scD w' h' qs)), none, none, none, none, none, none]) ?_ ?_
  · walk_at "wk"
    refine next_wp ok n1 (by omega) (by decide) (by decide) (by decide) (by decide) (by decide) (by decide) w0 h0 fun w' h' qs h1 h2 h3 _ _ => ?_
    walk_at "wk"
    exact ⟨w', h', qs, h1, by omega, h2, rfl⟩
  rintro ρ ⟨w', h', qs, okq, ql, n2, rfl⟩
  have ok2 : PsOk ps 166 300 := ok.mono (by omega)
  refine wp_seqJ (fun ρ => ρ = [none, some .tape, some (.val (scD w h ps)), some (.val (scD w' h' qs)), some (.val (.tuple (ksD (mvK (alK ps qs) (alK qs ps))))), none, none, none, none, none]) ?_ ?_
  · walk_at "wk"
    refine moved_eq ok2 okq n1 n2 (by omega) (by omega) ?_
    walk_at "wk"
    rfl
  rintro ρ rfl
  have kb : KsOk (alK ps qs) 166 := alK_ks ok2
  have ka : KsOk (alK qs ps) 166 := alK_ks okq
  have la := alK_len ps qs
  have ll : (alK ps qs).length = (alK qs ps).length := (alK_perm n1 n2).length_eq
  have ndb : (alK ps qs).Nodup := alK_nodup n1
  have km : KsOk (mvK (alK ps qs) (alK qs ps)) 166 := kb.sub mvK_sub
  have lm : (mvK (alK ps qs) (alK qs ps)).length ≤ (alK ps qs).length := mvK_len
  refine wp_seqJ (fun ρ => ρ = [none, some .tape, some (.val (scD w h ps)), some (.val (scD w' h' qs)), some (.val (.tuple (ksD (mvK (alK ps qs) (alK qs ps))))), none, none, none, none, none]) ?_ ?_
  · walk_at "wk"
    rw [ks_rep km (by omega)]
    walk_at "wk"
    refine law_moved_wp ok2 okq n1 n2 (by omega) (by omega) ?_
    walk_at "wk"
    rw [ks_rep km (by omega)]
    walk_at "wk"
    rfl
  rintro ρ rfl
  refine wp_seqJ (fun ρ => ρ = [none, some .tape, some (.val (scD w h ps)), some (.val (scD w' h' qs)), some (.val (.tuple (ksD (mvK (alK ps qs) (alK qs ps))))), some (.own (.lst (ksD (alK ps qs)))), none, none, none, none]) ?_ ?_
  · walk_at "wk"
    rw [sc_ix2]
    walk_at "wk"
    rw [dsO_len, if_pos (by omega)]
    unfold dsO
    rw [lcL_fm Pm.d (fun p => decide (valD (tbl qs) p.k = some p.d)) (fun p : Pm => p.k.data) ps [] fun p m => ⟨_, by walk_at "pr", by
      walk_at "wk"
      rw [sc_ix2]
      walk_at "wk"
      rw [in_ps ok2 okq n2 (by omega) m]
      walk_at "wk", fun _ => by
        walk_at "wk"
        rw [who_cut, Pm.who_k (ok2.ok p m).id_]⟩]
    rw [alK_d]
    walk_at "wk"
    rfl
  rintro ρ rfl
  refine wp_seqJ (fun ρ => ρ = [none, some .tape, some (.val (scD w h ps)), some (.val (scD w' h' qs)), some (.val (.tuple (ksD (mvK (alK ps qs) (alK qs ps))))), some (.own (.lst (ksD (alK ps qs)))), none, some (.own (.lst (ksD (alK qs ps)))), none, none]) ?_ ?_
  · walk_at "wk"
    rw [sc_ix2]
    walk_at "wk"
    rw [dsO_len, if_pos (by omega)]
    unfold dsO
    rw [lcL_fm Pm.d (fun p => decide (valD (tbl ps) p.k = some p.d)) (fun p : Pm => p.k.data) qs [] fun p m => ⟨_, by walk_at "pr", by
      walk_at "wk"
      rw [sc_ix2]
      walk_at "wk"
      rw [in_ps okq ok2 n1 (by omega) m]
      walk_at "wk", fun _ => by
        walk_at "wk"
        rw [who_cut, Pm.who_k (okq.ok p m).id_]⟩]
    rw [alK_d]
    walk_at "wk"
    rfl
  rintro ρ rfl
  generalize alK ps qs = b at *
  generalize alK qs ps = a at *
  by_cases ne : dif b a = []
  · have e := dif_nil ll ne
    rw [mvK_nil ne]
    subst e
    walk_at "wk"
    rw [show (ksD []).isEmpty = true from rfl]
    walk_at "wk"
    rw [show oEq (.bor (.lst (ksD b))) (.bor (.lst (ksD b))) = oEqD false (some (.list (ksD b))) (some (.list (ksD b))) from rfl, keys_eq kb kb (by omega) (by omega), decide_eq_true rfl]
    walk_at "wk"
  obtain ⟨f, l, d⟩ := difs ll ne
  rw [mvK_at d] at km ⊢
  have fl := d.le
  have llt := d.lt
  generalize hm : (b.drop f).take (l + 1 - f) = m at km ⊢
  have hml : m.length = l + 1 - f := by rw [← hm, List.length_take, List.length_drop]; omega
  have me : (ksD m).isEmpty = false := by
    cases m with
    | nil => simp only [List.length_nil] at hml; omega
    | cons x xs => rfl
  have m0 : atD (ksD m) 0 = .ret (.val (b[f]'(by omega)).data) := by
    have := atD_ks (ks := m) (i := 0) (by omega)
    rw [show (((0 : Nat) : Int)) = 0 from rfl] at this
    rw [this]
    have : m[0]? = some (b[f]'(by omega)) := by rw [← hm, List.getElem?_take, if_pos (by omega), List.getElem?_drop, Nat.add_zero, List.getElem?_eq_getElem]
    rw [List.getElem?_eq_getElem (by omega)] at this
    rw [Option.some.inj this]
  refine wp_seqJ (fun ρ => ρ = [none, some .tape, some (.val (scD w h ps)), some (.val (scD w' h' qs)), some (.val (.tuple (ksD m))), some (.own (.lst (ksD b))), none, some (.own (.lst (ksD a))), none, none]) ?_ ?_
  · walk_at "wk"
    rw [me]
    walk_at "wk"
    rfl
  rintro ρ rfl
  refine wp_seqJ (fun ρ => ρ = [none, some .tape, some (.val (scD w h ps)), some (.val (scD w' h' qs)), some (.val (.tuple (ksD m))), some (.own (.lst (ksD b))), none, some (.own (.lst (ksD a))), some (.val (.int (f : Int))), none]) ?_ ?_
  · walk_at "wk"
    rw [m0]
    walk_at "wk"
    rw [idx_ks kb ndb (by omega) (by omega)]
    walk_at "wk"
    rfl
  rintro ρ rfl
  refine wp_seqJ (fun ρ => ρ = [none, some .tape, some (.val (scD w h ps)), some (.val (scD w' h' qs)), some (.val (.tuple (ksD m))), some (.own (.lst (ksD b))), none, some (.own (.lst (ksD a))), some (.val (.int (f : Int))), some (.val (.int ((l + 1 : Nat) : Int)))]) ?_ ?_
  · walk_at "wk"
    rw [ksD_len, hml, show (f : Int) + ((l + 1 - f : Nat) : Int) = ((l + 1 : Nat) : Int) by omega]
    rfl
  rintro ρ rfl
  have e1 : b.take f = a.take f := by
    refine List.ext_getElem? fun i => ?_
    rw [List.getElem?_take, List.getElem?_take]
    split
    · rename_i c
      exact d.pre i c
    · rfl
  have e2 : b.drop (l + 1) = a.drop (l + 1) := by
    refine List.ext_getElem? fun i => ?_
    rw [List.getElem?_drop, List.getElem?_drop]
    exact d.post _ (by omega)
  have nf : ¬b[f]'(by omega) = a[f]'(by omega) := fun z => d.nf (by rw [List.getElem?_eq_getElem (by omega), List.getElem?_eq_getElem (by omega), z])
  have nl : ¬b[l]'(by omega) = a[l]'(by omega) := fun z => d.nl (by rw [List.getElem?_eq_getElem (by omega), List.getElem?_eq_getElem (by omega), z])
  have same : ∀ {x : List NestedKey}, KsOk x 166 → x.length ≤ 700 → oNe (.own (.lst (ksD x))) (.own (.lst (ksD x))) = .ret (.val (.bool false)) := fun {x} hx lx => by
    rw [show oNe (.own (.lst (ksD x))) (.own (.lst (ksD x))) = oEqD true (some (.list (ksD x))) (some (.list (ksD x))) from rfl, keys_eq hx hx lx lx, decide_eq_true rfl]
    rfl
  refine wp_seqJ (fun ρ => ρ = [none, some .tape, some (.val (scD w h ps)), some (.val (scD w' h' qs)), some (.val (.tuple (ksD m))), some (.own (.lst (ksD b))), none, some (.own (.lst (ksD a))), some (.val (.int (f : Int))), some (.val (.int ((l + 1 : Nat) : Int)))]) ?_ ?_
  · walk_at "wk"
    rw [cutT_to (by rw [ksD_len]; omega), cutT_to (by rw [ksD_len]; omega), ksD_take, ksD_take, ← e1, same (kb.sub fun x m => List.mem_of_mem_take m) (by rw [List.length_take]; omega)]
    walk_at "wk"
    rw [cutT_from (by rw [ksD_len]; omega), cutT_from (by rw [ksD_len]; omega), ksD_drop, ksD_drop, ← e2, same (kb.sub fun x m => List.mem_of_mem_drop m) (by rw [List.length_drop]; omega)]
    walk_at "wk"
    rw [cutT_both (by rw [ksD_len]; omega) (by rw [ksD_len]; omega), ksD_drop, ksD_take, hm, same km (by omega)]
    walk_at "wk"
    rfl
  rintro ρ rfl
  have key : ∀ {i : Nat} (hi : i < b.length), ¬b[i] = a[i]'(by omega) → oNe (.val (b[i]).data) (.val (a[i]'(by omega)).data) = .ret (.val (.bool true)) := fun {i} hi n => by
    rw [show oNe (.val (b[i]).data) (.val (a[i]'(by omega)).data) = oEqD true (some (b[i]).data) (some (a[i]'(by omega)).data) from rfl, key_eq (kb _ (List.getElem_mem hi)) (ka _ (List.getElem_mem (by omega))), decide_eq_false n]
    rfl
  walk_at "wk"
  rw [atD_ks (by omega)]
  walk_at "wk"
  rw [atD_ks (by omega)]
  walk_at "wk"
  rw [key (by omega) nf]
  walk_at "wk"
  rw [show ((l + 1 : Nat) : Int) - 1 = (l : Int) by omega, atD_ks (by omega)]
  walk_at "wk"
  rw [atD_ks (by omega)]
  walk_at "wk"
  rw [key (by omega) nl]
  walk_at "wk"

section
variable {K : PySem.W.Frag} [WP K] {mg : Str → Option Value} {base : Heap}
theorem fn_law {f : Addr} {fd : FuncData} (M : Blt mg) (F : Fun K "law" "law" s_law f fd) (D_law_tape : Df (WP.P K) (WP.w K) K mg base 1 "_law_tape" ["script"] (sp_law_tape K)) (D_law_scene : Df (WP.P K) (WP.w K) K mg base 5 "_law_scene" ["tape", "width", "height", "room", "many"] (spU K f_law_scene)) (D_law_next_scene : Df (WP.P K) (WP.w K) K mg base 5 "_law_next_scene" ["tape", "scene", "room"] (spU K f_law_next_scene)) (D_moved : Df (WP.P K) (WP.w K) K mg base 3 "moved" ["first", "second"] (spU K f_moved)) (D_law_draw : Df (WP.P K) (WP.w K) K mg base 1 "_law_draw" ["tape", "many"] (sp_law_draw K)) (D_law_moved : Df (WP.P K) (WP.w K) K mg base 3 "_law_moved" ["first", "second"] (spU K f_law_moved)) : FnG (WP.P K) (WP.w K) K mg base 6 f fd ["script"] (spLaw K) := by
  have nd := sc_law.nd
  refine FnG.of F sc_law (fun vs H Q E h => ?_) (fun cdv A out s H vs Q E hr hgd h => ?_)
  · obtain ⟨a, ns, rfl, _⟩ := h
    rfl
  · obtain ⟨a, ns, rfl, hS, hlen, q⟩ := h
    refine ⟨_, pss_cons (ps_set (i := 1) nd rfl (Or.inl rfl) (pe_df D_law_tape (hr.mono (by decide)) hgd rfl (pa_cons (pv 0) pa_nil)))
      (pss_cons (ps_set (i := 2) nd rfl (Or.inr rfl) (pe_df D_law_scene (hr.mono (by decide)) hgd rfl (pa_cons (pv 1) (pa_cons (pe_df D_law_draw (hr.mono (by decide)) hgd rfl (pa_cons (pv 1) (pa_cons pe_int pa_nil))) (pa_cons (pe_df D_law_draw (hr.mono (by decide)) hgd rfl (pa_cons (pv 1) (pa_cons pe_int pa_nil))) (pa_cons pe_int (pa_cons (pe_df D_law_draw (hr.mono (by decide)) hgd rfl (pa_cons (pv 1) (pa_cons pe_int pa_nil))) pa_nil)))))))
      (pss_cons (ps_set (i := 3) nd rfl (Or.inr rfl) (pe_df D_law_next_scene (hr.mono (by decide)) hgd rfl (pa_cons (pv 1) (pa_cons (pv 2) (pa_cons pe_int pa_nil)))))
      (pss_cons (ps_set (i := 4) nd rfl (Or.inl rfl) (pe_df D_moved (hr.mono (by decide)) hgd rfl (pa_cons (pv 2) (pa_cons (pv 3) pa_nil))))
      (pss_cons (ps_if (pt_cmpR (opNe K hr.units) (pe_callB (reprK K hr.units hgd) (by rfl) M.repr (by decide +kernel) (pa_cons (pv 4) pa_nil)) (pe_callB (reprK K hr.units hgd) (by rfl) M.repr (by decide +kernel) (pa_cons (pe_callTy (tupK K) (by rfl) M.tuple (by decide +kernel) (pa_cons (pe_df D_law_moved (hr.mono (by decide)) hgd rfl (pa_cons (pv 2) (pa_cons (pv 3) pa_nil))) pa_nil)) pa_nil)) (nomark _)) (pss_one (ps_ret pe_bl)) pss_nil)
      (pss_cons (ps_setLc (i := 5) (own := [("item", 6)]) (g := (gName 6)) rfl nd rfl rfl (sw_true rfl rfl rfl (by decide +kernel)) (pi_seq K (pe_ix (ixU K) (pv 2) pe_int (fun _ _ => rfl))) (blkOk_by (N := ["script", "tape", "first", "second", "told", "before", "item", "after", "at", "end"]) (sc := (defScope s_law)) (by decide +kernel)) (fun _ _ _ _ _ => (pg_name (i := 6) nd rfl (Or.inl rfl))) (fun _ _ _ _ _ => (pts_one (pt_cmpR (opIn K (u65 hr)) (pv 6) (pe_ix (ixU K) (pv 3) pe_int (fun _ _ => rfl)) rfl))) (fun _ _ _ _ _ => (pe_slice (slU K) (pv 6) po_none (po_some pe_int))))
      (pss_cons (ps_setLc (i := 7) (own := [("item", 6)]) (g := (gName 6)) rfl nd rfl rfl (sw_true rfl rfl rfl (by decide +kernel)) (pi_seq K (pe_ix (ixU K) (pv 3) pe_int (fun _ _ => rfl))) (blkOk_by (N := ["script", "tape", "first", "second", "told", "before", "item", "after", "at", "end"]) (sc := (defScope s_law)) (by decide +kernel)) (fun _ _ _ _ _ => (pg_name (i := 6) nd rfl (Or.inl rfl))) (fun _ _ _ _ _ => (pts_one (pt_cmpR (opIn K (u65 hr)) (pv 6) (pe_ix (ixU K) (pv 2) pe_int (fun _ _ => rfl)) rfl))) (fun _ _ _ _ _ => (pe_slice (slU K) (pv 6) po_none (po_some pe_int))))
      (pss_cons (ps_if (pt_not (truK K (pv 4))) (pss_one (ps_ret (pe_cmpR (opEq K hr.units) (pv 5) (pv 7) (nomark _)))) pss_nil)
      (pss_cons (ps_set (i := 8) nd rfl (Or.inl rfl) (pe_bm PySem.F.plainAttrs_list PySem.F.slot_list_index PySem.F.type_list_index (mtIxL K (u65 hr)) (pv 5) (pa_cons (pe_ix (ixU K) (pv 4) pe_int (fun _ _ => rfl)) pa_nil)))
      (pss_cons (ps_set (i := 9) nd rfl (Or.inl rfl) (pe_op (opAdd K) (pv 8) (pe_callB (lenK K) (by rfl) M.len (by decide +kernel) (pa_cons (pv 4) pa_nil))))
      (pss_cons (ps_if (PW.pt (pw_or (pt_cmpR (opNe K hr.units) (pe_slice (slU K) (pv 5) po_none (po_some (pv 8))) (pe_slice (slU K) (pv 7) po_none (po_some (pv 8))) (nomark _)) (pw_or (pt_cmpR (opNe K hr.units) (pe_slice (slU K) (pv 5) (po_some (pv 9)) po_none) (pe_slice (slU K) (pv 7) (po_some (pv 9)) po_none) (nomark _)) (pw_or1 (pt_cmpR (opNe K hr.units) (pe_slice (slU K) (pv 5) (po_some (pv 8)) (po_some (pv 9))) (pe_callTy (listK K) (by rfl) M.list (by decide +kernel) (pa_cons (pv 4) pa_nil)) (nomark _)))))) (pss_one (ps_ret pe_bl)) pss_nil)
      (pss_one (ps_ret (andT K (pe_cmpR (opNe K hr.units) (pe_ix (ixU K) (pv 5) (pv 8) (fun _ _ => rfl)) (pe_ix (ixU K) (pv 7) (pv 8) (fun _ _ => rfl)) (nomark _)) (pe_one (pe_cmpR (opNe K hr.units) (pe_ix (ixU K) (pv 5) (pe_op op_sub (pv 9) pe_int) (fun _ _ => rfl)) (pe_ix (ixU K) (pv 7) (pe_op op_sub (pv 9) pe_int) (fun _ _ => rfl)) (nomark _)))))))))))))))), at_start (σ := [some (.ref a), none] ++ List.replicate 8 none) rfl ?_⟩
    exact law_go (k := 8) (m := m_law) (ns := ns)
      (rs_seq (rs_asg (re_fn (ra_cons (re_var (i := 1)) (ra_cons (re_draw (ra_cons (re_var (i := 1)) (ra_cons re_int ra_nil))) (ra_cons (re_draw (ra_cons (re_var (i := 1)) (ra_cons re_int ra_nil))) (ra_cons re_int (ra_cons (re_draw (ra_cons (re_var (i := 1)) (ra_cons re_int ra_nil))) ra_nil)))))) (rg_name (i := 2)))
      (rs_seq (rs_asg (re_fn (ra_cons (re_var (i := 1)) (ra_cons (re_var (i := 2)) (ra_cons re_int ra_nil)))) (rg_name (i := 3)))
      (rs_seq (rs_asg (re_fn (ra_cons (re_var (i := 2)) (ra_cons (re_var (i := 3)) ra_nil))) (rg_name (i := 4)))
      (rs_seq (rs_if (rt_test (re_op os_ne (re_call cs_repr (ra_cons (re_var (i := 4)) ra_nil)) (re_call cs_repr (ra_cons (re_call cs_tuple (ra_cons (re_fn (ra_cons (re_var (i := 2)) (ra_cons (re_var (i := 3)) ra_nil))) ra_nil)) ra_nil)))) (rs_ret re_bl) rs_next)
      (rs_seq (rs_asg (re_lc (s := false) (ri_seq (s := false) (re_op os_ix (re_var (i := 2)) re_int)) (rg_name (i := 6)) (rt_test (re_op os_in (re_var (i := 6)) (re_op os_ix (re_var (i := 3)) re_int))) (re_sl (re_var (i := 6)) ro_no (ro_some re_int)) (by decide)) (rg_name (i := 5)))
      (rs_seq (rs_asg (re_lc (s := false) (ri_seq (s := false) (re_op os_ix (re_var (i := 3)) re_int)) (rg_name (i := 6)) (rt_test (re_op os_in (re_var (i := 6)) (re_op os_ix (re_var (i := 2)) re_int))) (re_sl (re_var (i := 6)) ro_no (ro_some re_int)) (by decide)) (rg_name (i := 7)))
      (rs_seq (rs_if (rt_not (rt_tru (re_var (i := 4)))) (rs_ret (re_op os_eq (re_var (i := 5)) (re_var (i := 7)))) rs_next)
      (rs_seq (rs_asg (re_idxL (re_var (i := 5)) (ra_cons (re_op os_ix (re_var (i := 4)) re_int) ra_nil)) (rg_name (i := 8)))
      (rs_seq (rs_asg (re_op os_add (re_var (i := 8)) (re_call cs_len (ra_cons (re_var (i := 4)) ra_nil))) (rg_name (i := 9)))
      (rs_seq (rs_if (rt_or (rt_test (re_op os_ne (re_sl (re_var (i := 5)) ro_no (ro_some (re_var (i := 8)))) (re_sl (re_var (i := 7)) ro_no (ro_some (re_var (i := 8)))))) (rt_or (rt_test (re_op os_ne (re_sl (re_var (i := 5)) (ro_some (re_var (i := 9))) ro_no) (re_sl (re_var (i := 7)) (ro_some (re_var (i := 9))) ro_no))) (rt_test (re_op os_ne (re_sl (re_var (i := 5)) (ro_some (re_var (i := 8))) (ro_some (re_var (i := 9)))) (re_call cs_list (ra_cons (re_var (i := 4)) ra_nil)))))) (rs_ret re_bl) rs_next)
      (rs_ret (re_and (re_op os_ne (re_op os_ix (re_var (i := 5)) (re_var (i := 8))) (re_op os_ix (re_var (i := 7)) (re_var (i := 8)))) (re_op os_ne (re_op os_ix (re_var (i := 5)) (re_op os_sub (re_var (i := 9)) re_int)) (re_op os_ix (re_var (i := 7)) (re_op os_sub (re_var (i := 9)) re_int)))))))))))))))
      hS hlen (wp_out law_true) q
end

theorem all_mk {l : PySem.W.OpenLaw} {w : World} {K : PySem.W.Frag} {h : Heap} {mg : Str → Option Value} {fa : Addr} (X : K.In h) (G : h.Ns mainGlobals mg) (hfa : mg "law" = some (.ref fa))
    {f_identity f_moved f_by_identity f_law_tape f_law_draw f_law_word f_law_color f_law_form f_law_clip f_law_identity f_law_new_identity f_law_primitive f_law_identities f_law_scene f_law_changed_item f_law_turned_items f_law_next_scene f_law_table f_law_marked f_law_changes f_law_moved f_law : Addr}
    {od_identity an_identity : Option Addr} {sl_identity : Array (Option Value)} {oc_identity kV_identity dc_identity pm_identity cd_identity ct_identity : Value}
    {od_moved an_moved : Option Addr} {sl_moved : Array (Option Value)} {oc_moved kV_moved dc_moved pm_moved cd_moved ct_moved : Value}
    {od_by_identity an_by_identity : Option Addr} {sl_by_identity : Array (Option Value)} {oc_by_identity kV_by_identity dc_by_identity pm_by_identity cd_by_identity ct_by_identity : Value}
    {od_law_tape an_law_tape : Option Addr} {sl_law_tape : Array (Option Value)} {oc_law_tape kV_law_tape dc_law_tape pm_law_tape cd_law_tape ct_law_tape : Value}
    {od_law_draw an_law_draw : Option Addr} {sl_law_draw : Array (Option Value)} {oc_law_draw kV_law_draw dc_law_draw pm_law_draw cd_law_draw ct_law_draw : Value}
    {od_law_word an_law_word : Option Addr} {sl_law_word : Array (Option Value)} {oc_law_word kV_law_word dc_law_word pm_law_word cd_law_word ct_law_word : Value}
    {od_law_color an_law_color : Option Addr} {sl_law_color : Array (Option Value)} {oc_law_color kV_law_color dc_law_color pm_law_color cd_law_color ct_law_color : Value}
    {od_law_form an_law_form : Option Addr} {sl_law_form : Array (Option Value)} {oc_law_form kV_law_form dc_law_form pm_law_form cd_law_form ct_law_form : Value}
    {od_law_clip an_law_clip : Option Addr} {sl_law_clip : Array (Option Value)} {oc_law_clip kV_law_clip dc_law_clip pm_law_clip cd_law_clip ct_law_clip : Value}
    {od_law_identity an_law_identity : Option Addr} {sl_law_identity : Array (Option Value)} {oc_law_identity kV_law_identity dc_law_identity pm_law_identity cd_law_identity ct_law_identity : Value}
    {od_law_new_identity an_law_new_identity : Option Addr} {sl_law_new_identity : Array (Option Value)} {oc_law_new_identity kV_law_new_identity dc_law_new_identity pm_law_new_identity cd_law_new_identity ct_law_new_identity : Value}
    {od_law_primitive an_law_primitive : Option Addr} {sl_law_primitive : Array (Option Value)} {oc_law_primitive kV_law_primitive dc_law_primitive pm_law_primitive cd_law_primitive ct_law_primitive : Value}
    {od_law_identities an_law_identities : Option Addr} {sl_law_identities : Array (Option Value)} {oc_law_identities kV_law_identities dc_law_identities pm_law_identities cd_law_identities ct_law_identities : Value}
    {od_law_scene an_law_scene : Option Addr} {sl_law_scene : Array (Option Value)} {oc_law_scene kV_law_scene dc_law_scene pm_law_scene cd_law_scene ct_law_scene : Value}
    {od_law_changed_item an_law_changed_item : Option Addr} {sl_law_changed_item : Array (Option Value)} {oc_law_changed_item kV_law_changed_item dc_law_changed_item pm_law_changed_item cd_law_changed_item ct_law_changed_item : Value}
    {od_law_turned_items an_law_turned_items : Option Addr} {sl_law_turned_items : Array (Option Value)} {oc_law_turned_items kV_law_turned_items dc_law_turned_items pm_law_turned_items cd_law_turned_items ct_law_turned_items : Value}
    {od_law_next_scene an_law_next_scene : Option Addr} {sl_law_next_scene : Array (Option Value)} {oc_law_next_scene kV_law_next_scene dc_law_next_scene pm_law_next_scene cd_law_next_scene ct_law_next_scene : Value}
    {od_law_table an_law_table : Option Addr} {sl_law_table : Array (Option Value)} {oc_law_table kV_law_table dc_law_table pm_law_table cd_law_table ct_law_table : Value}
    {od_law_marked an_law_marked : Option Addr} {sl_law_marked : Array (Option Value)} {oc_law_marked kV_law_marked dc_law_marked pm_law_marked cd_law_marked ct_law_marked : Value}
    {od_law_changes an_law_changes : Option Addr} {sl_law_changes : Array (Option Value)} {oc_law_changes kV_law_changes dc_law_changes pm_law_changes cd_law_changes ct_law_changes : Value}
    {od_law_moved an_law_moved : Option Addr} {sl_law_moved : Array (Option Value)} {oc_law_moved kV_law_moved dc_law_moved pm_law_moved cd_law_moved ct_law_moved : Value}
    {od_law an_law : Option Addr} {sl_law : Array (Option Value)} {oc_law kV_law dc_law pm_law cd_law ct_law : Value}
    (a_identity : PySem.W.nsIn K mainGlobals "identity" = some (some (.ref f_identity))) (l_identity : K.lookup f_identity = some ⟨oc_identity, od_identity, .func (PySem.W.fnOf "identity" "identity" (defArgs s_identity) (defBody s_identity) (defScope s_identity) .none kV_identity dc_identity pm_identity an_identity cd_identity ct_identity), sl_identity⟩) (c_identity : PySem.W.codeIn K cd_identity "identity" = true) (k_identity : PySem.W.keepIn K (.ref f_identity) = true)
    (a_moved : PySem.W.nsIn K mainGlobals "moved" = some (some (.ref f_moved))) (l_moved : K.lookup f_moved = some ⟨oc_moved, od_moved, .func (PySem.W.fnOf "moved" "moved" (defArgs s_moved) (defBody s_moved) (defScope s_moved) .none kV_moved dc_moved pm_moved an_moved cd_moved ct_moved), sl_moved⟩) (c_moved : PySem.W.codeIn K cd_moved "moved" = true) (k_moved : PySem.W.keepIn K (.ref f_moved) = true)
    (a_by_identity : PySem.W.nsIn K mainGlobals "by_identity" = some (some (.ref f_by_identity))) (l_by_identity : K.lookup f_by_identity = some ⟨oc_by_identity, od_by_identity, .func (PySem.W.fnOf "by_identity" "by_identity" (defArgs s_by_identity) (defBody s_by_identity) (defScope s_by_identity) .none kV_by_identity dc_by_identity pm_by_identity an_by_identity cd_by_identity ct_by_identity), sl_by_identity⟩) (c_by_identity : PySem.W.codeIn K cd_by_identity "by_identity" = true) (k_by_identity : PySem.W.keepIn K (.ref f_by_identity) = true)
    (a_law_tape : PySem.W.nsIn K mainGlobals "_law_tape" = some (some (.ref f_law_tape))) (l_law_tape : K.lookup f_law_tape = some ⟨oc_law_tape, od_law_tape, .func (PySem.W.fnOf "_law_tape" "_law_tape" (defArgs s_law_tape) (defBody s_law_tape) (defScope s_law_tape) .none kV_law_tape dc_law_tape pm_law_tape an_law_tape cd_law_tape ct_law_tape), sl_law_tape⟩) (c_law_tape : PySem.W.codeIn K cd_law_tape "_law_tape" = true) (k_law_tape : PySem.W.keepIn K (.ref f_law_tape) = true)
    (a_law_draw : PySem.W.nsIn K mainGlobals "_law_draw" = some (some (.ref f_law_draw))) (l_law_draw : K.lookup f_law_draw = some ⟨oc_law_draw, od_law_draw, .func (PySem.W.fnOf "_law_draw" "_law_draw" (defArgs s_law_draw) (defBody s_law_draw) (defScope s_law_draw) .none kV_law_draw dc_law_draw pm_law_draw an_law_draw cd_law_draw ct_law_draw), sl_law_draw⟩) (c_law_draw : PySem.W.codeIn K cd_law_draw "_law_draw" = true) (k_law_draw : PySem.W.keepIn K (.ref f_law_draw) = true)
    (a_law_word : PySem.W.nsIn K mainGlobals "_law_word" = some (some (.ref f_law_word))) (l_law_word : K.lookup f_law_word = some ⟨oc_law_word, od_law_word, .func (PySem.W.fnOf "_law_word" "_law_word" (defArgs s_law_word) (defBody s_law_word) (defScope s_law_word) .none kV_law_word dc_law_word pm_law_word an_law_word cd_law_word ct_law_word), sl_law_word⟩) (c_law_word : PySem.W.codeIn K cd_law_word "_law_word" = true) (k_law_word : PySem.W.keepIn K (.ref f_law_word) = true)
    (a_law_color : PySem.W.nsIn K mainGlobals "_law_color" = some (some (.ref f_law_color))) (l_law_color : K.lookup f_law_color = some ⟨oc_law_color, od_law_color, .func (PySem.W.fnOf "_law_color" "_law_color" (defArgs s_law_color) (defBody s_law_color) (defScope s_law_color) .none kV_law_color dc_law_color pm_law_color an_law_color cd_law_color ct_law_color), sl_law_color⟩) (c_law_color : PySem.W.codeIn K cd_law_color "_law_color" = true) (k_law_color : PySem.W.keepIn K (.ref f_law_color) = true)
    (a_law_form : PySem.W.nsIn K mainGlobals "_law_form" = some (some (.ref f_law_form))) (l_law_form : K.lookup f_law_form = some ⟨oc_law_form, od_law_form, .func (PySem.W.fnOf "_law_form" "_law_form" (defArgs s_law_form) (defBody s_law_form) (defScope s_law_form) .none kV_law_form dc_law_form pm_law_form an_law_form cd_law_form ct_law_form), sl_law_form⟩) (c_law_form : PySem.W.codeIn K cd_law_form "_law_form" = true) (k_law_form : PySem.W.keepIn K (.ref f_law_form) = true)
    (a_law_clip : PySem.W.nsIn K mainGlobals "_law_clip" = some (some (.ref f_law_clip))) (l_law_clip : K.lookup f_law_clip = some ⟨oc_law_clip, od_law_clip, .func (PySem.W.fnOf "_law_clip" "_law_clip" (defArgs s_law_clip) (defBody s_law_clip) (defScope s_law_clip) .none kV_law_clip dc_law_clip pm_law_clip an_law_clip cd_law_clip ct_law_clip), sl_law_clip⟩) (c_law_clip : PySem.W.codeIn K cd_law_clip "_law_clip" = true) (k_law_clip : PySem.W.keepIn K (.ref f_law_clip) = true)
    (a_law_identity : PySem.W.nsIn K mainGlobals "_law_identity" = some (some (.ref f_law_identity))) (l_law_identity : K.lookup f_law_identity = some ⟨oc_law_identity, od_law_identity, .func (PySem.W.fnOf "_law_identity" "_law_identity" (defArgs s_law_identity) (defBody s_law_identity) (defScope s_law_identity) .none kV_law_identity dc_law_identity pm_law_identity an_law_identity cd_law_identity ct_law_identity), sl_law_identity⟩) (c_law_identity : PySem.W.codeIn K cd_law_identity "_law_identity" = true) (k_law_identity : PySem.W.keepIn K (.ref f_law_identity) = true)
    (a_law_new_identity : PySem.W.nsIn K mainGlobals "_law_new_identity" = some (some (.ref f_law_new_identity))) (l_law_new_identity : K.lookup f_law_new_identity = some ⟨oc_law_new_identity, od_law_new_identity, .func (PySem.W.fnOf "_law_new_identity" "_law_new_identity" (defArgs s_law_new_identity) (defBody s_law_new_identity) (defScope s_law_new_identity) .none kV_law_new_identity dc_law_new_identity pm_law_new_identity an_law_new_identity cd_law_new_identity ct_law_new_identity), sl_law_new_identity⟩) (c_law_new_identity : PySem.W.codeIn K cd_law_new_identity "_law_new_identity" = true) (k_law_new_identity : PySem.W.keepIn K (.ref f_law_new_identity) = true)
    (a_law_primitive : PySem.W.nsIn K mainGlobals "_law_primitive" = some (some (.ref f_law_primitive))) (l_law_primitive : K.lookup f_law_primitive = some ⟨oc_law_primitive, od_law_primitive, .func (PySem.W.fnOf "_law_primitive" "_law_primitive" (defArgs s_law_primitive) (defBody s_law_primitive) (defScope s_law_primitive) .none kV_law_primitive dc_law_primitive pm_law_primitive an_law_primitive cd_law_primitive ct_law_primitive), sl_law_primitive⟩) (c_law_primitive : PySem.W.codeIn K cd_law_primitive "_law_primitive" = true) (k_law_primitive : PySem.W.keepIn K (.ref f_law_primitive) = true)
    (a_law_identities : PySem.W.nsIn K mainGlobals "_law_identities" = some (some (.ref f_law_identities))) (l_law_identities : K.lookup f_law_identities = some ⟨oc_law_identities, od_law_identities, .func (PySem.W.fnOf "_law_identities" "_law_identities" (defArgs s_law_identities) (defBody s_law_identities) (defScope s_law_identities) .none kV_law_identities dc_law_identities pm_law_identities an_law_identities cd_law_identities ct_law_identities), sl_law_identities⟩) (c_law_identities : PySem.W.codeIn K cd_law_identities "_law_identities" = true) (k_law_identities : PySem.W.keepIn K (.ref f_law_identities) = true)
    (a_law_scene : PySem.W.nsIn K mainGlobals "_law_scene" = some (some (.ref f_law_scene))) (l_law_scene : K.lookup f_law_scene = some ⟨oc_law_scene, od_law_scene, .func (PySem.W.fnOf "_law_scene" "_law_scene" (defArgs s_law_scene) (defBody s_law_scene) (defScope s_law_scene) .none kV_law_scene dc_law_scene pm_law_scene an_law_scene cd_law_scene ct_law_scene), sl_law_scene⟩) (c_law_scene : PySem.W.codeIn K cd_law_scene "_law_scene" = true) (k_law_scene : PySem.W.keepIn K (.ref f_law_scene) = true)
    (a_law_changed_item : PySem.W.nsIn K mainGlobals "_law_changed_item" = some (some (.ref f_law_changed_item))) (l_law_changed_item : K.lookup f_law_changed_item = some ⟨oc_law_changed_item, od_law_changed_item, .func (PySem.W.fnOf "_law_changed_item" "_law_changed_item" (defArgs s_law_changed_item) (defBody s_law_changed_item) (defScope s_law_changed_item) .none kV_law_changed_item dc_law_changed_item pm_law_changed_item an_law_changed_item cd_law_changed_item ct_law_changed_item), sl_law_changed_item⟩) (c_law_changed_item : PySem.W.codeIn K cd_law_changed_item "_law_changed_item" = true) (k_law_changed_item : PySem.W.keepIn K (.ref f_law_changed_item) = true)
    (a_law_turned_items : PySem.W.nsIn K mainGlobals "_law_turned_items" = some (some (.ref f_law_turned_items))) (l_law_turned_items : K.lookup f_law_turned_items = some ⟨oc_law_turned_items, od_law_turned_items, .func (PySem.W.fnOf "_law_turned_items" "_law_turned_items" (defArgs s_law_turned_items) (defBody s_law_turned_items) (defScope s_law_turned_items) .none kV_law_turned_items dc_law_turned_items pm_law_turned_items an_law_turned_items cd_law_turned_items ct_law_turned_items), sl_law_turned_items⟩) (c_law_turned_items : PySem.W.codeIn K cd_law_turned_items "_law_turned_items" = true) (k_law_turned_items : PySem.W.keepIn K (.ref f_law_turned_items) = true)
    (a_law_next_scene : PySem.W.nsIn K mainGlobals "_law_next_scene" = some (some (.ref f_law_next_scene))) (l_law_next_scene : K.lookup f_law_next_scene = some ⟨oc_law_next_scene, od_law_next_scene, .func (PySem.W.fnOf "_law_next_scene" "_law_next_scene" (defArgs s_law_next_scene) (defBody s_law_next_scene) (defScope s_law_next_scene) .none kV_law_next_scene dc_law_next_scene pm_law_next_scene an_law_next_scene cd_law_next_scene ct_law_next_scene), sl_law_next_scene⟩) (c_law_next_scene : PySem.W.codeIn K cd_law_next_scene "_law_next_scene" = true) (k_law_next_scene : PySem.W.keepIn K (.ref f_law_next_scene) = true)
    (a_law_table : PySem.W.nsIn K mainGlobals "_law_table" = some (some (.ref f_law_table))) (l_law_table : K.lookup f_law_table = some ⟨oc_law_table, od_law_table, .func (PySem.W.fnOf "_law_table" "_law_table" (defArgs s_law_table) (defBody s_law_table) (defScope s_law_table) .none kV_law_table dc_law_table pm_law_table an_law_table cd_law_table ct_law_table), sl_law_table⟩) (c_law_table : PySem.W.codeIn K cd_law_table "_law_table" = true) (k_law_table : PySem.W.keepIn K (.ref f_law_table) = true)
    (a_law_marked : PySem.W.nsIn K mainGlobals "_law_marked" = some (some (.ref f_law_marked))) (l_law_marked : K.lookup f_law_marked = some ⟨oc_law_marked, od_law_marked, .func (PySem.W.fnOf "_law_marked" "_law_marked" (defArgs s_law_marked) (defBody s_law_marked) (defScope s_law_marked) .none kV_law_marked dc_law_marked pm_law_marked an_law_marked cd_law_marked ct_law_marked), sl_law_marked⟩) (c_law_marked : PySem.W.codeIn K cd_law_marked "_law_marked" = true) (k_law_marked : PySem.W.keepIn K (.ref f_law_marked) = true)
    (a_law_changes : PySem.W.nsIn K mainGlobals "_law_changes" = some (some (.ref f_law_changes))) (l_law_changes : K.lookup f_law_changes = some ⟨oc_law_changes, od_law_changes, .func (PySem.W.fnOf "_law_changes" "_law_changes" (defArgs s_law_changes) (defBody s_law_changes) (defScope s_law_changes) .none kV_law_changes dc_law_changes pm_law_changes an_law_changes cd_law_changes ct_law_changes), sl_law_changes⟩) (c_law_changes : PySem.W.codeIn K cd_law_changes "_law_changes" = true) (k_law_changes : PySem.W.keepIn K (.ref f_law_changes) = true)
    (a_law_moved : PySem.W.nsIn K mainGlobals "_law_moved" = some (some (.ref f_law_moved))) (l_law_moved : K.lookup f_law_moved = some ⟨oc_law_moved, od_law_moved, .func (PySem.W.fnOf "_law_moved" "_law_moved" (defArgs s_law_moved) (defBody s_law_moved) (defScope s_law_moved) .none kV_law_moved dc_law_moved pm_law_moved an_law_moved cd_law_moved ct_law_moved), sl_law_moved⟩) (c_law_moved : PySem.W.codeIn K cd_law_moved "_law_moved" = true) (k_law_moved : PySem.W.keepIn K (.ref f_law_moved) = true)
    (a_law : PySem.W.nsIn K mainGlobals "law" = some (some (.ref f_law))) (l_law : K.lookup f_law = some ⟨oc_law, od_law, .func (PySem.W.fnOf "law" "law" (defArgs s_law) (defBody s_law) (defScope s_law) .none kV_law dc_law pm_law an_law cd_law ct_law), sl_law⟩) (c_law : PySem.W.codeIn K cd_law "law" = true) (k_law : PySem.W.keepIn K (.ref f_law) = true)
    (z_abs : PySem.W.nsIn K mainGlobals "abs" = some none) (z_int : PySem.W.nsIn K mainGlobals "int" = some none) (z_len : PySem.W.nsIn K mainGlobals "len" = some none) (z_list : PySem.W.nsIn K mainGlobals "list" = some none) (z_max : PySem.W.nsIn K mainGlobals "max" = some none) (z_range : PySem.W.nsIn K mainGlobals "range" = some none) (z_repr : PySem.W.nsIn K mainGlobals "repr" = some none) (z_reversed : PySem.W.nsIn K mainGlobals "reversed" = some none) (z_str : PySem.W.nsIn K mainGlobals "str" = some none) (z_tuple : PySem.W.nsIn K mainGlobals "tuple" = some none) :
    ∃ fd : FuncData, (∀ (s : Shared) (v : Value), BindsTo s fd ⟨[v], []⟩ [("script", v)]) ∧ ∀ base : Heap, K.In base → base.Ns mainGlobals mg → FnG l.prog w K mg base 6 fa fd ["script"] (spLaw K) := by
  have e := hfa.symm.trans (PySem.W.mg_of X G a_law)
  cases e
  have MB : Blt mg := ⟨PySem.W.mg_none_of X G z_abs, PySem.W.mg_none_of X G z_int, PySem.W.mg_none_of X G z_len, PySem.W.mg_none_of X G z_list, PySem.W.mg_none_of X G z_max, PySem.W.mg_none_of X G z_range, PySem.W.mg_none_of X G z_repr, PySem.W.mg_none_of X G z_reversed, PySem.W.mg_none_of X G z_str, PySem.W.mg_none_of X G z_tuple⟩
  have A_identity : At K mg "identity" s_identity := ⟨_, _, PySem.W.mg_of X G a_identity, fun_mk (st := s_identity) l_identity c_identity k_identity⟩
  have A_moved : At K mg "moved" s_moved := ⟨_, _, PySem.W.mg_of X G a_moved, fun_mk (st := s_moved) l_moved c_moved k_moved⟩
  have A_by_identity : At K mg "by_identity" s_by_identity := ⟨_, _, PySem.W.mg_of X G a_by_identity, fun_mk (st := s_by_identity) l_by_identity c_by_identity k_by_identity⟩
  have A_law_tape : At K mg "_law_tape" s_law_tape := ⟨_, _, PySem.W.mg_of X G a_law_tape, fun_mk (st := s_law_tape) l_law_tape c_law_tape k_law_tape⟩
  have A_law_draw : At K mg "_law_draw" s_law_draw := ⟨_, _, PySem.W.mg_of X G a_law_draw, fun_mk (st := s_law_draw) l_law_draw c_law_draw k_law_draw⟩
  have A_law_word : At K mg "_law_word" s_law_word := ⟨_, _, PySem.W.mg_of X G a_law_word, fun_mk (st := s_law_word) l_law_word c_law_word k_law_word⟩
  have A_law_color : At K mg "_law_color" s_law_color := ⟨_, _, PySem.W.mg_of X G a_law_color, fun_mk (st := s_law_color) l_law_color c_law_color k_law_color⟩
  have A_law_form : At K mg "_law_form" s_law_form := ⟨_, _, PySem.W.mg_of X G a_law_form, fun_mk (st := s_law_form) l_law_form c_law_form k_law_form⟩
  have A_law_clip : At K mg "_law_clip" s_law_clip := ⟨_, _, PySem.W.mg_of X G a_law_clip, fun_mk (st := s_law_clip) l_law_clip c_law_clip k_law_clip⟩
  have A_law_identity : At K mg "_law_identity" s_law_identity := ⟨_, _, PySem.W.mg_of X G a_law_identity, fun_mk (st := s_law_identity) l_law_identity c_law_identity k_law_identity⟩
  have A_law_new_identity : At K mg "_law_new_identity" s_law_new_identity := ⟨_, _, PySem.W.mg_of X G a_law_new_identity, fun_mk (st := s_law_new_identity) l_law_new_identity c_law_new_identity k_law_new_identity⟩
  have A_law_primitive : At K mg "_law_primitive" s_law_primitive := ⟨_, _, PySem.W.mg_of X G a_law_primitive, fun_mk (st := s_law_primitive) l_law_primitive c_law_primitive k_law_primitive⟩
  have A_law_identities : At K mg "_law_identities" s_law_identities := ⟨_, _, PySem.W.mg_of X G a_law_identities, fun_mk (st := s_law_identities) l_law_identities c_law_identities k_law_identities⟩
  have A_law_scene : At K mg "_law_scene" s_law_scene := ⟨_, _, PySem.W.mg_of X G a_law_scene, fun_mk (st := s_law_scene) l_law_scene c_law_scene k_law_scene⟩
  have A_law_changed_item : At K mg "_law_changed_item" s_law_changed_item := ⟨_, _, PySem.W.mg_of X G a_law_changed_item, fun_mk (st := s_law_changed_item) l_law_changed_item c_law_changed_item k_law_changed_item⟩
  have A_law_turned_items : At K mg "_law_turned_items" s_law_turned_items := ⟨_, _, PySem.W.mg_of X G a_law_turned_items, fun_mk (st := s_law_turned_items) l_law_turned_items c_law_turned_items k_law_turned_items⟩
  have A_law_next_scene : At K mg "_law_next_scene" s_law_next_scene := ⟨_, _, PySem.W.mg_of X G a_law_next_scene, fun_mk (st := s_law_next_scene) l_law_next_scene c_law_next_scene k_law_next_scene⟩
  have A_law_table : At K mg "_law_table" s_law_table := ⟨_, _, PySem.W.mg_of X G a_law_table, fun_mk (st := s_law_table) l_law_table c_law_table k_law_table⟩
  have A_law_marked : At K mg "_law_marked" s_law_marked := ⟨_, _, PySem.W.mg_of X G a_law_marked, fun_mk (st := s_law_marked) l_law_marked c_law_marked k_law_marked⟩
  have A_law_changes : At K mg "_law_changes" s_law_changes := ⟨_, _, PySem.W.mg_of X G a_law_changes, fun_mk (st := s_law_changes) l_law_changes c_law_changes k_law_changes⟩
  have A_law_moved : At K mg "_law_moved" s_law_moved := ⟨_, _, PySem.W.mg_of X G a_law_moved, fun_mk (st := s_law_moved) l_law_moved c_law_moved k_law_moved⟩
  have A_law : At K mg "law" s_law := ⟨_, _, PySem.W.mg_of X G a_law, fun_mk (st := s_law) l_law c_law k_law⟩
  refine ⟨PySem.W.fnOf "law" "law" (defArgs s_law) (defBody s_law) (defScope s_law) .none kV_law dc_law pm_law an_law cd_law ct_law, fun s v => .of_eq rfl, fun base _ _ => ?_⟩
  letI : WP K := ⟨l.prog, w⟩
  have D_identity := df_identity (K := K) (base := base) MB A_identity
  have D_by_identity := df_by_identity (K := K) (base := base) MB A_by_identity D_identity
  have D_moved := df_moved (K := K) (base := base) MB A_moved D_by_identity
  have D_law_tape := df_law_tape (P := l.prog) (w := w) (base := base) MB A_law_tape
  have D_law_draw := df_law_draw (P := l.prog) (w := w) (base := base) MB A_law_draw
  have D_law_word := df_law_word (K := K) (base := base) MB A_law_word D_law_draw
  have D_law_color := df_law_color (K := K) (base := base) MB A_law_color D_law_draw
  have D_law_form := df_law_form (K := K) (base := base) MB A_law_form D_law_draw D_law_word
  have D_law_clip := df_law_clip (K := K) (base := base) MB A_law_clip D_law_draw
  have D_law_identity := df_law_identity (K := K) (base := base) MB A_law_identity D_law_draw D_law_word
  have D_law_new_identity := df_law_new_identity (K := K) (base := base) MB A_law_new_identity D_law_identity
  have D_law_primitive := df_law_primitive (K := K) (base := base) MB A_law_primitive D_law_form D_law_color D_law_clip
  have D_law_identities := df_law_identities (K := K) (base := base) MB A_law_identities
  have D_law_scene := df_law_scene (K := K) (base := base) MB A_law_scene D_law_primitive D_law_new_identity D_law_identities
  have D_law_changed_item := df_law_changed_item (K := K) (base := base) MB A_law_changed_item D_law_draw D_law_clip D_law_form D_law_color
  have D_law_turned_items := df_law_turned_items (K := K) (base := base) MB A_law_turned_items D_law_draw
  have D_law_next_scene := df_law_next_scene (K := K) (base := base) MB A_law_next_scene D_law_turned_items D_law_draw D_law_primitive D_law_changed_item D_law_new_identity D_law_identities
  have D_law_table := df_law_table (K := K) (base := base) MB A_law_table
  have D_law_marked := df_law_marked (K := K) (base := base) MB A_law_marked
  have D_law_changes := df_law_changes (K := K) (base := base) MB A_law_changes D_law_table D_law_identities
  have D_law_moved := df_law_moved (K := K) (base := base) MB A_law_moved D_law_changes D_law_marked D_law_identities
  exact fn_law MB (fun_mk (st := s_law) l_law c_law k_law) D_law_tape D_law_scene D_law_next_scene D_moved D_law_draw D_law_moved

end Cs
open PySem PySem.W PyProof.Rows
set_option maxRecDepth 100000 in
set_option maxHeartbeats 0 in
theorem PySem.Challenge.cw_chartspec_k49_moved_identities_holds : PySem.Challenge.rw_chartspec_k49_moved_identities.Holds := by
  w_on; o_law; k_head; (case hw => w_witness2)
  k_fill
  refine Cs.walkG (k := 6) (x := "script") (sp := Cs.spLaw) (l := PySem.Challenge.rw_chartspec_k49_moved_identities) rfl (by decide) rfl ⟨rfl, by decide, by decide⟩ (fun w h Y => PySem.W.kIn_of Y) ?F Cs.law_start
  case F =>
    intro w mg fa h KX G hmg
    refine' Cs.all_mk KX G hmg ?a_identity ?l_identity ?c_identity ?k_identity ?a_moved ?l_moved ?c_moved ?k_moved ?a_by_identity ?l_by_identity ?c_by_identity ?k_by_identity ?a_law_tape ?l_law_tape ?c_law_tape ?k_law_tape ?a_law_draw ?l_law_draw ?c_law_draw ?k_law_draw ?a_law_word ?l_law_word ?c_law_word ?k_law_word ?a_law_color ?l_law_color ?c_law_color ?k_law_color ?a_law_form ?l_law_form ?c_law_form ?k_law_form ?a_law_clip ?l_law_clip ?c_law_clip ?k_law_clip ?a_law_identity ?l_law_identity ?c_law_identity ?k_law_identity ?a_law_new_identity ?l_law_new_identity ?c_law_new_identity ?k_law_new_identity ?a_law_primitive ?l_law_primitive ?c_law_primitive ?k_law_primitive ?a_law_identities ?l_law_identities ?c_law_identities ?k_law_identities ?a_law_scene ?l_law_scene ?c_law_scene ?k_law_scene ?a_law_changed_item ?l_law_changed_item ?c_law_changed_item ?k_law_changed_item ?a_law_turned_items ?l_law_turned_items ?c_law_turned_items ?k_law_turned_items ?a_law_next_scene ?l_law_next_scene ?c_law_next_scene ?k_law_next_scene ?a_law_table ?l_law_table ?c_law_table ?k_law_table ?a_law_marked ?l_law_marked ?c_law_marked ?k_law_marked ?a_law_changes ?l_law_changes ?c_law_changes ?k_law_changes ?a_law_moved ?l_law_moved ?c_law_moved ?k_law_moved ?a_law ?l_law ?c_law ?k_law  ?z_abs ?z_int ?z_len ?z_list ?z_max ?z_range ?z_repr ?z_reversed ?z_str ?z_tuple
    (case a_identity => k_is)
    (case l_identity => k_is)
    (case c_identity => k_is)
    (case k_identity => k_is)
    (case a_moved => k_is)
    (case l_moved => k_is)
    (case c_moved => k_is)
    (case k_moved => k_is)
    (case a_by_identity => k_is)
    (case l_by_identity => k_is)
    (case c_by_identity => k_is)
    (case k_by_identity => k_is)
    (case a_law_tape => k_is)
    (case l_law_tape => k_is)
    (case c_law_tape => k_is)
    (case k_law_tape => k_is)
    (case a_law_draw => k_is)
    (case l_law_draw => k_is)
    (case c_law_draw => k_is)
    (case k_law_draw => k_is)
    (case a_law_word => k_is)
    (case l_law_word => k_is)
    (case c_law_word => k_is)
    (case k_law_word => k_is)
    (case a_law_color => k_is)
    (case l_law_color => k_is)
    (case c_law_color => k_is)
    (case k_law_color => k_is)
    (case a_law_form => k_is)
    (case l_law_form => k_is)
    (case c_law_form => k_is)
    (case k_law_form => k_is)
    (case a_law_clip => k_is)
    (case l_law_clip => k_is)
    (case c_law_clip => k_is)
    (case k_law_clip => k_is)
    (case a_law_identity => k_is)
    (case l_law_identity => k_is)
    (case c_law_identity => k_is)
    (case k_law_identity => k_is)
    (case a_law_new_identity => k_is)
    (case l_law_new_identity => k_is)
    (case c_law_new_identity => k_is)
    (case k_law_new_identity => k_is)
    (case a_law_primitive => k_is)
    (case l_law_primitive => k_is)
    (case c_law_primitive => k_is)
    (case k_law_primitive => k_is)
    (case a_law_identities => k_is)
    (case l_law_identities => k_is)
    (case c_law_identities => k_is)
    (case k_law_identities => k_is)
    (case a_law_scene => k_is)
    (case l_law_scene => k_is)
    (case c_law_scene => k_is)
    (case k_law_scene => k_is)
    (case a_law_changed_item => k_is)
    (case l_law_changed_item => k_is)
    (case c_law_changed_item => k_is)
    (case k_law_changed_item => k_is)
    (case a_law_turned_items => k_is)
    (case l_law_turned_items => k_is)
    (case c_law_turned_items => k_is)
    (case k_law_turned_items => k_is)
    (case a_law_next_scene => k_is)
    (case l_law_next_scene => k_is)
    (case c_law_next_scene => k_is)
    (case k_law_next_scene => k_is)
    (case a_law_table => k_is)
    (case l_law_table => k_is)
    (case c_law_table => k_is)
    (case k_law_table => k_is)
    (case a_law_marked => k_is)
    (case l_law_marked => k_is)
    (case c_law_marked => k_is)
    (case k_law_marked => k_is)
    (case a_law_changes => k_is)
    (case l_law_changes => k_is)
    (case c_law_changes => k_is)
    (case k_law_changes => k_is)
    (case a_law_moved => k_is)
    (case l_law_moved => k_is)
    (case c_law_moved => k_is)
    (case k_law_moved => k_is)
    (case a_law => k_is)
    (case l_law => k_is)
    (case c_law => k_is)
    (case k_law => k_is)
    (case z_abs => k_is)
    (case z_int => k_is)
    (case z_len => k_is)
    (case z_list => k_is)
    (case z_max => k_is)
    (case z_range => k_is)
    (case z_repr => k_is)
    (case z_reversed => k_is)
    (case z_str => k_is)
    (case z_tuple => k_is)
#print axioms PySem.Challenge.cw_chartspec_k49_moved_identities_holds

