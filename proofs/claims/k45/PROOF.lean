import PyProof.Rows.All
import Wide.All
import OpenK.AllK
import Wide.FinOn
import PyProof.EqAt
import PyProof.EqKinds
import PyProof.TupleCall
import PySem.Challenge.RW_batchnumbers_k45_whole_best_questions
import HandS.ForMost
import HandS.ForExc
import HandS.Wide
import HandS.WideMore
import HandS.WideBits
import HandS.Gcd
import HandS.IsInst
import HandS.SortInts
import HandS.Flow
import HandS.Style
import HandS.RaiseMore
import HandS.TupAny
import KE.GoesMore
import HandS.More
import HandS.Conv
import HandS.ExcOwn
import HandS.HeadEnd
import HandS.HeadHook1
import HandS.HeadHook2
import HandS.Head0
import HandS.Head1
import HandS.Head2
import HandS.Head3
import HandS.NamedTupSort
import HandS.TupSets
import KE.DataMinMax
import HandS.SortKw
import HandS.Deep
import KE.KMathGC
set_option Elab.async false
set_option linter.all false
set_option maxRecDepth 100000
set_option maxHeartbeats 4000000
namespace KV
open PySem PySem.Spec PyProof.Rows L2
theorem len_lt {n : Nat} (h : n ≤ 1000000) : n < sizeLine := Nat.lt_of_le_of_lt h (by decide)
end KV

/-! rules of our own over the hand layer -/
namespace KV
open PySem PySem.Spec PyProof.Rows L2
/-- a def of the module, by its name: it stands there and keeps a promise -/
def Cal (P : Program) (w : World) (K : PySem.W.Frag) (mg : Str → Option Value) (base : Heap) (Z : CXT) (k : Nat) (x : Str) (ps : List Str) (sp : Sp) : Prop :=
  ∃ (f : Addr) (fd : FuncData), FnOk P w K mg base Z k f fd ps sp ∧ mg x = some (.ref f) ∧ PySem.W.keepIn K (.ref f) = true ∧ Binds K fd ps []
section
variable {X : Cx} {k j : Nat} {x : Str} {ps : List Str} {sp : Sp} {p pos : Pos} {e : Expr} {es : List Expr} {t : TA}
theorem pe_cal (C : Cal X.prog X.w X.K X.mg X.base CX0 k x ps sp) (hr : Room j X.A) (hj : k ≤ j) (ha : PA X (e :: es) t)
    (hg : Gl X x := by rfl) (hdb : (x == ("__debug__" : Str)) = false := by decide)
    (he : starEach (e :: es) X.env = (false, eval e X.env) :: starEach es X.env := by rfl)
    (hpl : (backTo pos (starEach es X.env)).any (·.1) = false := by rfl) :
    PE X (.Call (.Name x p) (e :: es) [] pos) (tCall sp [] E0 t) := by
  obtain ⟨f, fd, F, h1, h2, h3⟩ := C
  exact pe_call F (hr.mono hj) hg h1 h2 h3 .nil pass0 ha hdb he hpl
end

/-- repr of a truth value, of an int, of a tuple of ints -/
def rRepr (K : PySem.W.Frag) : List V → Hp → VK → Prop := fun xs H Q =>
  (∃ b : Bool, xs = [.bl b] ∧ Q (.str (if b then "True" else "False")) H) ∨ (∃ i : Int, xs = [.int i] ∧ i.natAbs.log2 < 1920 ∧ Q (.str (toString i)) H) ∨
  ∃ (a : Addr) (ns : List Int), xs = [.ref a] ∧ SqT K H a (ns.map V.int) ∧ (∀ n ∈ ns, n.natAbs.log2 < 1920) ∧ (PyData.tuple (ns.map PyData.int)).shown.length ≤ sizeLine ∧ Q (.str (PyData.tuple (ns.map PyData.int)).shown) H
theorem dp_ints {K : PySem.W.Frag} {H : Hp} : ∀ ns : List Int, DpAll K H (ns.map V.int) (ns.map PyData.int)
  | [] => .nil
  | n :: r => .cons (.int n) (dp_ints r)
theorem showAll_ints : ∀ ns : List Int, (∀ n ∈ ns, n.natAbs.log2 < 1920) → PyData.showableAll (ns.map PyData.int) = true
  | [], _ => rfl
  | n :: r, h => by
    have h1 := h n (by simp)
    have h2 := showAll_ints r fun m hm => h m (by simp [hm])
    simp only [List.map_cons, PyData.showableAll, PyData.showable, h2, h1, decide_true, Bool.and_self]
theorem noDict_ints : ∀ ns : List Int, PyData.hasDictAll (ns.map PyData.int) = false
  | [] => rfl
  | n :: r => by simp only [List.map_cons, PyData.hasDictAll, PyData.hasDict, noDict_ints r, Bool.or_self]
theorem depth_ints : ∀ ns : List Int, PyData.depthAll (ns.map PyData.int) = 0
  | [] => rfl
  | n :: r => by simp only [List.map_cons, PyData.depthAll, PyData.depth, depth_ints r, Nat.max_self]
theorem call_repr {X : Cx} (hg : X.A.guards = some []) (hu : X.A.units + 64 < cLine) : CallR X (.builtin "repr") (rRepr X.K) := by
  intro pins s σ H xs us Q I r h
  rcases h with ⟨b, rfl, q⟩ | ⟨i, rfl, hz, q⟩ | ⟨a, ns, rfl, hs, hb, hz, q⟩
  · obtain ⟨u, rfl, r1⟩ := vals1 r
    cases r1
    exact PySem.P.repr_of_bool ⟨.str _, H, I.tok _, ⟨_, rfl⟩, q⟩
  · obtain ⟨u, rfl, t, rfl⟩ := vals1 r
    exact PySem.P.repr_of_int hz ⟨.str _, H, I.tok _, ⟨_, rfl⟩, q⟩
  · obtain ⟨u, rfl, r1⟩ := vals1 r
    have r2 : RelV (.ref a) u := r1
    obtain ⟨as, rd⟩ := Dp.reads I (.tuple (ns.map PyData.int)) (.ref a) u (.tup hs (dp_ints ns)) r2
    cases r1
    refine repr_of_reads' rd (by simp only [PyData.showable]; exact showAll_ints ns hb) (fun z => ?_) hg (by simp only [PyData.depth, depth_ints]; omega) (fun _ _ z => z) (fun h' u tk kk => ?_) hz
    · simp only [PyData.hasDict, noDict_ints] at z
      exact absurd z Bool.false_ne_true
    · exact ⟨.str _, H, I.kept kk, ⟨_, rfl⟩, q⟩
end KV

/-! a def that is called where no repr is under way (the law's own def): the rule for its body, and the end -/
namespace KV
open PySem PySem.Spec PyProof.Rows L2
structure FnOkG (P : Program) (w : World) (K : PySem.W.Frag) (mg : Str → Option Value) (base : Heap) (k : Nat) (f : Addr) (fd : FuncData) (ps : List Str) (sp : Sp) : Prop where
  size : ∀ xs G R Z, sp xs G R Z → xs.length = ps.length
  go : ∀ (B : Around) (out : List Env) (st : Shared) (G : Hp) (ar : Args) (ws : List Value) (xs : List V) (R : VK) (Z : XK), Room k B → B.guards = some [] → Env0 P w K mg base B out st G →
    BindsTo st fd ar (ps.zip ws) → Vals xs ws → sp xs G R Z → codeAny (model P w) B (.call (.ref f) ar) (CR CX0 out P w G st R Z) st
theorem fn_ofG {P : Program} {w : World} {K : PySem.W.Frag} {mg : Str → Option Value} {base : Heap} {k : Nat} {f : Addr} {nm ql : Str} {pa : Arguments} {bo : List Stmt} {sc : Scope} {dv kv dc pm cd ct oc : Value} {an od : Option Addr}
    {sl : Array (Option Value)} {N ps : List Str} {sp : Sp} (there : K.lookup f = some ⟨oc, od, .func (PySem.W.fnOf nm ql pa bo sc dv kv dc pm an cd ct), sl⟩) (code : PySem.W.codeIn K cd ql = true) (S : FnScope N ps sc)
    (size : ∀ xs G R Z, sp xs G R Z → xs.length = ps.length)
    (bodyOk : ∀ (B : Around) (out : List Env) (st : Shared) (G : Hp) (xs : List V) (R : VK) (Z : XK), Room k (B.deeper (envOfC ql sc st.heap.objs.size f cd)) → B.guards = some [] → sp xs G R Z →
      ∃ t, PSs (cxOf CX0 P w K mg base N ql sc f cd B out st G Z) bo t ∧ t { nx := fun _ G' => R .non G', rt := R } (start N xs) G) :
    FnOkG P w K mg base (k + 1) f (PySem.W.fnOf nm ql pa bo sc dv kv dc pm an cd ct) ps sp := by
  constructor
  · exact size
  intro B out st G ar ws xs R Z room gd e0 bnd rel want
  have len := size _ _ _ _ want
  have inK : K.In st.heap := e0.mod.kin.keeps fun b o q => (e0.bs b o q).1
  have noLim : st.heap.NoLimit := e0.mod.nolimit.keeps fun b o q => (e0.bs b o q).1
  have kinds : ∀ y ∈ ps.zip ws, sc.names.lookup y.1 = some .local ∨ (sc.names.lookup y.1 = some .cell ∧ ((cellsFrom (st.heap.objs.size + 1) sc.names []).lookup y.1).isSome = true) := by
    rintro ⟨n, v⟩ hy
    rcases S.par n (List.of_mem_zip hy).1 with q | q
    · exact .inl q
    · exact .inr ⟨q, PySem.W.cellsFrom_some _ _ _ (.inl q)⟩
  refine codeAny_call_function room.depth (inK _ _ there) rfl S.co S.gen rfl (PySem.W.codeRec_of inK code) (bnd _ _ _ _ ?_)
  refine wpAny_newFunctionEnv_cells S.kind kinds fun env henv s2 x => ?_
  subst henv
  refine ⟨noLim.keeps x.toInCall.keep, codeAny_func ?_⟩
  obtain ⟨t, ht, hq⟩ := bodyOk B out st G xs R Z (room.deeper _) gd want
  have J := inv_start (CX := CX0) (E := Z) S room.hd e0 len rel x
  refine wpAny_mono (ht.run [] s2 (start N xs) G _ J hq) (fun fl s3 hs => ?_) (fun _ _ z => z)
  cases fl with
  | brk => exact hs.elim fun _ ⟨_, _, z⟩ => z.elim
  | cont => exact hs.elim fun _ ⟨_, _, z⟩ => z.elim
  | ret u =>
    obtain ⟨v, σ3, G3, J3, rv, q⟩ := hs
    exact ⟨v, G3, J3.os, J3.bare, J3.base, J3.hok, rv, q⟩
  | next =>
    obtain ⟨σ3, G3, J3, q⟩ := hs
    exact ⟨V.non, G3, J3.os, J3.bare, J3.base, J3.hok, rfl, q⟩

/-- the law's call, behind the top -/
theorem law_callG {P : Program} {w : World} {K : PySem.W.Frag} {mg mb : Str → Option Value} {k : Nat} {fa a : Addr} {fd : FuncData} {x : Str} {sp : Sp} {st : Shared} {vs : List Value} {ns : List Int}
    (inK : K.In st.heap) (gl : st.heap.Ns mainGlobals mg) (bl : st.heap.Ns builtinsNs mb) (blb : ∀ y : Str, y ≠ "__name__" → mb y = bootBuiltins y) (noLim : st.heap.NoLimit) (gens : st.gens = #[])
    (scr : st.heap.get? a = some { cls := .type "list", data := .seq vs.toArray }) (isI : IntsAre vs ns) (few : ns.length ≤ sizeLine) (room : Room k callerA)
    (F : ∀ base : Heap, K.In base → base.Ns mainGlobals mg → FnOkG P w K mg base k fa fd [x] sp) (bnd : ∀ (s : Shared) (u : Value), BindsTo s fd ⟨[u], []⟩ [(x, u)])
    (want : ∀ G : Hp, SqL K G a (ns.map V.int) → sp [.ref a] G (fun v _ => v = .bl true) fun _ _ _ => False) :
    codeAny (model P w) callerA (.call (.ref fa) ⟨[.ref a], []⟩) (fun r s' => r = .ok (.ret (.bool true)) ∧ OldK st.heap s'.heap ∧ s'.os = st.os ∧ AllBare s'.gens) st := by
  have rel := vals_ints isI
  have lens := isI.length
  have core : ∀ G : Hp, Only G → SqL K G a (ns.map V.int) → HOk P w G st.heap → (∀ b, G b ≠ none → b = a) → (G a ≠ none → K.lookup a = none) →
      codeAny (model P w) callerA (.call (.ref fa) ⟨[.ref a], []⟩) (fun r s' => r = .ok (.ret (.bool true)) ∧ OldK st.heap s'.heap ∧ s'.os = st.os ∧ AllBare s'.gens) st := by
    intro G only sq ok one out
    have free : ∀ {b : Addr} {o : Obj} {es : Array DictEntry} {ep : Nat}, st.heap.get? b = some o → o.data = .dict es ep → G b = none := by
      intro b o es ep q d
      cases z : G b with
      | none => rfl
      | some u =>
        have : b = a := one b (by simp [z])
        subst this
        rw [scr] at q
        cases q
        cases (show Data.seq vs.toArray _ = Data.dict es ep from d)
    have ns2 : ∀ {b : Addr} {m : Str → Option Value}, st.heap.Ns b m → (hidT st.heap G).Ns b m := fun ⟨o, es, ep, q, d, r⟩ => ⟨o, es, ep, hidT_get q (free q d), d, r⟩
    have inB : K.In (hidT st.heap G) := by
      intro b o q
      refine hidT_get (inK b o q) ?_
      cases z : G b with
      | none => rfl
      | some u =>
        have : b = a := one b (by simp [z])
        subst this
        rw [out (by simp [z])] at q
        cases q
    have hm : Mod K mg (hidT st.heap G) := ⟨inB, ns2 gl, ⟨mb, ns2 bl, blb⟩, let ⟨mc, h1, h2⟩ := noLim; ⟨mc, ns2 h1, h2⟩⟩
    have e0 : Env0 P w K mg (hidT st.heap G) callerA [] st G :=
      ⟨rfl, hm, fun b o q => of_hidT q, Nat.le_of_eq (hidT_size _ _), trivial, fun b hb => absurd (show b ∈ ([] : List Addr) from hb) (by simp), ok, .of_eq gens⟩
    refine codeAny_mono ((F _ inB (ns2 gl)).go callerA [] st G ⟨[.ref a], []⟩ [.ref a] [.ref a] _ _ room rfl e0 (bnd st (.ref a)) (.cons rfl .nil) (want G sq)) fun r s' h => ?_
    cases r with
    | error e => exact False.elim h
    | ok fl =>
      cases fl with
      | next => exact False.elim h
      | brk => exact False.elim h
      | cont => exact False.elim h
      | ret u =>
        obtain ⟨v, G', os, bare, un, ok', r', q⟩ := h
        have q2 : v = .bl true := q
        subst q2
        have u2 : u = Value.bool true := r'
        subst u2
        refine ⟨rfl, OldK.of_keep fun b o e => ?_, os, bare⟩
        cases z : G b with
        | none => exact un.keep b o e z (by intro y; exact absurd (show b ∈ ([] : List Addr) from y) (by simp)) (by simp)
        | some u =>
          rcases only b with y | ⟨ob, xs, y⟩
          · rw [z] at y
            cases y
          · have y2 := un.frzs b ob _ y
            have f1 := (ok b _ y).1
            have f2 := (ok' b _ y2).1
            rw [e] at f1
            cases f1
            exact f2
  cases hk : K.lookup a with
  | none =>
    refine core (fun b => if b = a then some (.frz { cls := .type "list", data := .seq vs.toArray } (.lst (ns.map V.int))) else none) (fun b => ?_)
      (.inl (.inr ⟨{ cls := .type "list", data := .seq vs.toArray }, if_pos rfl⟩)) (fun b u z => ?_) (fun b z => ?_) (fun _ => hk)
    · by_cases hb : b = a
      · exact .inr ⟨_, _, if_pos hb⟩
      · exact .inl (if_neg hb)
    · by_cases hb : b = a
      · have z2 := (if_pos hb).symm.trans z
        cases z2
        subst hb
        exact ⟨scr, by rw [List.length_map]; exact few, vs, _, rel, scr⟩
      · have z2 := (if_neg hb).symm.trans z
        cases z2
    · by_cases hb : b = a
      · exact hb
      · exact absurd (if_neg hb) z
  | some o =>
    have e := inK a o hk
    rw [scr] at e
    cases e
    refine core (fun _ => none) (fun _ => .inl rfl) (.inr ⟨_, vs.toArray, _, hk, rfl, rfl, rfl, ?_, by simpa using rel⟩) (fun b u z => ?_) (fun b z => absurd rfl z) (fun z => absurd rfl z)
    · rw [List.size_toArray, lens]
      exact few
    · cases (show (none : Option HO) = some u from z)
/-- what k_head leaves, from the law's promise -/
theorem walk_ofG {l : PySem.W.OpenLaw} {n k : Nat} {q : Program} {loose : List Str} {XP : (Str → Option Value) → Heap → Prop} {YP : World → Heap → Prop} {d : DefRec} {K : Params → PySem.W.Frag} {sp : World → Sp} {x : Str}
    (most : l.most = some n) (fits : n ≤ sizeLine) (plain : d.params.defaults = []) (room : Room k callerA) (hY : ∀ (w : World) (h : Heap), YP w h → (K w.params).In h)
    (F : ∀ (w : World) (mg : Str → Option Value) (fa : Addr) (h : Heap), (K w.params).In h → h.Ns mainGlobals mg → mg d.name = some (.ref fa) →
      ∃ fd : FuncData, (∀ (s : Shared) (u : Value), BindsTo s fd ⟨[u], []⟩ [(x, u)]) ∧ ∀ base : Heap, (K w.params).In base → base.Ns mainGlobals mg → FnOkG l.prog w (K w.params) mg base k fa fd [x] (sp w))
    (want : ∀ (w : World) (G : Hp) (a : Addr) (ns : List Int), ns.length ≤ n → SqL (K w.params) G a (ns.map V.int) → sp w [.ref a] G (fun v _ => v = .bl true) fun _ _ _ => False) :
    PySem.W.WalkO q loose XP YP l.row.toRowW d [] (fun f vs => PySem.call f vs) := by
  refine Att.attach_call most plain fun w s0 s1 mg mb fa o pm cd doc a vs ns G Y ho hd hcd hmg hobj hints hlen hg => ?_
  obtain ⟨fd, hb, hF⟩ := F w mg fa _ (hY w _ Y) G.T.g hmg
  exact law_callG (hY w _ Y) G.T.g G.T.b G.T.builtins G.T.nolimit hg hobj hints (Nat.le_trans hlen fits) room hF hb fun H hS => want w H a ns hlen hS
end KV

namespace PySem
namespace LowX
open PySem.W PySem.Calls PyProof.Rows PySem.HandSPX
/-! ### the text of __init__ -/
def iA (p1 p2 : Pos) : Arguments := { posonlyargs := [], args := [{ arg := "self", annotation := none, pos := p1 }, { arg := "at", annotation := none, pos := p2 }], vararg := none, kwonlyargs := [], kw_defaults := [], kwarg := none, defaults := [] }
def iB (q1 q2 q3 q4 : Pos) : List Stmt := [.Assign [.Attribute (.Name "self" q1) "at" q2] (.Name "at" q3) q4]
def iS : Scope := { kind := .function, names := [(PySem.Str.ofString "self", .local), (PySem.Str.ofString "at", .local)], isGenerator := false, isCoroutine := false, more := [] }
/-- what the written part says of Low, at C, and of its __init__, at fI -/
structure LowTxt (K : Frag) (mg : Str → Option Value) (nm ql : Str) (C fI : Addr) : Prop where
  gC : mg nm = some (.ref C)
  nd : (nm == ("__debug__" : Str)) = false
  cls : ∃ nm q N bs bm sn sub ab col dd k0 k1 k2 k3 k5, K.lookup C = some (excClassObj nm q C N bs bm true sn sub ab col dd k0 k1 k2 k3 k5 "ValueError.__new__") ∧ refsVE bm = true
  sa : findIn K (.ref C) "__setattr__" = some (some (.builtin "object.__setattr__"))
  ga : findIn K (.ref C) "__getattribute__" = some (some (.builtin "BaseException.__getattribute__"))
  gg : findIn K (.ref C) "__getattr__" = some none
  noN : findIn K (.ref C) "at" = some none
  iC : findIn K (.ref C) "__init__" = some (some (.ref fI))
  tC : typeIn K (.ref fI) = some (.type "function")
  kC : keepIn K (.ref C) = true
  exC : subIn K (.ref C) (.type "BaseException") = some true
  tyC : typeIn K (.ref C) = some (.type "type")
  hdC : hasDictIn K C = true
  te : exmOne K (.ref C) (.ref C) = some true
  fn : ∃ (oc : Value) (od : Option Addr) (doc pm : Value) (an : Option Addr) (cdv ct : Value) (osl : Array (Option Value)) (p1 p2 q1 q2 q3 q4 : Pos),
    K.lookup fI = some ⟨oc, od, .func (fnOf "__init__" ql (iA p1 p2) (iB q1 q2 q3 q4) iS .none .none doc pm an cdv ct), osl⟩ ∧ codeIn K cdv ql = true
theorem one_size (v : Value) : [v].length ≤ sizeLine := by
  rw [sizeLine_eq]
  exact (by decide : 1 ≤ 16777216)
theorem kept_but {K : Frag} {h h' : Heap} {x : Addr} (X : K.In h) (hx : K.lookup x = none) (k : ∀ b o, b ≠ x → h.get? b = some o → h'.get? b = some o) : K.In h' := fun a o e =>
  k a o (fun z => by rw [z, hx] at e; cases e) (X a o e)
theorem ldC {M : Model} {s : Shared} {name : Str} {scope : Scope} {L a : Addr} {cd : Value} {m : Str → Option Value} {x : Str} {pos : Pos} {v : Value} {Q : Value → Shared → Prop} {A : Around} {E : Value → Shared → Prop} (hn : s.heap.Ns L m) (hv : m x = some v) (h : Q v s)
    (hk : scope.kind = .function := by rfl) (hl : (envOfC name scope L a cd).kindOf x = some .local := by rfl) (hd : (x == ("__debug__" : Str)) = false := by decide) :
    wpAny M A (eval (.Name x pos) (envOfC name scope L a cd)) Q E s := wpAny_Name (wpAny_loadName_local hk hl hn hv h) hd
/-- what __init__ leaves of a fresh exception at x -/
structure InitEnd (h h' : Heap) (x C dx t1 : Addr) (v : Value) : Prop where
  keep : ∀ b o, b ≠ x → h.get? b = some o → h'.get? b = some o
  obj : h'.get? x = some { cls := .ref C, dict := some dx, data := .fields #[.ref t1, .none, .none, .none, .bool false, .none] }
  dbig : h.objs.size ≤ dx
  dne : dx ≠ x
  ns : h'.Ns1 dx (fun y => if y = "at" then some v else none)
/-- a made Low -/
structure OwnMade (h h' : Heap) (e C d : Addr) (v : Value) : Prop where
  keep : ∀ b o, h.get? b = some o → h'.get? b = some o
  new : h.objs.size ≤ e
  obj : ∃ oe vs, h'.get? e = some oe ∧ oe.cls = .ref C ∧ oe.dict = some d ∧ oe.data = .fields vs ∧ vs[1]? = some .none
  dbig : h.objs.size ≤ d
  dne : d ≠ e
  ns : h'.Ns1 d (fun y => if y = "at" then some v else none)
section
variable {prog : Program} {w : World} {A : Around} {E : Value → Shared → Prop} {R : Result → Shared → Prop} {s : Shared} {K : Frag} {mg : Str → Option Value} {nm ql : Str} {C fI : Addr}
theorem low_init (T : LowTxt K mg nm ql C fI) {x t0 : Addr} {v : Value} (X : K.In s.heap) (hlim : s.heap.NoLimit) (hx : s.heap.get? x = some (excO C t0)) (hnx : K.lookup x = none) (hroom : A.depth < recursionLimit)
    (hq : ∀ h' tk dx, InitEnd s.heap h' x C dx t0 v → R (.ok (.ret .none)) { s with heap := h', toks := tk }) :
    codeAny (model prog w) A (.call (.ref fI) ⟨[.ref x, v], []⟩) R s := by
  obtain ⟨oc, od, doc, pm, an, cdv, ct, osl, p1, p2, q1, q2, q3, q4, ho, hcd⟩ := T.fn
  obtain ⟨nm, q, N, bs, bm, sn, sub, ab, col, dd, k0, k1, k2, k3, k5, hC, hbm⟩ := T.cls
  have hcl : clsIn K C = some { name := nm, bases := bs, mro := .ref C :: bm, ns := N, qualname := q, hasDict := true, slotNames := sn, subclasses := sub, abstract := ab, collection := col, hasDel := false } := by unfold clsIn; rw [hC] <;> rfl
  refine Att.call_fn (binds := [("self", .ref x), ("at", v)]) X hlim ho hcd hroom (BindsTo.of_eq (by first | rfl | with_unfolding_all rfl)) (by first | rfl | decide | with_unfolding_all rfl) (fun s₁ IC => ?_) rfl rfl rfl
  obtain ⟨h₁, tk₁, rfl⟩ := IC.toInCall.same
  have k : ∀ b o, s.heap.get? b = some o → h₁.get? b = some o := IC.toInCall.keep
  have hn := IC.toInCall.ns
  have hxL : s.heap.objs.size ≠ x := Nat.ne_of_gt (Heap.lt_size hx)
  have X₁ : K.In h₁ := X.keeps k
  have hx₁ := k _ _ hx
  -- self.by = by
  show wpAny _ _ (execs _ _) _ _ _
  refine wpAny_execs_cons (plainObj_wpAny_Assign_Attribute ?_)
  refine ldC (v := v) hn (by first | rfl | with_unfolding_all rfl | kernel_rfl) (ldC (v := .ref x) hn (by first | rfl | with_unfolding_all rfl | kernel_rfl) ?_)
  refine set_plain X₁ (ox := excO C t0) (od := none) ⟨hx₁, rfl, rfl, trivial⟩ T.sa ?_
  refine exc_osa X₁ hx₁ hcl (show refsVE (.ref C :: bm) = true from hbm) rfl T.noN (fun h₃ tk₃ dx k₃ dn dne hx₃ hn₃ => ?_)
  show wpAny _ _ (execs _ _) _ _ _
  have z : s.heap.objs.size < h₁.objs.size := hn.lt
  exact wpAny_execs_nil (hq h₃ tk₃ dx ⟨fun b o hb e => k₃ b o hb (k b o e), hx₃, Nat.le_of_lt (Nat.lt_of_lt_of_le z dn), dne, hn₃⟩)
theorem low_made (T : LowTxt K mg nm ql C fI) {v : Value} (X : K.In s.heap) (hlim : s.heap.NoLimit) (hroom : A.depth + 1 < recursionLimit)
    (hq : ∀ h' tk e d, OwnMade s.heap h' e C d v → R (.ok (.ret (.ref e))) { s with heap := h', toks := tk }) :
    codeAny (model prog w) A (.call (.ref C) ⟨[v], []⟩) R s := by
  obtain ⟨nm, q, N, bs, bm, sn, sub, ab, col, dd, k0, k1, k2, k3, k5, hC, hbm⟩ := T.cls
  obtain ⟨hp, g, dr, tk, os⟩ := s
  have k : ∀ b o, hp.get? b = some o → ((hp.push (kdv_tup [v])).push (excO C hp.objs.size)).get? b = some o := fun b o e => Heap.get?_push_of_some _ (Heap.get?_push_of_some _ e)
  have hget : ((hp.push (kdv_tup [v])).push (excO C hp.objs.size)).get? (hp.objs.size + 1) = some (excO C hp.objs.size) := by heap_get
  have hnx : K.lookup (hp.objs.size + 1) = none := by
    cases e : K.lookup (hp.objs.size + 1) with
    | none => rfl
    | some o =>
      have z : hp.get? (hp.objs.size + 1) = some o := X _ _ e
      exact absurd (Nat.lt_of_succ_lt (Heap.lt_size z)) (Nat.lt_irrefl _)
  refine call_own F.excBase_ValueError (fun X => refsVE_contains X bm hbm) (X _ _ hC) (looks_findIn X T.iC) (fun self => bind_fn X self T.tC) (one_size v) ?_
  refine low_init (s := ⟨(hp.push (kdv_tup [v])).push (excO C hp.objs.size), g, dr, tk, os⟩) T (X.keeps k) (hlim.keeps k) hget hnx ?_ fun h' tk' dx ⟨k', hx, dn, dne, hns⟩ => ?_
  · show A.depth + 1 < recursionLimit
    exact hroom
  · have old : ∀ b o, hp.get? b = some o → h'.get? b = some o := fun b o e => k' b o (Nat.ne_of_lt (Nat.lt_succ_of_lt (Heap.lt_size e))) (k b o e)
    have z : hp.objs.size + 1 + 1 ≤ dx := by
      first
        | (simpa only [Heap.size_push] using dn)
        | exact dn
        | (have q := dn; rw [Heap.size_push, Heap.size_push] at q; exact q)
    exact ⟨rfl, hq h' tk' (hp.objs.size + 1) dx ⟨old, Nat.le_succ _, ⟨_, _, hx, rfl, rfl, rfl, rfl⟩, Nat.le_trans (Nat.le_trans (Nat.le_succ _) (Nat.le_succ _)) z, dne, hns⟩⟩
end
end LowX
end PySem
namespace L2
open PySem PySem.Spec PyProof.Rows
theorem relO_low {v : V} {v' : Value} (r : RelV v v') (f : Str) : RelO (List.lookup f [(("at" : Str), v)]) (if f = "at" then some v' else none) := by
  by_cases hw : f = "at"
  · subst hw
    rw [if_pos rfl]
    have q : List.lookup ("at" : Str) [(("at" : Str), v)] = some v := by simp [List.lookup]
    rw [q]
    exact r
  · rw [if_neg hw]
    have qw : (f == ("at" : Str)) = false := by simpa using hw
    have q2 : List.lookup f [(("at" : Str), v)] = none := by simp [List.lookup, qw]
    rw [q2]
    trivial
section
variable {X : Cx} {nm ql : Str} {C fI : Addr}
/-- Low(e) -/
def tMkLow (C : Addr) (ta : TA) : St → Hp → XK → Prop := fun σ H Q => ta σ H fun vs H1 => ∃ v, vs = [v] ∧ ∀ d, H1 d = none → Q (.ref C) (some d) (upd H1 d (.xd [(("at" : Str), v)]))
theorem pmk_low {a : Expr} {ta : TA} {p pos : Pos} {k : Nat} (T : PySem.LowX.LowTxt X.K X.mg nm ql C fI) (hr : Room k X.A) (ha : PA X [a] ta) (hg : Gl X nm := by rfl)
    (he : starEach (a :: []) X.env = (false, eval a X.env) :: starEach [] X.env := by rfl) (hpl : (backTo pos (starEach [] X.env)).any (·.1) = false := by rfl) :
    PMk X (.Call (.Name nm p) [a] [] pos) (tMkLow C ta) := by
  intro pins s σ H Q I h
  refine wpAny_Call_Name_kw (ld_glob I hg T.gC ?_ T.nd)
  refine PySem.W.callWith_K (h₀ := X.base) I.ok.mod.kin T.kC (thn (ha.run pos pins s σ H _ I h) fun us s1 hh => ?_) he hpl
  obtain ⟨vs, H1, I1, r1, v, ev, q1⟩ := hh
  subst ev
  refine ⟨I1.kIn, ?_⟩
  cases r1 with
  | cons rv rn =>
    rename_i v' us'
    cases rn
    show wpAny _ _ (call (.ref C) [v']) _ _ _
    have hlim := I1.nolimit
    obtain ⟨hp, g, dr, tk, os⟩ := s1
    refine wpAny_call (PySem.LowX.low_made T I1.kIn hlim (by have := hr.dp; omega) fun h' tk' e d M => ?_)
    show MkP X pins σ Q (.ref e) ⟨h', g, dr, tk', os⟩
    obtain ⟨oe, fv, hoe, hc, hd, hdat, h1⟩ := M.obj
    have hns := M.ns
    obtain ⟨G', g1, g2⟩ := restrict h' fun b => decide (b ≠ e)
    have gk : ∀ b, b ≠ e → G'.get? b = h'.get? b := fun b hb => g1 b (decide_eq_true hb)
    have ge : G'.get? e = none := g2 e (by simp)
    have old : ∀ b o, hp.get? b = some o → G'.get? b = some o := fun b o q => (gk b (Nat.ne_of_lt (Nat.lt_of_lt_of_le (Heap.lt_size q) M.new))).trans (M.keep b o q)
    have ob : ObjOk X.prog X.w (upd H1 d (.xd [(("at" : Str), v)])) G' d (.xd [(("at" : Str), v)]) :=
      ⟨_, hns.at (fun o q => (gk d M.dne).trans q), fun f => relO_low rv f⟩
    have J : Inv X pins σ (upd H1 d (.xd [(("at" : Str), v)])) ⟨G', g, dr, tk', os⟩ := I1.laid (t' := tk') old M.dbig ob
    refine ⟨e, oe, fv, ⟨G', g, dr, tk', os⟩, _, .ref C, some d, rfl, J, fun b o q => ?_, ge, hoe, ⟨hc, hd⟩, hdat, h1, ?_, rfl, I1.bare, raises_own T.exC T.tyC, q1 d (I1.hok.fresh M.dbig)⟩
    · by_cases hb : b = e
      · have q' : G'.get? b = some o := q
        rw [hb, ge] at q'; cases q'
      · exact (gk b hb).symm.trans q
    · rw [upd_ne (Ne.symm M.dne)]
      exact I1.hok.fresh M.new
/-- raise Low(e) -/
def tRaiseLow (C : Addr) (W : WX) (ta : TA) : TS := fun _ σ H => tMkLow C ta σ H fun cls d H' => W cls d σ H'
theorem ps_raiseLow {a : Expr} {ta : TA} {W : WX} {p pos pos2 : Pos} {k : Nat} (hc : X.calm = true) (T : PySem.LowX.LowTxt X.K X.mg nm ql C fI) (hr : Room k X.A) (tk : Takes X W) (ha : PA X [a] ta) (hg : Gl X nm := by rfl)
    (he : starEach (a :: []) X.env = (false, eval a X.env) :: starEach [] X.env := by rfl) (hpl : (backTo pos (starEach [] X.env)).any (·.1) = false := by rfl) :
    PS X (.Raise (some (.Call (.Name nm p) [a] [] pos)) none pos2) (tRaiseLow C W ta) := ps_raise hc tk (pmk_low T hr ha hg he hpl)
/-- low.by, low the exception that the suite holds (at a; its class cls, its dict d) -/
def tByLow (C : Addr) (a : Addr) (cls : Value) (d : Option Addr) (te : TE) : TE := fun σ H Q => te σ H fun x H1 => x = .ref a ∧ cls = .ref C ∧ ∃ (dd : Addr) (v : V), d = some dd ∧ H1 dd = some (.xd [(("at" : Str), v)]) ∧ Q v H1
theorem pe_byLow {a : Addr} {oe : Obj} {cls : Value} {d : Option Addr} {pn : List (Addr × Obj)} {e : Expr} {te : TE} {pos : Pos} (T : PySem.LowX.LowTxt X.K X.mg nm ql C fI) (hz : Zc cls d oe) (hf : ∃ vs, oe.data = .fields vs) (he : PE (X.suite a ((a, oe) :: pn)) e te)
    (hb : attributeBase e "at" X.env (eval e X.env) = eval e X.env := by rfl) :
    PE (X.suite a ((a, oe) :: pn)) (.Attribute e "at" pos) (tByLow C a cls d te) := by
  refine ⟨fun pins s σ H Q I h => ?_⟩
  refine attr_of hb (thn (he.run pins s σ H _ I h) fun u s1 hh => ?_)
  obtain ⟨x, H1, I1, rx, ex, ec, dd, v, ed, ea, q⟩ := hh
  subst ex
  obtain rfl : u = Value.ref a := rx
  subst ec
  subst ed
  obtain ⟨ha, _⟩ := I1.pin (a, oe) (List.mem_append_left _ List.mem_cons_self)
  obtain ⟨vs, hd⟩ := hf
  have hx : ObjOk X.prog X.w H1 s1.heap dd (.xd [(("at" : Str), v)]) := I1.hok dd _ ea
  obtain ⟨mA, hns, hr⟩ := hx
  obtain ⟨od, ho, hl⟩ := lookIn_ns hns
  have l : List.lookup ("at" : Str) [(("at" : Str), v)] = some v := by simp [List.lookup]
  obtain ⟨u, hu, ru⟩ := RelO.some_of (v := v) (o := mA "at") (by rw [← l]; exact hr "at")
  have J : PySem.W.InstAt s1.heap a oe C (some od) := ⟨ha, hz.1, by unfold PySem.W.notCls; rw [hd] <;> rfl, by rw [hz.2]; exact ho⟩
  exact HandSPX.exc_get I1.kIn J T.ga T.gg T.exC (PySem.W.findObj_own T.hdC T.noN rfl (by rw [hl, hu])) (handed_of ru) ⟨v, H1, I1.tok _, ru, q⟩
end
end L2

/-! the head: what the top leaves, looked at once -/
namespace KV
open PySem PySem.Spec PyProof.Rows L2 He
/-- a global that is a built-in -/
def bltB (K : PySem.W.Frag) (x : Str) (id : String) : Bool := match PySem.W.nsIn K mainGlobals x with
  | some (some (.builtin i)) => decide (i = id)
  | _ => false
theorem bltB_ok {K : PySem.W.Frag} {h : Heap} {mg : Str → Option Value} (X : K.In h) (G : h.Ns mainGlobals mg) {x : Str} {id : String} (c : bltB K x id = true) : mg x = some (.builtin id) := by
  unfold bltB at c
  split at c
  · rename_i i e
    rw [← of_decide_eq_true c]
    exact PySem.W.mg_of X G e
  · cases c
/-- an error's class over ValueError -/
def errB (K : PySem.W.Frag) (C : Addr) : Bool := match K.lookup C with
  | some ⟨.type "type", _, .cls cd, sl⟩ => (match cd.mro, sl.toList with
    | .ref C' :: bm, [_, _, _, _, some (.builtin n), _] => C' == C && n == "ValueError.__new__" && !cd.hasDel && cd.hasDict && PySem.HandSPX.refsVE bm
    | _, _ => false)
  | _ => false
theorem errB_ok {K : PySem.W.Frag} {C : Addr} (c : errB K C = true) :
    ∃ nm q N bs bm sn sub ab col dd k0 k1 k2 k3 k5, K.lookup C = some (excClassObj nm q C N bs bm true sn sub ab col dd k0 k1 k2 k3 k5 "ValueError.__new__") ∧ PySem.HandSPX.refsVE bm = true := by
  unfold errB at c
  split at c
  · rename_i dd cd sl ho
    split at c
    · rename_i C' bm k0 k1 k2 k3 n k5 hm hs
      simp only [Bool.and_eq_true, beq_iff_eq, Bool.not_eq_true'] at c
      obtain ⟨⟨⟨⟨rfl, rfl⟩, hdel⟩, hdi⟩, hok⟩ := c
      obtain ⟨nm, bs, mro, ns, qn, hd, sn, sub, ab, col, del⟩ := cd
      dsimp only at hm hdel hdi
      subst hm hdel hdi
      have hsl : sl = #[k0, k1, k2, k3, some (.builtin "ValueError.__new__"), k5] := by
        obtain ⟨l⟩ := sl
        simp only at hs
        rw [hs]
      subst hsl
      exact ⟨nm, qn, ns, bs, bm, sn, sub, ab, col, dd, k0, k1, k2, k3, k5, ho, hok⟩
    · cases c
  · cases c
def kwNo (K : PySem.W.Frag) (f : Addr) : Bool := match K.lookup f with
  | some ⟨_, _, .func fd, _⟩ => (match fd.kwdefaults with
    | .none => true
    | _ => false)
  | _ => false
/-- all that is asked of an error's class x with the field at -/
def lowB (K : PySem.W.Frag) (x : Str) : Bool :=
  errB K (ga K x) && (eqO (PySem.W.findIn K (.ref (ga K x)) "__setattr__") (some (some (.builtin "object.__setattr__"))) && (eqO (PySem.W.findIn K (.ref (ga K x)) "__getattribute__") (some (some (.builtin "BaseException.__getattribute__"))) &&
  (eqO (PySem.W.findIn K (.ref (ga K x)) "__getattr__") (some none) && (eqO (PySem.W.findIn K (.ref (ga K x)) "at") (some none) && (eqO (PySem.W.findIn K (.ref (ga K x)) "__init__") (some (some (.ref (ma K (ga K x) "__init__")))) &&
  (decide (PySem.W.typeIn K (.ref (ma K (ga K x) "__init__")) = some (.type "function")) && (PySem.W.keepIn K (.ref (ga K x)) && (decide (PySem.W.subIn K (.ref (ga K x)) (.type "BaseException") = some true) && (decide (PySem.W.typeIn K (.ref (ga K x)) = some (.type "type")) &&
  (PySem.W.hasDictIn K (ga K x) && (decide (PySem.W.exmOne K (.ref (ga K x)) (.ref (ga K x)) = some true) && kwNo K (ma K (ga K x) "__init__"))))))))))))
theorem low_of {K : PySem.W.Frag} {h : Heap} {mg : Str → Option Value} (X : K.In h) (G : h.Ns mainGlobals mg) {x ql : Str} {p1 p2 q1 q2 q3 q4 : Pos} {d : FnD} (hd : d = ⟨(x, some "__init__"), "__init__", ql, PySem.LowX.iA p1 p2, PySem.LowX.iB q1 q2 q3 q4, PySem.LowX.iS⟩)
    (e : fnObs K d.at_ = d.val) (c : (Fa.code d.at_ d.qual).ok K = true) (g : (Fa.glo x).ok K = true) (b : lowB K x = true) (nd : (x == ("__debug__" : Str)) = false := by decide) : PySem.LowX.LowTxt K mg x ql (ga K x) (ma K (ga K x) "__init__") := by
  subst hd
  obtain ⟨b1, b⟩ := ba b
  obtain ⟨b2, b⟩ := ba b
  obtain ⟨b3, b⟩ := ba b
  obtain ⟨b4, b⟩ := ba b
  obtain ⟨b5, b⟩ := ba b
  obtain ⟨b6, b⟩ := ba b
  obtain ⟨b7, b⟩ := ba b
  obtain ⟨b8, b⟩ := ba b
  obtain ⟨b9, b⟩ := ba b
  obtain ⟨b10, b⟩ := ba b
  obtain ⟨b11, b⟩ := ba b
  obtain ⟨b12, b13⟩ := ba b
  obtain ⟨oc, od, osl, kV, doc, pm, an, cdv, ct, lk, hc⟩ := fn_ok e c
  have lk' : K.lookup (ma K (ga K x) "__init__") = some ⟨oc, od, .func (PySem.W.fnOf "__init__" ql (PySem.LowX.iA p1 p2) (PySem.LowX.iB q1 q2 q3 q4) PySem.LowX.iS .none kV doc pm an cdv ct), osl⟩ := lk
  have kn : kV = .none := by
    unfold kwNo at b13
    rw [lk'] at b13
    cases kV <;> first | rfl | exact Bool.noConfusion (show (false : Bool) = true from b13)
  subst kn
  exact { gC := glo_ok X G g, nd := nd, cls := errB_ok b1, sa := eqO_ok b2, ga := eqO_ok b3, gg := eqO_ok b4, noN := eqO_ok b5, iC := eqO_ok b6, tC := of_decide_eq_true b7, kC := b8, exC := of_decide_eq_true b9, tyC := of_decide_eq_true b10, hdC := b11, te := of_decide_eq_true b12,
          fn := ⟨_, _, _, _, _, _, _, _, _, _, _, _, _, _, lk', hc⟩ }
/-! the Hook: the facts fa, the defs fn, and one more look ex -/
def obsZ (n : Nat) (fa : List Fa) (fn : List FnD) (ex : PySem.W.Frag → Bool) (g : Addr → Option Obj) : Al × Bool := (obsE fa fn (frG g (asG g n)), ex (frG g (asG g n)))
def hookZ (n : Nat) (fa : List Fa) (fn : List FnD) (ex : PySem.W.Frag → Bool) : PySem.W.Hook where
  α := Al × Bool
  obs := fun s => obsZ n fa fn ex s.heap.get?
  val := fun _ => (valE fn, true)
  says := fun _ h => ∃ K : PySem.W.Frag, K.In h ∧ SaysE fa fn K ∧ ex K = true
  of := fun _ _ e => ⟨_, frG_in, congrArg (fun z : Al × Bool => z.1) e, congrArg (fun z : Al × Bool => z.2) e⟩
  keeps := fun _ _ _ ⟨K, hK, c, d⟩ k => ⟨K, PySem.W.Frag.In.keeps hK k, c, d⟩
theorem obsZ_eq {n : Nat} {fa : List Fa} {fn : List FnD} {ex : PySem.W.Frag → Bool} {g : Addr → Option Obj} {s : Shared} (h : ∀ a, g a = s.heap.get? a) : obsZ n fa fn ex g = (hookZ n fa fn ex).obs s := by
  have e : g = s.heap.get? := funext h
  rw [e] <;> rfl
/-- a def of the text, by a path -/
theorem saysFn {fa : List Fa} {fn : List FnD} {K : PySem.W.Frag} (c : SaysE fa fn K) (i : Nat) {d : FnD} (h : fn[i]? = some d := by rfl) : fnObs K d.at_ = d.val ∧ (Fa.code d.at_ d.qual).ok K = true := by
  have c2 := (ba (show ((fa.all fun f => f.ok K) && fn.all fun d => (Fa.code d.at_ d.qual).ok K) = true from congrArg (fun z : Al => z.1) c)).2
  have e : fn.map (fun d => fnObs K d.at_) = fn.map FnD.val := congrArg (fun z : Al => z.2) c
  have e2 : (fn.map fun d => fnObs K d.at_)[i]? = (fn.map FnD.val)[i]? := by rw [e]
  rw [List.getElem?_map, List.getElem?_map, h] at e2
  exact ⟨Option.some.inj e2, List.all_eq_true.mp c2 d (List.mem_of_getElem? h)⟩
/-- a def of the top: its name, its statement -/
def dTop (x : Str) (st : Stmt) : FnD := ⟨(x, none), x, x, defArgs st, defBody st, defScope st⟩
theorem keep_fn {K : PySem.W.Frag} {f : Addr} {oc : Value} {od : Option Addr} {fd : FuncData} {osl : Array (Option Value)} (h : K.lookup f = some ⟨oc, od, .func fd, osl⟩) : PySem.W.keepIn K (.ref f) = true := by
  simp only [PySem.W.keepIn, h]
theorem saysFun {fa : List Fa} {fn : List FnD} {K : PySem.W.Frag} (c : SaysE fa fn K) (i : Nat) {x : Str} {st : Stmt} (h : fn[i]? = some (dTop x st) := by rfl) : ∃ fd, Fun K x x st (ga K x) fd := by
  obtain ⟨e, k⟩ := saysFn c i h
  obtain ⟨oc, od, osl, kV, doc, pm, an, cdv, ct, lk, hc⟩ := fn_ok e k
  exact ⟨_, fun_mk lk hc (keep_fn lk)⟩
/-- a law's end, over a head by facts -/
theorem walk_ofGE {l : PySem.W.OpenLaw} {n k : Nat} {q : Program} {loose : List Str} {XP : (Str → Option Value) → Heap → Prop} {YP : World → Heap → Prop} {d : DefRec} {x : Str}
    (most : l.most = some n) (fits : n ≤ sizeLine) (plain : d.params.defaults = []) (room : Room k callerA)
    (F : ∀ (w : World) (mg : Str → Option Value) (fa : Addr) (h : Heap), YP w h → h.Ns mainGlobals mg → mg d.name = some (.ref fa) →
      ∃ (K : PySem.W.Frag) (fd : FuncData) (sp : Sp), K.In h ∧ (∀ (s : Shared) (u : Value), BindsTo s fd ⟨[u], []⟩ [(x, u)]) ∧
        (∀ (G : Hp) (a : Addr) (ns : List Int), ns.length ≤ n → SqL K G a (ns.map V.int) → sp [.ref a] G (fun v _ => v = .bl true) fun _ _ _ => False) ∧
        ∀ base : Heap, K.In base → base.Ns mainGlobals mg → FnOkG l.prog w K mg base k fa fd [x] sp) :
    PySem.W.WalkO q loose XP YP l.row.toRowW d [] (fun f vs => PySem.call f vs) := by
  refine Att.attach_call most plain fun w s0 s1 mg mb fa o pm cd doc a vs ns G Y ho hd hcd hmg hobj hints hlen hg => ?_
  obtain ⟨K, fd, sp, KX, hb, hsp, hF⟩ := F w mg fa _ Y G.T.g hmg
  exact law_callG KX G.T.g G.T.b G.T.builtins G.T.nolimit hg hobj hints (Nat.le_trans hlen fits) room hF hb fun H hS => hsp H a ns hlen hS
end KV

/-! the text -/
namespace KV
open PySem PySem.Spec PyProof.Rows L2
def top (i : Nat) : Stmt := PySem.Challenge.pw_batchnumbers_k45_whole_best_questions.main.body.getD i (.Pass ⟨0, 0, 0, 0⟩)
/-- the built-in names that no global hides -/
structure Bl (mg : Str → Option Value) : Prop where
  isi : mg "isinstance" = none
  int : mg "int" = none
  bool : mg "bool" = none
  tuple : mg "tuple" = none
  list : mg "list" = none
  len : mg "len" = none
  range : mg "range" = none
  sorted : mg "sorted" = none
  all : mg "all" = none
  abs : mg "abs" = none
  divmod : mg "divmod" = none
  repr : mg "repr" = none
  min : mg "min" = none
  max : mg "max" = none
  enumerate : mg "enumerate" = none
  any : mg "any" = none
  gcd : mg "gcd" = some (.builtin "math.gcd")
  lcm : mg "lcm" = some (.builtin "math.lcm")
end KV

/-! the mathematics of fitting integers -/
namespace KM
/-- the product -/
def prd : List Int → Int
  | [] => 1
  | n :: r => n * prd r
theorem prd_app : ∀ a b : List Int, prd (a ++ b) = prd a * prd b
  | [], b => by show prd b = 1 * prd b; rw [Int.one_mul]
  | n :: r, b => by
    show n * prd (r ++ b) = n * prd r * prd b
    rw [prd_app r b, Int.mul_assoc]
theorem take_at {α : Type} : ∀ {l : List α} {i : Nat} {x : α}, l[i]? = some x → l.take (i + 1) = l.take i ++ [x]
  | [], i, x, h => by simp at h
  | a :: l, 0, x, h => by
    have e : a = x := Option.some.inj h
    subst e
    rfl
  | a :: l, i + 1, x, h => by
    have ih := take_at (l := l) (i := i) (x := x) h
    show a :: l.take (i + 1) = a :: l.take i ++ [x]
    rw [ih]
    rfl
theorem drop_at {α : Type} : ∀ {l : List α} {i : Nat} {x : α}, l[i]? = some x → l.drop i = x :: l.drop (i + 1)
  | [], i, x, h => by simp at h
  | a :: l, 0, x, h => by
    have e : a = x := Option.some.inj h
    subst e
    rfl
  | a :: l, i + 1, x, h => drop_at (l := l) (i := i) (x := x) h
theorem prd_one (n : Int) : prd [n] = n := Int.mul_one n
theorem prd_at {l : List Int} {i : Nat} {x : Int} (h : l[i]? = some x) : prd (l.take (i + 1)) = prd (l.take i) * x := by
  rw [take_at h, prd_app, prd_one]
/-- moduli -/
structure Lot (ns : List Int) : Prop where
  ge : ∀ n ∈ ns, 3 ≤ n
  lt : ns.Pairwise (fun a b => a < b)
  co : ns.Pairwise (fun a b => Int.gcd a b = 1)
theorem Lot.nil : Lot [] := ⟨fun _ h => by simp at h, .nil, .nil⟩
theorem Lot.take {ns : List Int} (h : Lot ns) (i : Nat) : Lot (ns.take i) :=
  ⟨fun n m => h.ge n (List.mem_of_mem_take m), h.lt.sublist (List.take_sublist i ns), h.co.sublist (List.take_sublist i ns)⟩
theorem prd_pos : ∀ {ns : List Int}, (∀ n ∈ ns, 3 ≤ n) → 0 < prd ns
  | [], _ => by decide
  | n :: r, h => Int.mul_pos (by have := h n (by simp); omega) (prd_pos fun m hm => h m (by simp [hm]))
theorem dvd_prd : ∀ {ns : List Int} {n : Int}, n ∈ ns → n ∣ prd ns
  | m :: r, n, h => by
    rcases List.mem_cons.mp h with e | e
    · subst e
      exact ⟨prd r, rfl⟩
    · obtain ⟨c, hc⟩ := dvd_prd e
      exact ⟨m * c, by show m * prd r = _; rw [hc, ← Int.mul_assoc, ← Int.mul_assoc, Int.mul_comm m n]⟩
theorem gcd_mul_one {q a b : Int} (h1 : Int.gcd q a = 1) (h2 : Int.gcd q b = 1) : Int.gcd q (a * b) = 1 := by
  unfold Int.gcd at *
  rw [Int.natAbs_mul]
  exact Nat.Coprime.mul_right h1 h2
theorem gcd_of_mul {q a b : Int} (h : Int.gcd q (a * b) = 1) : Int.gcd q a = 1 ∧ Int.gcd q b = 1 := by
  unfold Int.gcd at *
  rw [Int.natAbs_mul] at h
  exact Nat.coprime_mul_iff_right.mp h
theorem gcd_prd {q : Int} : ∀ {ns : List Int}, (∀ n ∈ ns, Int.gcd q n = 1) → Int.gcd q (prd ns) = 1
  | [], _ => by show Int.gcd q 1 = 1; simp
  | n :: r, h => gcd_mul_one (h n (by simp)) (gcd_prd fun m hm => h m (by simp [hm]))
theorem gcd_prd_inv {q : Int} : ∀ {ns : List Int}, Int.gcd q (prd ns) = 1 → ∀ n ∈ ns, Int.gcd q n = 1
  | m :: r, h, n, hn => by
    obtain ⟨h1, h2⟩ := gcd_of_mul (show Int.gcd q (m * prd r) = 1 from h)
    rcases List.mem_cons.mp hn with e | e
    · rw [e]
      exact h1
    · exact gcd_prd_inv h2 n e
theorem dvd_mul_co {a b c : Int} (g : Int.gcd a b = 1) (h1 : a ∣ c) (h2 : b ∣ c) : a * b ∣ c := by
  have e1 := Int.natAbs_dvd_natAbs.mpr h1
  have e2 := Int.natAbs_dvd_natAbs.mpr h2
  have e := Nat.Coprime.mul_dvd_of_dvd_of_dvd (show Nat.Coprime a.natAbs b.natAbs from g) e1 e2
  rw [← Int.natAbs_mul] at e
  exact Int.natAbs_dvd_natAbs.mp e
theorem prd_dvd : ∀ {ns : List Int} {c : Int}, ns.Pairwise (fun a b => Int.gcd a b = 1) → (∀ n ∈ ns, n ∣ c) → prd ns ∣ c
  | [], c, _, _ => ⟨c, by show c = 1 * c; rw [Int.one_mul]⟩
  | n :: r, c, h, hd => by
    obtain ⟨h1, h2⟩ := List.pairwise_cons.mp h
    exact dvd_mul_co (gcd_prd h1) (hd n (by simp)) (prd_dvd h2 fun m hm => hd m (by simp [hm]))
/-- an integer fits -/
def fit (ns : List Int) (n : Int) : Bool := ns.all fun q => decide (n % q < 2)
theorem fit_iff {ns : List Int} {n : Int} : fit ns n = true ↔ ∀ q ∈ ns, n % q < 2 := by
  unfold fit
  simp only [List.all_eq_true, decide_eq_true_eq]
/-- all numbers below the product that fit, ascending -/
def canon (ns : List Int) : List Int := ((List.range (prd ns).toNat).map Int.ofNat).filter (fit ns)
theorem canon_lt (ns : List Int) : (canon ns).Pairwise (fun a b => a < b) := by
  unfold canon
  refine List.Pairwise.filter _ (List.pairwise_map.mpr ?_)
  exact List.pairwise_lt_range.imp fun h => Int.ofNat_lt.mpr h
theorem canon_nodup (ns : List Int) : (canon ns).Nodup := (canon_lt ns).imp fun h e => by subst e; exact absurd h (Int.lt_irrefl _)
theorem mem_canon {ns : List Int} {n : Int} (hp : 0 < prd ns) : n ∈ canon ns ↔ 0 ≤ n ∧ n < prd ns ∧ ∀ q ∈ ns, n % q < 2 := by
  unfold canon
  rw [List.mem_filter, fit_iff, List.mem_map]
  constructor
  · rintro ⟨⟨a, ha, rfl⟩, h⟩
    have := List.mem_range.mp ha
    refine ⟨Int.natCast_nonneg a, ?_, h⟩
    show (a : Int) < prd ns
    omega
  · rintro ⟨h0, h1, h⟩
    exact ⟨⟨n.toNat, List.mem_range.mpr (by omega), by show (n.toNat : Int) = n; omega⟩, h⟩
/-- a sorted list with the same members is it -/
theorem is_canon {ns l s : List Int} (hp : 0 < prd ns) (nd : l.Nodup) (mem : ∀ n, n ∈ l ↔ 0 ≤ n ∧ n < prd ns ∧ ∀ q ∈ ns, n % q < 2) (pe : s.Perm l) (so : s.Pairwise (fun a b => a ≤ b)) : s = canon ns := by
  have p2 : s.Perm (canon ns) := pe.trans ((List.perm_ext_iff_of_nodup nd (canon_nodup ns)).mpr fun a => (mem a).trans (mem_canon hp).symm)
  refine List.Perm.eq_of_pairwise (le := fun a b => a ≤ b) (fun a b _ _ h1 h2 => Int.le_antisymm h1 h2) so ((canon_lt ns).imp fun h => Int.le_of_lt h) p2
/-! the program's way -/
def Rs (ns : List Int) (i : Nat) (l : List Int) : Prop := l.Nodup ∧ ∀ n, n ∈ l ↔ 0 ≤ n ∧ n < prd ns ∧ (∀ q ∈ ns.take i, n % q < 2) ∧ ∀ q ∈ ns.drop i, n % q = 0
theorem Rs.start {ns : List Int} (h : Lot ns) : Rs ns 0 [0] := by
  refine ⟨by simp, fun n => ?_⟩
  rw [List.mem_singleton]
  constructor
  · rintro rfl
    refine ⟨Int.le_refl _, prd_pos h.ge, fun q hq => ?_, fun q _ => Int.zero_emod q⟩
    simp at hq
  · rintro ⟨h0, h1, _, h3⟩
    have d : prd ns ∣ n := prd_dvd h.co fun q hq => Int.dvd_of_emod_eq_zero (h3 q (by simpa using hq))
    obtain ⟨c, rfl⟩ := d
    have pp := prd_pos h.ge
    have c0 : c = 0 := by
      rcases Int.lt_trichotomy c 0 with z | z | z
      · have := Int.mul_neg_of_pos_of_neg pp z
        omega
      · exact z
      · have : prd ns * 1 ≤ prd ns * c := Int.mul_le_mul_of_nonneg_left (by omega) (by omega)
        omega
    rw [c0, Int.mul_zero]
theorem mod_mod {n Q q : Int} (h : q ∣ Q) : n % Q % q = n % q := Int.emod_emod_of_dvd n h
theorem add_mod0 {r s q : Int} (h : s % q = 0) : (r + s) % q = r % q := by
  rw [Int.add_emod, h, Int.add_zero, Int.emod_emod]
theorem sub_mod0 {r s q : Int} (h : s % q = 0) : (r - s) % q = r % q := by
  rw [Int.sub_emod, h, Int.sub_zero, Int.emod_emod]
theorem Rs.next {ns l : List Int} {i : Nat} {q s : Int} (h : Lot ns) (R : Rs ns i l) (hq : ns[i]? = some q) (hs : s % q = 1) (ho : ∀ p ∈ ns, p ≠ q → s % p = 0) :
    Rs ns (i + 1) (l ++ l.map fun r => (r + s) % prd ns) := by
  obtain ⟨nd, mem⟩ := R
  have pp := prd_pos h.ge
  have hqm : q ∈ ns := List.mem_of_getElem? hq
  have q3 := h.ge q hqm
  have dropE := drop_at hq
  have takeE := take_at hq
  have apart : ∀ p, p ∈ ns.take i ∨ p ∈ ns.drop (i + 1) → p ∈ ns ∧ p ≠ q := by
    intro p hp
    have e : ns = ns.take i ++ (q :: ns.drop (i + 1)) := by rw [← dropE, List.take_append_drop]
    have lt := h.lt
    rw [e] at lt
    obtain ⟨_, l2, l3⟩ := List.pairwise_append.mp lt
    obtain ⟨l4, _⟩ := List.pairwise_cons.mp l2
    rcases hp with hp | hp
    · have := l3 p hp q (by simp)
      exact ⟨List.mem_of_mem_take hp, by omega⟩
    · have := l4 p hp
      exact ⟨List.mem_of_mem_drop hp, by omega⟩
  have rest0 : ∀ n, n ∈ l → n % q = 0 := fun n hn => ((mem n).mp hn).2.2.2 q (by rw [dropE]; simp)
  have qQ : q ∣ prd ns := dvd_prd hqm
  have shiftq : ∀ r, r ∈ l → ((r + s) % prd ns) % q = 1 := fun r hr => by
    rw [mod_mod qQ, Int.add_emod, rest0 r hr, hs]
    exact Int.emod_eq_of_lt (by omega) (by omega)
  refine ⟨List.nodup_append.mpr ⟨nd, ?_, ?_⟩, fun n => ?_⟩
  · refine List.pairwise_map.mpr ((List.Pairwise.and_mem.mp nd).imp ?_)
    rintro a b ⟨ha, hb, hab⟩ e
    obtain ⟨a0, a1, _⟩ := (mem a).mp ha
    obtain ⟨b0, b1, _⟩ := (mem b).mp hb
    have z := Int.emod_eq_emod_iff_emod_sub_eq_zero.mp e
    have e2 : a + s - (b + s) = a - b := by omega
    rw [e2] at z
    have z2 := Int.emod_eq_emod_iff_emod_sub_eq_zero.mpr z
    rw [Int.emod_eq_of_lt a0 a1, Int.emod_eq_of_lt b0 b1] at z2
    exact hab z2
  · intro a ha b hb e
    subst e
    obtain ⟨r, hr, e⟩ := List.mem_map.mp hb
    have h1 := shiftq r hr
    rw [e, rest0 a ha] at h1
    omega
  · rw [List.mem_append, List.mem_map, mem]
    constructor
    · rintro (⟨h0, h1, h2, h3⟩ | ⟨r, hr, rfl⟩)
      · refine ⟨h0, h1, fun p hp => ?_, fun p hp => h3 p (by rw [dropE]; exact List.mem_cons_of_mem _ hp)⟩
        rw [takeE] at hp
        rcases List.mem_append.mp hp with hp | hp
        · exact h2 p hp
        · have : p = q := by simpa using hp
          subst this
          have := h3 p (by rw [dropE]; simp)
          omega
      · obtain ⟨r0, r1, r2, r3⟩ := (mem r).mp hr
        have same : ∀ p, p ∈ ns.take i ∨ p ∈ ns.drop (i + 1) → ((r + s) % prd ns) % p = r % p := fun p hp => by
          obtain ⟨pm, pq⟩ := apart p hp
          rw [mod_mod (dvd_prd pm), add_mod0 (ho p pm pq)]
        refine ⟨Int.emod_nonneg _ (by omega), Int.emod_lt_of_pos _ pp, fun p hp => ?_, fun p hp => ?_⟩
        · rw [takeE] at hp
          rcases List.mem_append.mp hp with hp | hp
          · rw [same p (.inl hp)]
            exact r2 p hp
          · have : p = q := by simpa using hp
            subst this
            rw [shiftq r hr]
            omega
        · rw [same p (.inr hp)]
          exact r3 p (by rw [dropE]; exact List.mem_cons_of_mem _ hp)
    · rintro ⟨h0, h1, h2, h3⟩
      have nq := h2 q (by rw [takeE]; simp)
      have nq0 := Int.emod_nonneg n (show q ≠ 0 by omega)
      by_cases z : n % q = 0
      · refine .inl ⟨h0, h1, fun p hp => h2 p (by rw [takeE]; exact List.mem_append_left _ hp), fun p hp => ?_⟩
        rw [dropE] at hp
        rcases List.mem_cons.mp hp with e | e
        · rw [e]
          exact z
        · exact h3 p e
      · have z1 : n % q = 1 := by omega
        have same : ∀ p, p ∈ ns.take i ∨ p ∈ ns.drop (i + 1) → ((n - s) % prd ns) % p = n % p := fun p hp => by
          obtain ⟨pm, pq⟩ := apart p hp
          rw [mod_mod (dvd_prd pm), sub_mod0 (ho p pm pq)]
        refine .inr ⟨(n - s) % prd ns, (mem _).mpr ⟨Int.emod_nonneg _ (by omega), Int.emod_lt_of_pos _ pp, fun p hp => ?_, fun p hp => ?_⟩, ?_⟩
        · rw [same p (.inl hp)]
          exact h2 p (by rw [takeE]; exact List.mem_append_left _ hp)
        · rw [dropE] at hp
          rcases List.mem_cons.mp hp with e | e
          · subst e
            rw [mod_mod qQ, Int.sub_emod, z1, hs]
            rfl
          · rw [same p (.inr e)]
            exact h3 p e
        · rw [Int.emod_add_emod]
          have e : n - s + s = n := by omega
          rw [e]
          exact Int.emod_eq_of_lt h0 h1
theorem Rs.done {ns l s : List Int} (h : Lot ns) (R : Rs ns ns.length l) (pe : s.Perm l) (so : s.Pairwise (fun a b => a ≤ b)) : s = canon ns :=
  is_canon (prd_pos h.ge) R.1 (fun n => by rw [R.2, List.take_length, List.drop_length]; simp) pe so
theorem Rs.bd {ns l : List Int} {i : Nat} (R : Rs ns i l) {n : Int} (hn : n ∈ l) : 0 ≤ n ∧ n < prd ns := ⟨((R.2 n).mp hn).1, ((R.2 n).mp hn).2.1⟩
/-! the law's way -/
def Ls (ns : List Int) (i : Nat) (l : List Int) : Prop := l.Nodup ∧ ∀ n, n ∈ l ↔ 0 ≤ n ∧ n < prd (ns.take i) ∧ ∀ q ∈ ns.take i, n % q < 2
theorem Ls.start {ns : List Int} : Ls ns 0 [0] := by
  refine ⟨by simp, fun n => ?_⟩
  rw [List.mem_singleton]
  constructor
  · rintro rfl
    exact ⟨Int.le_refl _, by show (0 : Int) < 1; decide, fun q hq => by simp at hq⟩
  · rintro ⟨h0, h1, _⟩
    have e : prd (ns.take 0) = 1 := rfl
    omega
/-- one more modulus: what leaves e by q, and the same by the others -/
def lift (W q o n e : Int) : Int := n + W * ((e - n) * o % q)
def longer (W q o : Int) (l : List Int) : List Int := l.flatMap fun n => [lift W q o n 0, lift W q o n 1]
theorem lift_mod {W q o n e : Int} (ho : (o * W) % q = 1) (h0 : 0 ≤ e) (h1 : e < q) : lift W q o n e % q = e := by
  unfold lift
  have e1 : W * ((e - n) * o % q) % q = (e - n) % q := by
    rw [Int.mul_emod, Int.emod_emod, ← Int.mul_emod]
    have e2 : W * ((e - n) * o) = (e - n) * (o * W) := by rw [Int.mul_comm W, Int.mul_assoc]
    rw [e2, Int.mul_emod, ho, Int.mul_one, Int.emod_emod]
  rw [Int.add_emod, e1, ← Int.add_emod]
  have e3 : n + (e - n) = e := by omega
  rw [e3]
  exact Int.emod_eq_of_lt h0 h1
theorem lift_low {W q o n e : Int} (hn : 0 ≤ n) (hW : n < W) : lift W q o n e % W = n := by
  unfold lift
  rw [Int.add_mul_emod_self_left]
  exact Int.emod_eq_of_lt hn hW
theorem lift_bd {W q o n e : Int} (hn : 0 ≤ n) (hW : n < W) (hq : 0 < q) : 0 ≤ lift W q o n e ∧ lift W q o n e < W * q := by
  unfold lift
  have k0 := Int.emod_nonneg ((e - n) * o) (show q ≠ 0 by omega)
  have k1 := Int.emod_lt_of_pos ((e - n) * o) hq
  have h1 : 0 ≤ W * ((e - n) * o % q) := Int.mul_nonneg (by omega) k0
  have h2 : W * ((e - n) * o % q) ≤ W * (q - 1) := Int.mul_le_mul_of_nonneg_left (by omega) (by omega)
  have h3 : W * (q - 1) = W * q - W := by rw [Int.mul_sub, Int.mul_one]
  omega
theorem lift_only {W q o n : Int} (hW : 0 < W) (hq : 0 < q) (g : Int.gcd W q = 1) (ho : (o * W) % q = 1) (h0 : 0 ≤ n) (h1 : n < W * q) (he : n % q < q) : n = lift W q o (n % W) (n % q) := by
  have a0 := Int.emod_nonneg n (show W ≠ 0 by omega)
  have a1 := Int.emod_lt_of_pos n hW
  have b0 := Int.emod_nonneg n (show q ≠ 0 by omega)
  obtain ⟨c0, c1⟩ := lift_bd (W := W) (q := q) (o := o) (n := n % W) (e := n % q) a0 a1 hq
  have d1 : (n - lift W q o (n % W) (n % q)) % W = 0 := by
    rw [Int.sub_emod, lift_low a0 a1, Int.sub_self]
    exact Int.zero_emod W
  have d2 : (n - lift W q o (n % W) (n % q)) % q = 0 := by
    rw [Int.sub_emod, lift_mod ho b0 he, Int.sub_self]
    exact Int.zero_emod q
  obtain ⟨c, hc⟩ := dvd_mul_co g (Int.dvd_of_emod_eq_zero d1) (Int.dvd_of_emod_eq_zero d2)
  have pp : 0 < W * q := Int.mul_pos hW hq
  have cz : c = 0 := by
    rcases Int.lt_trichotomy c 0 with z | z | z
    · have : W * q * c ≤ W * q * (-1) := Int.mul_le_mul_of_nonneg_left (by omega) (by omega)
      omega
    · exact z
    · have : W * q * 1 ≤ W * q * c := Int.mul_le_mul_of_nonneg_left (by omega) (by omega)
      omega
  rw [cz, Int.mul_zero] at hc
  omega
theorem Ls.next {ns l : List Int} {i : Nat} {q o : Int} (h : Lot ns) (R : Ls ns i l) (hq : ns[i]? = some q) (ho : (o * prd (ns.take i)) % q = 1) : Ls ns (i + 1) (longer (prd (ns.take i)) q o l) := by
  obtain ⟨nd, mem⟩ := R
  have hqm : q ∈ ns := List.mem_of_getElem? hq
  have q3 := h.ge q hqm
  have Wp : 0 < prd (ns.take i) := prd_pos (h.take i).ge
  have takeE := take_at hq
  have prdE := prd_at hq
  have g : Int.gcd (prd (ns.take i)) q = 1 := by
    rw [Int.gcd_comm]
    refine gcd_prd fun n hn => ?_
    have co := (h.take (i + 1)).co
    rw [takeE] at co
    rw [Int.gcd_comm]
    exact (List.pairwise_append.mp co).2.2 n hn q (by simp)
  refine ⟨?_, fun n => ?_⟩
  · refine List.pairwise_flatMap.mpr ⟨fun a ha => ?_, (List.Pairwise.and_mem.mp nd).imp ?_⟩
    · refine List.pairwise_cons.mpr ⟨fun b hb e => ?_, List.pairwise_singleton ..⟩
      have hb' : b = lift (prd (ns.take i)) q o a 1 := by simpa using hb
      have e1 := congrArg (· % q) (e.trans hb')
      simp only [lift_mod ho (Int.le_refl 0) (by omega : (0 : Int) < q), lift_mod ho (by decide : (0 : Int) ≤ 1) (by omega : (1 : Int) < q)] at e1
      omega
    · rintro a b ⟨ha, hb, hab⟩ x hx y hy e
      obtain ⟨a0, a1, _⟩ := (mem a).mp ha
      obtain ⟨b0, b1, _⟩ := (mem b).mp hb
      have ex : x % prd (ns.take i) = a := by
        simp only [List.mem_cons, List.not_mem_nil, or_false] at hx
        rcases hx with e | e <;> (rw [e]; exact lift_low a0 a1)
      have ey : y % prd (ns.take i) = b := by
        simp only [List.mem_cons, List.not_mem_nil, or_false] at hy
        rcases hy with e | e <;> (rw [e]; exact lift_low b0 b1)
      rw [e, ey] at ex
      exact hab ex.symm
  · unfold longer
    rw [List.mem_flatMap, prdE, takeE]
    have dW : ∀ p ∈ ns.take i, p ∣ prd (ns.take i) := fun p hp => dvd_prd hp
    constructor
    · rintro ⟨a, ha, hn⟩
      obtain ⟨a0, a1, a2⟩ := (mem a).mp ha
      have go : ∀ e : Int, 0 ≤ e → e < 2 → n = lift (prd (ns.take i)) q o a e → 0 ≤ n ∧ n < prd (ns.take i) * q ∧ ∀ p ∈ ns.take i ++ [q], n % p < 2 := by
        rintro e e0 e1 rfl
        obtain ⟨c0, c1⟩ := lift_bd (o := o) (e := e) a0 a1 (show 0 < q by omega)
        refine ⟨c0, c1, fun p hp => ?_⟩
        rcases List.mem_append.mp hp with hp | hp
        · rw [← mod_mod (dW p hp), lift_low a0 a1]
          exact a2 p hp
        · have : p = q := by simpa using hp
          subst this
          rw [lift_mod ho e0 (by omega)]
          exact e1
      simp only [List.mem_cons, List.not_mem_nil, or_false] at hn
      rcases hn with e | e
      · exact go 0 (by omega) (by omega) e
      · exact go 1 (by omega) (by omega) e
    · rintro ⟨h0, h1, h2⟩
      have nq := h2 q (by simp)
      have nq0 := Int.emod_nonneg n (show q ≠ 0 by omega)
      refine ⟨n % prd (ns.take i), (mem _).mpr ⟨Int.emod_nonneg _ (by omega), Int.emod_lt_of_pos _ Wp, fun p hp => ?_⟩, ?_⟩
      · rw [mod_mod (dW p hp)]
        exact h2 p (List.mem_append_left _ hp)
      · have e := lift_only Wp (show 0 < q by omega) g ho h0 h1 (by omega)
        simp only [List.mem_cons, List.not_mem_nil, or_false]
        rcases (show n % q = 0 ∨ n % q = 1 by omega) with z | z
        · left
          rw [z] at e
          exact e
        · right
          rw [z] at e
          exact e
theorem Ls.done {ns l s : List Int} (h : Lot ns) (R : Ls ns ns.length l) (pe : s.Perm l) (so : s.Pairwise (fun a b => a ≤ b)) : s = canon ns :=
  is_canon (prd_pos h.ge) R.1 (fun n => by rw [R.2, List.take_length]) pe so
/-! Euclid's way -/
structure Eu (m x r o t u : Int) : Prop where
  r0 : 0 ≤ r
  o0 : 0 < o
  dr : m ∣ r - t * x
  dO : m ∣ o - u * x
  g : Int.gcd r o = Int.gcd x m
  bd : o * (t.natAbs : Int) + r * (u.natAbs : Int) = m
  sg : (0 ≤ t ∧ u ≤ 0) ∨ (t ≤ 0 ∧ 0 ≤ u)
  ro : r < o
  om : o ≤ m
  ub : (u.natAbs : Int) ≤ m
theorem Eu.tb {m x r o t u : Int} (h : Eu m x r o t u) : (t.natAbs : Int) ≤ m := by
  have bd := h.bd
  have o1 := h.o0
  have r0 := h.r0
  have p1 : (t.natAbs : Int) ≤ o * (t.natAbs : Int) := by
    have := Int.mul_le_mul_of_nonneg_right (show (1 : Int) ≤ o by omega) (Int.natCast_nonneg t.natAbs)
    rw [Int.one_mul] at this
    exact this
  have p2 : 0 ≤ r * (u.natAbs : Int) := Int.mul_nonneg r0 (Int.natCast_nonneg _)
  omega
theorem Eu.start {m x : Int} (hm : 0 < m) : Eu m x (x % m) m 1 0 :=
  ⟨Int.emod_nonneg _ (by omega), hm, by
    refine Int.dvd_of_emod_eq_zero ?_
    rw [Int.one_mul, Int.sub_emod, Int.emod_emod, Int.sub_self]
    exact Int.zero_emod m, by rw [Int.zero_mul, Int.sub_zero]; exact Int.dvd_refl m, by
    unfold Int.gcd
    have e : (x % m).natAbs.gcd m.natAbs = x.natAbs.gcd m.natAbs := by
      have e1 : x % m = x - m * (x / m) := Int.emod_def x m
      have e2 := Int.gcd_sub_mul_right_left m x (x / m)
      rw [e1]
      rw [Int.mul_comm]
      exact e2
    exact e, by simp, .inl ⟨by decide, Int.le_refl 0⟩, Int.emod_lt_of_pos _ hm, Int.le_refl _, by simp; omega⟩
theorem Eu.step {m x r o t u : Int} (h : Eu m x r o t u) (hr : r ≠ 0) : Eu m x (o - o / r * r) r (u - o / r * t) t ∧ (o - o / r * r).toNat < r.toNat := by
  have r1 : 0 < r := by have := h.r0; omega
  have o1 := h.o0
  have em : o - o / r * r = o % r := by
    have := Int.emod_def o r
    rw [this, Int.mul_comm r]
  have s0 : 0 ≤ o / r := Int.ediv_nonneg (by omega) (by omega)
  have m0 := Int.emod_nonneg o hr
  have m1 := Int.emod_lt_of_pos o r1
  have ro := h.ro
  have om := h.om
  refine ⟨⟨by omega, r1, ?_, h.dr, ?_, ?_, ?_, by omega, by omega, h.tb⟩, by omega⟩
  · have e : o - o / r * r - (u - o / r * t) * x = (o - u * x) - o / r * (r - t * x) := by
      rw [Int.sub_mul, Int.mul_sub, Int.mul_assoc]
      omega
    rw [e]
    exact Int.dvd_sub h.dO (Int.dvd_trans h.dr (Int.dvd_mul_left _ _))
  · rw [← h.g, Int.gcd_comm r o]
    exact Int.gcd_sub_mul_right_left r o (o / r)
  · have ab : ((u - o / r * t).natAbs : Int) = (u.natAbs : Int) + o / r * (t.natAbs : Int) := by
      rcases h.sg with ⟨a, b⟩ | ⟨a, b⟩
      · have p := Int.mul_nonneg s0 a
        rw [Int.ofNat_natAbs_of_nonpos (by omega), Int.ofNat_natAbs_of_nonpos b, Int.natAbs_of_nonneg a]
        omega
      · have p : 0 ≤ o / r * (-t) := Int.mul_nonneg s0 (by omega)
        have p2 : o / r * (-t) = -(o / r * t) := Int.mul_neg _ _
        rw [Int.natAbs_of_nonneg (by omega), Int.natAbs_of_nonneg b, Int.ofNat_natAbs_of_nonpos a, p2]
        omega
    rw [ab]
    have bd := h.bd
    have e1 : r * ((u.natAbs : Int) + o / r * (t.natAbs : Int)) = r * (u.natAbs : Int) + o / r * r * (t.natAbs : Int) := by
      rw [Int.mul_add]
      congr 1
      rw [← Int.mul_assoc, Int.mul_comm r]
    have e2 : (o - o / r * r) * (t.natAbs : Int) = o * (t.natAbs : Int) - o / r * r * (t.natAbs : Int) := Int.sub_mul _ _ _
    rw [e1, e2]
    omega
  · rcases h.sg with ⟨a, b⟩ | ⟨a, b⟩
    · have p := Int.mul_nonneg s0 a
      exact .inr ⟨by omega, a⟩
    · have p : 0 ≤ o / r * (-t) := Int.mul_nonneg s0 (by omega)
      have p2 : o / r * (-t) = -(o / r * t) := Int.mul_neg _ _
      exact .inl ⟨by omega, a⟩
theorem Eu.end_ {m x o t u : Int} (h : Eu m x 0 o t u) (g : Int.gcd x m = 1) : o = 1 ∧ m ∣ 1 - u * x := by
  have e := h.g
  rw [g] at e
  have e2 : Int.gcd 0 o = o.natAbs := Int.gcd_zero_left o
  have o1 := h.o0
  have e3 : o = 1 := by omega
  refine ⟨e3, ?_⟩
  have d := h.dO
  rw [e3] at d
  exact d
end KM

/-! sizes, small words -/
namespace KV
open PySem PySem.Spec PyProof.Rows L2 KM
abbrev sm (k : Nat) (n : Int) : Prop := n.natAbs < 2 ^ k
theorem sm_mono {j k : Nat} {n : Int} (h : sm j n) (hk : j ≤ k) : sm k n := Nat.lt_of_lt_of_le h (Nat.pow_le_pow_right (by decide) hk)
theorem sm_of {k : Nat} {n : Int} (h0 : 0 ≤ n) (h1 : n < 2 ^ k) : sm k n := by
  have e : ((2 ^ k : Nat) : Int) = (2 : Int) ^ k := by simp
  show n.natAbs < 2 ^ k
  omega
theorem sm_le {k : Nat} {n m : Int} (h0 : 0 ≤ n) (h1 : n ≤ m) (h : sm k m) : sm k n := Nat.lt_of_le_of_lt (by omega) h
theorem sm_abs {k : Nat} {n m : Int} (h1 : (n.natAbs : Int) ≤ m) (h : sm k m) : sm k n := Nat.lt_of_le_of_lt (by omega) h
theorem sm_add {k : Nat} {n m : Int} (h1 : sm k n) (h2 : sm k m) : sm (k + 1) (n + m) := by
  have a := Int.natAbs_add_le n m
  have e : 2 ^ (k + 1) = 2 ^ k * 2 := Nat.pow_succ ..
  have h1' : n.natAbs < 2 ^ k := h1
  have h2' : m.natAbs < 2 ^ k := h2
  show (n + m).natAbs < 2 ^ (k + 1)
  omega
theorem sm_neg {k : Nat} {n : Int} (h : sm k n) : sm k (-n) := by
  show (-n).natAbs < 2 ^ k
  rw [Int.natAbs_neg]
  exact h
theorem sm_sub {k : Nat} {n m : Int} (h1 : sm k n) (h2 : sm k m) : sm (k + 1) (n - m) := by
  rw [Int.sub_eq_add_neg]
  exact sm_add h1 (sm_neg h2)
theorem sm_mul {j k : Nat} {n m : Int} (h1 : sm j n) (h2 : sm k m) : sm (j + k) (n * m) := wide_lt h1 h2
theorem mulW {j k : Nat} {n m : Int} (h1 : sm j n) (h2 : sm k m) (hj : 0 < j) (hk : 0 < k) (h : j + k ≤ 1000000) : CMulW n m := wide_mul h1 h2 hj hk h
theorem divW {k : Nat} {n m : Int} (h0 : 0 < m) (h : sm k m) (hk : 0 < k) (h9 : k ≤ 9000) : CDivW n m := wide_div h0 h hk h9
theorem iop_mulW {X : Cx} : OpR X (inplaceOp .Mult) (rI CMulW fun i j => .int (i * j)) := opI fun _ _ _ _ _ _ _ hc q => imul_int q hc.ok
/-- a lot with few, small moduli -/
structure LotS (ns : List Int) : Prop extends Lot ns where
  few : ns.length ≤ 4
  sml : ∀ n ∈ ns, n < 2 ^ 100
theorem LotS.m {ns : List Int} (h : LotS ns) {n : Int} (hn : n ∈ ns) : sm 100 n := sm_of (by have := h.ge n hn; omega) (h.sml n hn)
theorem prd_le : ∀ {ns : List Int}, (∀ n ∈ ns, 3 ≤ n) → (∀ n ∈ ns, n < 2 ^ 100) → prd ns ≤ 2 ^ (100 * ns.length)
  | [], _, _ => by show (1 : Int) ≤ 1; decide
  | n :: r, h, g => by
    have ih := prd_le (ns := r) (fun m hm => h m (by simp [hm])) fun m hm => g m (by simp [hm])
    have h1 := h n (by simp)
    have g1 := g n (by simp)
    have pp := prd_pos (ns := r) fun m hm => h m (by simp [hm])
    have e : (2 : Int) ^ (100 * (n :: r).length) = 2 ^ 100 * 2 ^ (100 * r.length) := by
      rw [List.length_cons, Nat.mul_succ, Nat.add_comm, Int.pow_add]
    show n * prd r ≤ _
    rw [e]
    exact Int.mul_le_mul (by omega) ih (by omega) (by omega)
theorem LotS.prdT {ns : List Int} (h : LotS ns) (i : Nat) : sm 401 (prd (ns.take i)) := by
  have ht := h.toLot.take i
  have h1 := prd_le (ns := ns.take i) ht.ge fun n hn => h.sml n (List.mem_of_mem_take hn)
  have pp := prd_pos ht.ge
  have l : (ns.take i).length ≤ 4 := Nat.le_trans (by rw [List.length_take]; omega) h.few
  have e : (2 : Int) ^ (100 * (ns.take i).length) ≤ 2 ^ 400 := by
    have := Nat.pow_le_pow_right (show 0 < 2 by decide) (show 100 * (ns.take i).length ≤ 400 by omega)
    exact_mod_cast this
  refine sm_of (by omega) ?_
  have e2 : (2 : Int) ^ 400 < 2 ^ 401 := by decide
  omega
theorem LotS.prd {ns : List Int} (h : LotS ns) : sm 401 (prd ns) := by
  have := h.prdT ns.length
  rw [List.take_length] at this
  exact this
theorem map_at {f : Int → V} {ns : List Int} {i : Nat} {x : V} (h : (ns.map f)[i]? = some x) : ∃ n, ns[i]? = some n ∧ x = f n := by
  rw [List.getElem?_map] at h
  cases e : ns[i]? with
  | none => rw [e] at h; cases h
  | some n => rw [e] at h; exact ⟨n, rfl, (Option.some.inj h).symm⟩
theorem Same.seqT {K : PySem.W.Frag} {H H' : Hp} {a : Addr} {xs : List V} (e : Same H H') (h : SqT K H a xs) : SqT K H' a xs := by
  rcases h with (h | ⟨o, h⟩) | h
  · exact .inl (.inl (e _ _ h))
  · exact .inl (.inr ⟨o, e _ _ h⟩)
  · exact .inr h
theorem Same.upd {H H' : Hp} {a : Addr} {o : HO} (e : Same H H') (h : H a = none) : Same H (upd H' a o) := fun b u q => by
  rw [upd_ne (ne_of_none q h)]
  exact e b u q
theorem Same.new {H : Hp} {a : Addr} {o : HO} (h : H a = none) : Same H (L2.upd H a o) := Same.upd (Same.refl H) h
end KV

namespace KV
open PySem PySem.Spec PyProof.Rows L2
section
variable {P : Program} {w : World} {K : PySem.W.Frag} {mg : Str → Option Value} {base : Heap}
/-- is_integer(value) -/
def isIntV : V → Bool
  | .int _ => true
  | _ => false
def spIsInt (K : PySem.W.Frag) : Sp := fun vs H Q _ => ∃ (v : V) (t : Value) (b c : Bool), vs = [v] ∧ TyX K H v t ∧ PySem.W.kitOne K t (.type "int") = some b ∧ PySem.W.kitOne K t (.type "bool") = some c ∧ Q (.bl (b && !c)) H
theorem sc6t : FnScope ["value"] ["value"] (defScope (top 6)) := ⟨rfl, rfl, rfl, by decide +kernel, rfl, by decide +kernel, by decide +kernel⟩
theorem ok_isInt {f : Addr} {fd : FuncData} (B : Bl mg) (F : Fun K "is_integer" "is_integer" (top 6) f fd) : FnOk P w K mg base CX0 1 f fd ["value"] (spIsInt K) := by
  refine F.ok sc6t (fun vs H Q E h => ?_) (fun cdv A outer s H vs Q E hr h => ⟨?t, ?d, ?r⟩)
  · obtain ⟨v, t, b, c, rfl, _⟩ := h
    rfl
  case t => exact tRet (tAndV (tCB (rIsi K) (tCons (tVar 0) (tCons (tC (.ty "int")) tNil))) (tNotV (tCB (rIsi K) (tCons (tVar 0) (tCons (tC (.ty "bool")) tNil)))))
  case d =>
    exact pss_one (ps_ret (pe_and (pe_callB call_isi (by rfl) B.isi (by decide +kernel) (pa_cons (pv 0) (pa_cons (pe_bltn (by rfl) B.int PyProof.Rows.boot_int rfl) pa_nil)))
      (pe_one (pe_not (pe_callB call_isi (by rfl) B.isi (by decide +kernel) (pa_cons (pv 0) (pa_cons (pe_bltn (by rfl) B.bool (by decide +kernel) rfl) pa_nil)))))))
  case r =>
    obtain ⟨v, t, b, c, rfl, ty, h1, h2, q⟩ := h
    refine ⟨_, rfl, v, _, t, _, b, rfl, .ty _, ty, h1, b, rfl, ?_⟩
    cases b with
    | false => exact q
    | true => exact ⟨_, rfl, v, _, t, _, c, rfl, .ty _, ty, h2, c, rfl, q⟩
end
end KV

/-! what may be asked whether it is a lot -/
namespace KV
open PySem PySem.Spec PyProof.Rows L2 KM
theorem tyx_same {K : PySem.W.Frag} {H H' : Hp} (s : Same H H') {x : V} {t : Value} (h : TyX K H x t) : TyX K H' x t := by
  cases h with
  | base b =>
    refine .base ?_
    cases b with
    | non => exact .non
    | bl y => exact .bl y
    | int i => exact .int i
    | str y => exact .str y
    | flt y => exact .flt y
    | lst e => exact .lst (s _ _ e)
    | frz e => exact .frz (s _ _ e)
    | tup e => exact .tup (s _ _ e)
    | dK e => exact .dK (s _ _ e)
    | dT e => exact .dT (s _ _ e)
    | ins e a b c d f => exact .ins (s _ _ e) a b c d f
  | byt b => exact .byt b
  | set e => exact .set (s _ _ e)
  | kList e c => exact .kList e c
  | kTuple e c => exact .kTuple e c
  | kDict e c => exact .kDict e c
  | fTuple e => exact .fTuple (s _ _ e)
  | fDict e => exact .fDict (s _ _ e)
/-- an item: an int, or something of another kind -/
def Itm (K : PySem.W.Frag) (H : Hp) (x : V) : Prop := (∃ i : Int, x = .int i ∧ sm 120 i) ∨ ((∀ i : Int, x ≠ .int i) ∧ ∃ T : String, TyX K H x (.type T) ∧ (T = "bool" ∨ T = "NoneType" ∨ T = "str" ∨ T = "tuple"))
/-- a value: a tuple of items (some), or of another kind (none) -/
def ValT (K : PySem.W.Frag) (H : Hp) (v : V) : Option (List V) → Prop
  | some xs => ∃ a : Addr, v = .ref a ∧ SqT K H a xs ∧ TyX K H v (.type "tuple") ∧ (∀ x ∈ xs, Itm K H x) ∧ xs.length ≤ 20
  | none => ∃ T : String, TyX K H v (.type T) ∧ (T = "list" ∨ T = "NoneType" ∨ T = "int" ∨ T = "str" ∨ T = "dict")
theorem Itm.same {K : PySem.W.Frag} {H H' : Hp} (s : Same H H') {x : V} (h : Itm K H x) : Itm K H' x := by
  rcases h with h | ⟨h1, T, h2, h3⟩
  · exact .inl h
  · exact .inr ⟨h1, T, tyx_same s h2, h3⟩
theorem ValT.same {K : PySem.W.Frag} {H H' : Hp} (s : Same H H') {v : V} {ms : Option (List V)} (h : ValT K H v ms) : ValT K H' v ms := by
  cases ms with
  | none =>
    obtain ⟨T, h1, h2⟩ := h
    exact ⟨T, tyx_same s h1, h2⟩
  | some xs =>
    obtain ⟨a, h1, h2, h3, h4, h5⟩ := h
    exact ⟨a, h1, Same.seqT s h2, tyx_same s h3, fun x hx => (h4 x hx).same s, h5⟩
def isI : V → Bool
  | .int _ => true
  | _ => false
theorem itm_kit {K : PySem.W.Frag} {H : Hp} {x : V} (h : Itm K H x) : ∃ (t : Value) (b c : Bool), TyX K H x t ∧ PySem.W.kitOne K t (.type "int") = some b ∧ PySem.W.kitOne K t (.type "bool") = some c ∧ (b && !c) = isI x := by
  rcases h with ⟨i, rfl, _⟩ | ⟨ni, T, ty, hT⟩
  · exact ⟨.type "int", true, false, .base (.int i), kit_ty (by decide +kernel), kit_ty (by decide +kernel), rfl⟩
  · have e : isI x = false := by
      cases x <;> first | rfl | exact absurd rfl (ni _)
    rw [e]
    rcases hT with rfl | rfl | rfl | rfl
    · exact ⟨_, true, true, ty, kit_ty (by decide +kernel), kit_ty (by decide +kernel), rfl⟩
    · exact ⟨_, false, false, ty, kit_ty (by decide +kernel), kit_ty (by decide +kernel), rfl⟩
    · exact ⟨_, false, false, ty, kit_ty (by decide +kernel), kit_ty (by decide +kernel), rfl⟩
    · exact ⟨_, false, false, ty, kit_ty (by decide +kernel), kit_ty (by decide +kernel), rfl⟩
theorem val_kit {K : PySem.W.Frag} {H : Hp} {v : V} {ms : Option (List V)} (h : ValT K H v ms) : ∃ t : Value, TyX K H v t ∧ PySem.W.kitOne K t (.type "tuple") = some ms.isSome := by
  cases ms with
  | some xs =>
    obtain ⟨a, rfl, _, ty, _⟩ := h
    exact ⟨_, ty, (kit_ty (by decide +kernel) : PySem.W.kitOne K (.type "tuple") (.type "tuple") = some true)⟩
  | none =>
    obtain ⟨T, ty, hT⟩ := h
    rcases hT with rfl | rfl | rfl | rfl | rfl
    · exact ⟨_, ty, (kit_ty (by decide +kernel) : PySem.W.kitOne K (.type "list") (.type "tuple") = some false)⟩
    · exact ⟨_, ty, (kit_ty (by decide +kernel) : PySem.W.kitOne K (.type "NoneType") (.type "tuple") = some false)⟩
    · exact ⟨_, ty, (kit_ty (by decide +kernel) : PySem.W.kitOne K (.type "int") (.type "tuple") = some false)⟩
    · exact ⟨_, ty, (kit_ty (by decide +kernel) : PySem.W.kitOne K (.type "str") (.type "tuple") = some false)⟩
    · exact ⟨_, ty, (kit_ty (by decide +kernel) : PySem.W.kitOne K (.type "dict") (.type "tuple") = some false)⟩
/-! whether it is a lot -/
def least (ns : List Int) : Int := (ns.getLast?.map (· + 1)).getD 3
def okNext (ns : List Int) (q : Int) : Bool := decide (least ns ≤ q) && ns.all fun p => decide (Int.gcd q p = 1)
def lotGo : List Int → List V → Bool
  | _, [] => true
  | ns, .int q :: r => if okNext ns q = true then lotGo (ns ++ [q]) r else false
  | _, _ :: _ => false
def isL : Option (List V) → Bool
  | none => false
  | some xs => lotGo [] xs
theorem least_snoc (ns : List Int) (q : Int) : least (ns ++ [q]) = q + 1 := by simp [least]
theorem least_gt {ns : List Int} (h : Lot ns) : 3 ≤ least ns ∧ ∀ p ∈ ns, p < least ns := by
  cases e : ns.getLast? with
  | none =>
    have : ns = [] := List.getLast?_eq_none_iff.mp e
    subst this
    exact ⟨by decide, fun p hp => by simp at hp⟩
  | some l =>
    obtain ⟨ms, rfl⟩ := List.getLast?_eq_some_iff.mp e
    rw [least_snoc]
    have h3 := h.ge l (by simp)
    refine ⟨by omega, fun p hp => ?_⟩
    rcases List.mem_append.mp hp with hp | hp
    · have := (List.pairwise_append.mp h.lt).2.2 p hp l (by simp)
      omega
    · have : p = l := by simpa using hp
      omega
theorem okNext_iff {ns : List Int} {q : Int} : okNext ns q = true ↔ least ns ≤ q ∧ ∀ p ∈ ns, Int.gcd q p = 1 := by
  unfold okNext
  simp only [Bool.and_eq_true, decide_eq_true_eq, List.all_eq_true]
theorem Lot.snoc {ns : List Int} {q : Int} (h : Lot ns) (hq : okNext ns q = true) : Lot (ns ++ [q]) := by
  obtain ⟨h1, h2⟩ := okNext_iff.mp hq
  obtain ⟨g1, g2⟩ := least_gt h
  refine ⟨fun n hn => ?_, List.pairwise_append.mpr ⟨h.lt, List.pairwise_singleton .., fun a ha b hb => ?_⟩, List.pairwise_append.mpr ⟨h.co, List.pairwise_singleton .., fun a ha b hb => ?_⟩⟩
  · rcases List.mem_append.mp hn with hn | hn
    · exact h.ge n hn
    · have : n = q := by simpa using hn
      omega
  · have : b = q := by simpa using hb
    have := g2 a ha
    omega
  · have : b = q := by simpa using hb
    subst this
    rw [Int.gcd_comm]
    exact h2 a ha
theorem lotGo_lot : ∀ {ms ns : List Int}, Lot (ns ++ ms) → lotGo ns (ms.map V.int) = true
  | [], ns, _ => rfl
  | q :: r, ns, h => by
    have ok : okNext ns q = true := by
      refine okNext_iff.mpr ⟨?_, fun p hp => ?_⟩
      · cases e : ns.getLast? with
        | none =>
          have : ns = [] := List.getLast?_eq_none_iff.mp e
          subst this
          exact h.ge q (by simp)
        | some l =>
          obtain ⟨ks, rfl⟩ := List.getLast?_eq_some_iff.mp e
          rw [least_snoc]
          have := (List.pairwise_append.mp h.lt).2.2 l (by simp) q (by simp)
          omega
      · rw [Int.gcd_comm]
        exact (List.pairwise_append.mp h.co).2.2 p hp q (by simp)
    show (if okNext ns q = true then lotGo (ns ++ [q]) (r.map V.int) else false) = true
    rw [if_pos ok]
    exact lotGo_lot (by rw [List.append_assoc]; exact h)
theorem prd_sm {k : Nat} : ∀ {ns : List Int}, (∀ n ∈ ns, sm k n) → sm (k * ns.length + 1) (prd ns)
  | [], _ => by show (1 : Int).natAbs < 2 ^ (k * 0 + 1); simp
  | n :: r, h => by
    have ih := prd_sm (ns := r) fun m hm => h m (by simp [hm])
    have e : k * (n :: r).length + 1 = k + (k * r.length + 1) := by rw [List.length_cons, Nat.mul_succ]; omega
    rw [e]
    exact sm_mul (h n (by simp)) ih
section
variable {P : Program} {w : World} {K : PySem.W.Frag} {mg : Str → Option Value} {base : Heap}
def spIsLot (K : PySem.W.Frag) : Sp := fun vs H Q _ => ∃ (v : V) (ms : Option (List V)), vs = [v] ∧ ValT K H v ms ∧ Q (.bl (isL ms)) H
end
end KV

/-! lists or tuples; kinds of values -/
namespace KV
open PySem PySem.Spec PyProof.Rows L2 KM
theorem iteP {c : Prop} [Decidable c] {A B : Prop} (h : c) (x : A) : if c then A else B := by rw [if_pos h]; exact x
theorem iteN {c : Prop} [Decidable c] {A B : Prop} (h : ¬ c) (x : B) : if c then A else B := by rw [if_neg h]; exact x
/-- what holds between two statements -/
theorem sq_cut {a b : TS} {D : Ends} {σ : L2.St} {H : Hp} (N : L2.St → Hp → Prop) (hs : ∀ Z : L2.St → Hp → Prop, (∀ σ' H', N σ' H' → Z σ' H') → a { nx := Z, rt := D.rt, bk := D.bk, ct := D.ct } σ H) (ht : ∀ σ' H', N σ' H' → b D σ' H') : tSeq a b D σ H := hs _ ht
/-- at a stands a list or a tuple of xs -/
def SqA (K : PySem.W.Frag) (H : Hp) (a : Addr) (xs : List V) : Prop := SqL K H a xs ∨ SqT K H a xs
theorem Same.sqA {K : PySem.W.Frag} {H H' : Hp} {a : Addr} {xs : List V} (e : Same H H') (h : SqA K H a xs) : SqA K H' a xs := by
  rcases h with h | h
  · exact .inl (e.seq h)
  · exact .inr (Same.seqT e h)
section
variable {X : Cx} {tg : Expr}
def iSq (K : PySem.W.Frag) (tl : TE) : TI := fun σ H R => tl σ H fun x H1 => ∃ a, x = .ref a ∧ (((∃ xs, SqL K H1 a xs) ∧ R (Itl K a) H1) ∨ ((∃ xs, SqT K H1 a xs) ∧ R (Itt K a) H1))
theorem pi_sq {l : Expr} {tl : TE} (hl : PE X l tl) : PI X tg l (iSq X.K tl) := by
  refine ⟨fun pins s σ H R I h => ?_⟩
  refine thn (hl.run pins s σ H _ I h) fun v s1 ⟨x, H1, I1, r1, q1⟩ => ?_
  obtain ⟨a, e, q⟩ := q1
  subst e
  cases r1
  rcases q with ⟨⟨xs, hq⟩, q⟩ | ⟨⟨xs, hq⟩, q⟩
  · obtain ⟨its, rv, p, hz⟩ := I1.list hq
    refine wpAny_pyIter_list p.isList ?_
    refine ⟨s1.heap.objs.size, [s1.heap.objs.size], _, _, H1, rfl, I1.kept (t' := s1.toks) fun b o e => Heap.get?_push_of_some _ e, turn_list a _, ⟨_, Heap.get?_push_size _ rfl, rfl, rfl⟩, fun b hb => ?_, q⟩
    have e : b = s1.heap.objs.size := by simpa using hb
    subst e
    exact I1.fpOk (Nat.le_refl _) (I1.hok.fresh (Nat.le_refl _))
  · obtain ⟨its, rv, p, hz⟩ := I1.tuple hq
    refine wpAny_pyIter_tuple (show s1.heap.IsTuple a its.toArray from p) ?_
    refine ⟨s1.heap.objs.size, [s1.heap.objs.size], _, _, H1, rfl, I1.kept (t' := s1.toks) fun b o e => Heap.get?_push_of_some _ e, turn_tuple a _, ⟨_, Heap.get?_push_size _ rfl, rfl, rfl⟩, fun b hb => ?_, q⟩
    have e : b = s1.heap.objs.size := by simpa using hb
    subst e
    exact I1.fpOk (Nat.le_refl _) (I1.hok.fresh (Nat.le_refl _))
end
/-- the heap keeps what stands at a -/
def Ke (K : PySem.W.Frag) (H H' : Hp) (a : Addr) : Prop := ∀ xs, (SqL K H a xs → SqL K H' a xs) ∧ (SqT K H a xs → SqT K H' a xs)
theorem Ke.of {K : PySem.W.Frag} {H H' : Hp} {a : Addr} (s : Same H H') : Ke K H H' a := fun _ => ⟨fun h => s.seq h, fun h => Same.seqT s h⟩
theorem for_sq {K : PySem.W.Frag} {a : Addr} {xs : List V} {g : TG} {tb : TS} {D : Ends} {σ : L2.St} {H : Hp} (hS : SqA K H a xs) (Pv : Nat → L2.St → Hp → Prop) (h0 : Pv 0 σ H) (hl : ∀ i σ H', i ≤ xs.length → Pv i σ H' → Ke K H H' a)
    (hs : ∀ i x σ H, xs[i]? = some x → Pv i σ H → g x σ H fun σ2 H2 => tb { D with nx := Pv (i + 1), ct := Pv (i + 1), bk := D.nx } σ2 H2) (hd : ∀ σ H, Pv xs.length σ H → D.nx σ H) :
    ((∃ xs, SqL K H a xs) ∧ ∃ W : Nat → Nat → L2.St → Hp → Prop, (∃ m, W 0 m σ H) ∧ ∀ i m σ H, W i m σ H →
      ((Itl K a).stop i H ∧ D.nx σ H) ∨ ((Itl K a).go i H ∧ ∃ N : L2.St → Hp → Prop, (∀ σ' H', N σ' H' → ∃ m', m' < m ∧ W (i + 1) m' σ' H') ∧ ∀ x H', (Itl K a).yld i H x H' → g x σ H' fun σ2 H2 => tb { D with nx := N, ct := N, bk := D.nx } σ2 H2)) ∨
    ((∃ xs, SqT K H a xs) ∧ ∃ W : Nat → Nat → L2.St → Hp → Prop, (∃ m, W 0 m σ H) ∧ ∀ i m σ H, W i m σ H →
      ((Itt K a).stop i H ∧ D.nx σ H) ∨ ((Itt K a).go i H ∧ ∃ N : L2.St → Hp → Prop, (∀ σ' H', N σ' H' → ∃ m', m' < m ∧ W (i + 1) m' σ' H') ∧ ∀ x H', (Itt K a).yld i H x H' → g x σ H' fun σ2 H2 => tb { D with nx := N, ct := N, bk := D.nx } σ2 H2)) := by
  rcases hS with hS | hS
  · exact .inl ⟨⟨_, hS⟩, for_list Pv h0 (fun i σ H' hi p => (hl i σ H' hi p _).1 hS) hs hd⟩
  · exact .inr ⟨⟨_, hS⟩, for_tup Pv h0 (fun i σ H' hi p => (hl i σ H' hi p _).2 hS) hs hd⟩
theorem lc_sq {K : PySem.W.Frag} {a : Addr} {xs : List V} {g : TG} {tt : TT} {te : TE} {vs : List Nat} {σ : L2.St} {H1 : Hp} {Qd : Addr → Hp → Prop} (hS : SqA K H1 a xs) (Pv : Addr → Nat → Hp → Prop) (h0 : ∀ D, H1 D = none → Pv D 0 (upd H1 D (.lst []))) (hl : ∀ D i H, Pv D i H → Ke K H1 H a)
    (hs : ∀ D i x H, H1 D = none → xs[i]? = some x → Pv D i H → g x (wipe σ vs) H fun σ2 H2 => wipe σ2 vs = wipe σ vs ∧ tt σ2 H2 fun b H3 =>
      if b = true then te σ2 H3 fun y H4 => ∃ acc, H4 D = some (.lst acc) ∧ acc.length < sizeLine ∧ Pv D (i + 1) (upd H4 D (.lst (acc ++ [y]))) else Pv D (i + 1) H3) (hd : ∀ D H, H1 D = none → Pv D xs.length H → Qd D H) :
    ((∃ xs, SqL K H1 a xs) ∧ ∀ D, H1 D = none → ∃ W : Nat → Nat → Hp → Prop, (∃ m, W 0 m (upd H1 D (.lst []))) ∧ ∀ i m H, W i m H →
      ((Itl K a).stop i H ∧ Qd D H) ∨ ((Itl K a).go i H ∧ ∃ Nx : Hp → Prop, (∀ H', Nx H' → ∃ m', m' < m ∧ W (i + 1) m' H') ∧ ∀ x H', (Itl K a).yld i H x H' → g x (wipe σ vs) H' fun σ2 H2 => wipe σ2 vs = wipe σ vs ∧ tt σ2 H2 fun b H3 =>
        if b = true then te σ2 H3 fun y H4 => ∃ acc, H4 D = some (.lst acc) ∧ acc.length < sizeLine ∧ Nx (upd H4 D (.lst (acc ++ [y]))) else Nx H3)) ∨
    ((∃ xs, SqT K H1 a xs) ∧ ∀ D, H1 D = none → ∃ W : Nat → Nat → Hp → Prop, (∃ m, W 0 m (upd H1 D (.lst []))) ∧ ∀ i m H, W i m H →
      ((Itt K a).stop i H ∧ Qd D H) ∨ ((Itt K a).go i H ∧ ∃ Nx : Hp → Prop, (∀ H', Nx H' → ∃ m', m' < m ∧ W (i + 1) m' H') ∧ ∀ x H', (Itt K a).yld i H x H' → g x (wipe σ vs) H' fun σ2 H2 => wipe σ2 vs = wipe σ vs ∧ tt σ2 H2 fun b H3 =>
        if b = true then te σ2 H3 fun y H4 => ∃ acc, H4 D = some (.lst acc) ∧ acc.length < sizeLine ∧ Nx (upd H4 D (.lst (acc ++ [y]))) else Nx H3)) := by
  rcases hS with hS | hS
  · exact .inl ⟨⟨_, hS⟩, fun D hD => lc_list (Qd := Qd D) (Pv D) (h0 D hD) (fun i H hi p => (hl D i H p _).1 hS) (fun i x H hx p => hs D i x H hD hx p) (fun H p => hd D H hD p)⟩
  · exact .inr ⟨⟨_, hS⟩, fun D hD => lc_tup (Qd := Qd D) (Pv D) (h0 D hD) (fun i H hi p => (hl D i H p _).2 hS) (fun i x H hx p => hs D i x H hD hx p) (fun H p => hd D H hD p)⟩
/-- a value: a sequence of items (some), or of another kind (none) -/
def ValA (K : PySem.W.Frag) (H : Hp) (v : V) : Option (List V) → Prop
  | some xs => ∃ a : Addr, v = .ref a ∧ SqA K H a xs ∧ (∃ T : String, TyX K H v (.type T) ∧ (T = "list" ∨ T = "tuple")) ∧ (∀ x ∈ xs, Itm K H x) ∧ xs.length ≤ 8
  | none => ∃ T : String, TyX K H v (.type T) ∧ (T = "NoneType" ∨ T = "int" ∨ T = "str" ∨ T = "dict")
theorem ValA.same {K : PySem.W.Frag} {H H' : Hp} (s : Same H H') {v : V} {ms : Option (List V)} (h : ValA K H v ms) : ValA K H' v ms := by
  cases ms with
  | none =>
    obtain ⟨T, h1, h2⟩ := h
    exact ⟨T, tyx_same s h1, h2⟩
  | some xs =>
    obtain ⟨a, h1, h2, ⟨T, h3, h3'⟩, h4, h5⟩ := h
    exact ⟨a, h1, Same.sqA s h2, ⟨T, tyx_same s h3, h3'⟩, fun x hx => (h4 x hx).same s, h5⟩
theorem kit2 {K : PySem.W.Frag} {T : String} {b c : Bool} (h1 : PySem.W.kitOne K (.type T) (.type "list") = some b) (h2 : PySem.W.kitOne K (.type T) (.type "tuple") = some c) : PySem.W.kitAny K (.type T) [.type "list", .type "tuple"] = some (b || c) := by
  refine kitAny_cons h1 (fun e => ?_) (fun e => by rw [e]; rfl)
  subst e
  refine kitAny_cons h2 (fun e => ?_) (fun e => by rw [e]; rfl)
  subst e
  exact kitAny_nil
theorem valA_kit {K : PySem.W.Frag} {H : Hp} {v : V} {ms : Option (List V)} (h : ValA K H v ms) : ∃ t : Value, TyX K H v t ∧ PySem.W.kitAny K t [.type "list", .type "tuple"] = some ms.isSome := by
  cases ms with
  | some xs =>
    obtain ⟨a, rfl, _, ⟨T, ty, hT⟩, _⟩ := h
    rcases hT with rfl | rfl
    · exact ⟨_, ty, kit2 (b := true) (c := false) (kit_ty (by decide +kernel)) (kit_ty (by decide +kernel))⟩
    · exact ⟨_, ty, kit2 (b := false) (c := true) (kit_ty (by decide +kernel)) (kit_ty (by decide +kernel))⟩
  | none =>
    obtain ⟨T, ty, hT⟩ := h
    rcases hT with rfl | rfl | rfl | rfl
    · exact ⟨_, ty, kit2 (b := false) (c := false) (kit_ty (by decide +kernel)) (kit_ty (by decide +kernel))⟩
    · exact ⟨_, ty, kit2 (b := false) (c := false) (kit_ty (by decide +kernel)) (kit_ty (by decide +kernel))⟩
    · exact ⟨_, ty, kit2 (b := false) (c := false) (kit_ty (by decide +kernel)) (kit_ty (by decide +kernel))⟩
    · exact ⟨_, ty, kit2 (b := false) (c := false) (kit_ty (by decide +kernel)) (kit_ty (by decide +kernel))⟩
/-- all of it are ints -/
def isIs : Option (List V) → Bool
  | none => false
  | some xs => xs.all isI
theorem ints_of : ∀ {xs : List V}, xs.all isI = true → ∃ ns : List Int, xs = ns.map V.int
  | [], _ => ⟨[], rfl⟩
  | x :: r, h => by
    rw [List.all_cons, Bool.and_eq_true] at h
    obtain ⟨ns, e⟩ := ints_of h.2
    cases x with
    | int i => exact ⟨i :: ns, by rw [e]; rfl⟩
    | _ => exact absurd h.1 Bool.false_ne_true
theorem isIs_int (ns : List Int) : isIs (some (ns.map V.int)) = true := by
  unfold isIs
  rw [List.all_eq_true]
  intro x hx
  obtain ⟨n, _, rfl⟩ := List.mem_map.mp hx
  rfl
/-- the error InvalidQuestion(at) -/
def BadA (C : Addr) (at_ : Int) (H : Hp) (E : XK) : Prop := ∀ (H' : Hp) (d : Addr), Same H H' → H' d = none → E (.ref C) (some d) (L2.upd H' d (.xd [(("at" : Str), .int at_)]))
section
variable {X : Cx} {k j : Nat} {x : Str} {ps : List Str} {sp : Sp} {p pos : Pos} {e : Expr} {es : List Expr} {t : TA}
/-- a call of a def that may raise, from one that may -/
theorem pe_calX {W : WX} {E : XK} (C : Cal X.prog X.w X.K X.mg X.base (L2.CX X.prog X.w) k x ps sp) (hr : Room j X.A) (hj : k ≤ j) (tk : Takes X W) (hW : ∀ cls d σ H, E cls d H → W cls d σ H) (ha : PA X (e :: es) t)
    (hg : Gl X x := by rfl) (hdb : (x == ("__debug__" : Str)) = false := by decide)
    (he : starEach (e :: es) X.env = (false, eval e X.env) :: starEach es X.env := by rfl)
    (hpl : (backTo pos (starEach es X.env)).any (·.1) = false := by rfl) :
    PE X (.Call (.Name x p) (e :: es) [] pos) (tCall sp [] E t) := by
  obtain ⟨f, fd, F, h1, h2, h3⟩ := C
  exact pe_call F (hr.mono hj) hg h1 h2 h3 .nil (passes_call tk hW) ha hdb he hpl
end
section
variable {P : Program} {w : World} {K : PySem.W.Frag} {mg : Str → Option Value} {base : Heap} {C fI : Addr}
def spIsI (K : PySem.W.Frag) : Sp := fun vs H Q _ => ∃ v : V, vs = [v] ∧ Itm K H v ∧ Q (.bl (isI v)) H
theorem sc6 : FnScope ["value"] ["value"] (defScope (top 6)) := ⟨rfl, rfl, rfl, by decide +kernel, rfl, by decide +kernel, by decide +kernel⟩
theorem ok_isI {f : Addr} {fd : FuncData} (B : Bl mg) (F : Fun K "is_integer" "is_integer" (top 6) f fd) : FnOk P w K mg base CX0 1 f fd ["value"] (spIsI K) := by
  refine F.ok sc6 (fun vs H Q E h => ?_) (fun cdv A outer s H vs Q E hr h => ⟨_,
    pss_one (ps_ret (pe_and (pe_callB call_isi (by rfl) B.isi (by decide +kernel) (pa_cons (pv 0) (pa_cons (pe_bltn (v := .ty "int") (by rfl) B.int PyProof.Rows.boot_int rfl) pa_nil)))
      (pe_one (pe_not (pe_callB call_isi (by rfl) B.isi (by decide +kernel) (pa_cons (pv 0) (pa_cons (pe_bltn (v := .ty "bool") (by rfl) B.bool (by decide +kernel) rfl) pa_nil))))))), ?_⟩)
  · obtain ⟨v, rfl, _⟩ := h
    rfl
  obtain ⟨v, rfl, hv, q⟩ := h
  obtain ⟨t, b, c, ty, h1, h2, e⟩ := itm_kit (K := K) (H := H) hv
  rw [← e] at q
  refine ⟨_, rfl, v, _, t, _, b, rfl, .ty _, ty, h1, b, rfl, ?_⟩
  cases b with
  | false => exact q
  | true => exact ⟨_, rfl, v, _, t, _, c, rfl, .ty _, ty, h2, c, rfl, q⟩
def spIsSeq (K : PySem.W.Frag) : Sp := fun vs H Q _ => ∃ (v : V) (ms : Option (List V)), vs = [v] ∧ ValA K H v ms ∧ ∀ H', Same H H' → Q (.bl ms.isSome) H'
theorem sc7 : FnScope ["value"] ["value"] (defScope (top 7)) := ⟨rfl, rfl, rfl, by decide +kernel, rfl, by decide +kernel, by decide +kernel⟩
theorem ok_isSeq {f : Addr} {fd : FuncData} (B : Bl mg) (F : Fun K "is_sequence" "is_sequence" (top 7) f fd) : FnOk P w K mg base CX0 1 f fd ["value"] (spIsSeq K) := by
  refine F.ok sc7 (fun vs H Q E h => ?_) (fun cdv A outer s H vs Q E hr h => ⟨_,
    pss_one (ps_ret (pe_callB call_isiT (by rfl) B.isi (by decide +kernel) (pa_cons (pv 0) (pa_cons (pe_tup (pa_cons (pe_bltn (v := .ty "list") (by rfl) B.list (by decide +kernel) rfl) (pa_cons (pe_bltn (v := .ty "tuple") (by rfl) B.tuple (by decide +kernel) rfl) pa_nil))) pa_nil)))), ?_⟩)
  · obtain ⟨v, ms, rfl, _⟩ := h
    rfl
  obtain ⟨v, ms, rfl, hv, q⟩ := h
  refine ⟨_, rfl, (by show 2 ≤ sizeLine; decide), fun p hp => ?_⟩
  have s := Same.new (o := .tup [V.ty "list", V.ty "tuple"]) hp
  obtain ⟨t, ty, hk⟩ := valA_kit (hv.same s)
  exact ⟨v, p, _, t, _, _, rfl, upd_same, .cons (.ty _) (.cons (.ty _) .nil), ty, hk, q _ s⟩
def spChk (K : PySem.W.Frag) (C : Addr) : Sp := fun vs H Q E => ∃ (v : V) (at_ : Int) (ms : Option (List V)), vs = [v, .int at_] ∧ ValA K H v ms ∧ (isIs ms = true → ∀ H', Same H H' → Q .non H') ∧ (isIs ms = false → BadA C at_ H E)
theorem sc8 : FnScope ["value", "at", "entry"] ["value", "at"] (defScope (top 8)) := ⟨rfl, rfl, rfl, by decide +kernel, rfl, by decide +kernel, by decide +kernel⟩
theorem ok_chk {f : Addr} {fd : FuncData} (B : Bl mg) (T : PySem.LowX.LowTxt K mg "InvalidQuestion" "InvalidQuestion.__init__" C fI) (CI : Cal P w K mg base CX0 1 "is_integer" ["value"] (spIsI K)) (CS : Cal P w K mg base CX0 1 "is_sequence" ["value"] (spIsSeq K))
    (F : Fun K "check_integers" "check_integers" (top 8) f fd) : FnOk P w K mg base (L2.CX P w) 2 f fd ["value", "at"] (spChk K C) := by
  refine F.okX sc8 (fun vs H Q E h => ?_) (fun cdv A outer s H vs Q E hr h => ⟨_,
    pss_one (ps_if (PW.pt (pw_or (pt_not (pt_val (by exact (pe_cal CS hr (by decide) (pa_cons (pv 0) pa_nil)))))
      (pw_or1 (pt_not (pt_val (pe_callB (cr_all rfl) (by rfl) B.all (by decide +kernel) (pa_cons
        (pe_lc (own := [("entry", 2)]) (g := gName 2) (tt := tYes) rfl sc8.nd (pi_sq (pv 0)) (blkOk_by (N := ["value", "at", "entry"]) (sc := defScope (top 8)) (by decide +kernel)) (fun _ _ _ _ _ => pg_name (i := 2) sc8.nd rfl (Or.inl rfl)) (fun _ _ _ _ _ => pts_nil)
          (fun _ _ _ _ _ => pe_cal CI hr (by decide) (pa_cons (pv 2) pa_nil))) pa_nil)))))))
      (pss_one (ps_raiseLow rfl T hr (takes_of rfl rfl rfl rfl) (by exact (pa_cons (pv 1) pa_nil)))) pss_nil), ?_⟩)
  · obtain ⟨v, a, ms, rfl, _⟩ := h
    rfl
  obtain ⟨v, at_, ms, rfl, hv, h1, h2⟩ := h
  refine ⟨_, rfl, v, ms, rfl, hv, fun H' s => ⟨_, rfl, ?_⟩⟩
  cases ms with
  | none => exact iteT (iteT ⟨_, rfl, _, rfl, fun d hd => h2 rfl H' d s hd⟩)
  | some xs =>
    obtain ⟨a, rfl, hS, _, hI, hl⟩ := hv.same s
    refine iteF ⟨_, rfl, a, rfl, lc_sq hS (fun D i H2 => Same H' H2 ∧ H2 D = some (.lst ((xs.take i).map fun x => V.bl (isI x)))) (fun D hD => ⟨Same.new hD, upd_same⟩) (fun D i H2 p => Ke.of p.1) ?_ ?_⟩
    · rintro D i x H2 hD hx ⟨p1, p2⟩
      refine ⟨rfl, _, rfl, x, rfl, (hI x (List.mem_of_getElem? hx)).same p1, _, p2, len_lt (by rw [List.length_map, List.length_take]; omega), Same.upd p1 hD, ?_⟩
      rw [upd_same, List.take_succ, hx, List.map_append]
      rfl
    · rintro D H2 hD ⟨p1, p2⟩
      rw [List.take_length] at p2
      refine ⟨D, xs.map isI, rfl, SqL.of (by rw [p2, List.map_map]; rfl), _, rfl, ?_⟩
      have ea : (xs.map isI).all id = xs.all isI := by
        rw [List.all_map]
        rfl
      rw [ea]
      cases e4 : xs.all isI with
      | false => exact iteT ⟨_, rfl, _, rfl, fun d hd => h2 e4 H2 d (s.trans p1) hd⟩
      | true => exact iteF (h1 e4 H2 (s.trans p1))
end
end KV

/-! the law's draws -/
namespace KV
open PySem PySem.Spec PyProof.Rows L2 KM
theorem canLay_ints : ∀ ns : List Int, PyData.canLayAll0 (ns.map PyData.int) = true
  | [] => rfl
  | n :: r => by simp only [List.map_cons, PyData.canLayAll0, PyData.canLay0, canLay_ints r, Bool.and_self]
theorem shaped_ints (ns : List Int) : SeqAt.shaped (.list (ns.map PyData.int)) = true := by
  unfold SeqAt.shaped
  simp only [PyData.canLay0, canLay_ints, PyData.depth, depth_ints]
  decide
theorem eqv_ints : ∀ ns ms : List Int, PyData.eqvAll (ns.map PyData.int) (ms.map PyData.int) = decide (ns = ms)
  | [], [] => rfl
  | [], _ :: _ => rfl
  | _ :: _, [] => rfl
  | n :: r, m :: s => by
    show (PyData.eqv (.int n) (.int m) && PyData.eqvAll (r.map PyData.int) (s.map PyData.int)) = _
    rw [eqv_ints r s]
    have e : PyData.eqv (.int n) (.int m) = decide (n = m) := by
      show (n == m) = _
      by_cases z : n = m <;> simp [z]
    rw [e]
    by_cases z : n = m <;> by_cases y : r = s <;> simp [z, y]
theorem dpL {K : PySem.W.Frag} {H : Hp} {a : Addr} {ns : List Int} (h : SqL K H a (ns.map V.int)) : Dp K H (.ref a) (.list (ns.map PyData.int)) := .lst h (dp_ints ns)
/-- xs != ys, xs == ys of lists of ints: the answer -/
theorem neL {K : PySem.W.Frag} {H : Hp} {a b : Addr} {ns ms : List Int} {Q : VK} (h1 : SqL K H a (ns.map V.int)) (h2 : SqL K H b (ms.map V.int)) (q : Q (.bl (!decide (ns = ms))) H) : rNeD K (.ref a) (.ref b) H Q :=
  ⟨_, _, dpL h1, dpL h2, shaped_ints ns, shaped_ints ms, by
    have e : PyData.eqv (.list (ns.map PyData.int)) (.list (ms.map PyData.int)) = decide (ns = ms) := eqv_ints ns ms
    rw [e]
    exact q⟩
theorem eqL {K : PySem.W.Frag} {H : Hp} {a b : Addr} {ns ms : List Int} {Q : VK} (h1 : SqL K H a (ns.map V.int)) (h2 : SqL K H b (ms.map V.int)) (q : Q (.bl (decide (ns = ms))) H) : rEqD K (.ref a) (.ref b) H Q :=
  ⟨_, _, dpL h1, dpL h2, shaped_ints ns, shaped_ints ms, by
    have e : PyData.eqv (.list (ns.map PyData.int)) (.list (ms.map PyData.int)) = decide (ns = ms) := eqv_ints ns ms
    rw [e]
    exact q⟩
/-- the source of draws at d, its cells at c -/
def Dl (H : Hp) (d c : Addr) : Prop := d ≠ c ∧ ∃ (cs : List Int) (b : Int), H d = some (.lst [.ref c, .int b]) ∧ H c = some (.lst (cs.map V.int)) ∧ (∀ x ∈ cs, 0 ≤ x) ∧ cs.length ≤ 64 ∧ 0 ≤ b ∧ b < 2147483648
/-- all else stands -/
def Kp (d c : Addr) (H H' : Hp) : Prop := ∀ b o, b ≠ d → b ≠ c → H b = some o → H' b = some o
theorem Kp.refl {d c : Addr} {H : Hp} : Kp d c H H := fun _ _ _ _ h => h
theorem Kp.trans {d c : Addr} {H H1 H2 : Hp} (a : Kp d c H H1) (b : Kp d c H1 H2) : Kp d c H H2 := fun x o h1 h2 h => b x o h1 h2 (a x o h1 h2 h)
theorem Kp.of {d c : Addr} {H H' : Hp} (s : Same H H') : Kp d c H H' := fun b o _ _ h => s b o h
theorem Kp.upd_d {d c : Addr} {H H' : Hp} {o : HO} (k : Kp d c H H') : Kp d c H (upd H' d o) := fun b u h1 h2 h => by
  rw [upd_ne h1]
  exact k b u h1 h2 h
theorem Kp.upd_c {d c : Addr} {H H' : Hp} {o : HO} (k : Kp d c H H') : Kp d c H (upd H' c o) := fun b u h1 h2 h => by
  rw [upd_ne h2]
  exact k b u h1 h2 h
theorem Kp.new {d c p : Addr} {H H' : Hp} {o : HO} (k : Kp d c H H') (hp : H' p = none) : Kp d c H (upd H' p o) := k.trans (Kp.of (Same.new hp))
theorem Kp.free {d c p : Addr} {H H' : Hp} (k : Kp d c H H') (hd : p ≠ d) (hc : p ≠ c) (hp : H' p = none) : H p = none := by
  cases e : H p with
  | none => rfl
  | some o =>
    rw [k p o hd hc e] at hp
    cases hp
theorem Dl.same {H H' : Hp} {d c : Addr} (h : Dl H d c) (s : Same H H') : Dl H' d c := by
  obtain ⟨n, cs, b, h1, h2, r⟩ := h
  exact ⟨n, cs, b, s _ _ h1, s _ _ h2, r⟩
theorem Dl.ne {H : Hp} {d c p : Addr} (h : Dl H d c) (hp : H p = none) : p ≠ d ∧ p ≠ c := by
  obtain ⟨_, cs, b, h1, h2, _⟩ := h
  exact ⟨fun e => (by rw [e, h1] at hp; cases hp), fun e => (by rw [e, h2] at hp; cases hp)⟩
theorem Dl.neT {H : Hp} {d c p : Addr} {xs : List V} (h : Dl H d c) (hp : H p = some (.tup xs)) : p ≠ d ∧ p ≠ c := by
  obtain ⟨_, cs, b, h1, h2, _⟩ := h
  exact ⟨fun e => (by rw [e, h1] at hp; cases hp), fun e => (by rw [e, h2] at hp; cases hp)⟩
section
variable {P : Program} {w : World} {K : PySem.W.Frag} {mg : Str → Option Value} {base : Heap}
def spDraw (K : PySem.W.Frag) : Sp := fun vs H Q _ => ∃ (a : Addr) (ns : List Int) (sa : Int), vs = [.ref a, .int sa] ∧ SqL K H a (ns.map V.int) ∧ 0 ≤ sa ∧ sa < 1000 ∧ ∀ H' d c, Same H H' → H d = none → H c = none → Dl H' d c → Q (.ref d) H'
theorem sc27 : FnScope ["_law_script", "_law_salt", "_law_cell", "_law_cells", "_law_blend"] ["_law_script", "_law_salt"] (defScope (top 27)) := ⟨rfl, rfl, rfl, by decide +kernel, rfl, by decide +kernel, by decide +kernel⟩
theorem ok_draw {f : Addr} {fd : FuncData} (B : Bl mg) (F : Fun K "_law_draw" "_law_draw" (top 27) f fd) : FnOk P w K mg base CX0 1 f fd ["_law_script", "_law_salt"] (spDraw K) := by
  refine F.ok sc27 (fun vs H Q E h => ?_) (fun cdv A outer s H vs Q E hr h => ⟨_,
    pss_cons (ps_setLc (i := 3) (own := [("_law_cell", 2)]) (g := gName 2) (tt := tYes) rfl sc27.nd rfl rfl (sw_true rfl rfl rfl (by decide +kernel)) (pi_list (pe_slice sl_list (pv 0) po_none (po_some pe_int)))
      (blkOk_by (N := ["_law_script", "_law_salt", "_law_cell", "_law_cells", "_law_blend"]) (sc := defScope (top 27)) (by decide +kernel)) (fun _ _ _ _ _ => pg_name (i := 2) sc27.nd rfl (Or.inl rfl)) (fun _ _ _ _ _ => pts_nil)
      (fun _ _ _ _ _ => pe_callB call_abs (by rfl) B.abs (by decide +kernel) (pa_cons (pe_callTy call_int1 (by rfl) B.int PyProof.Rows.boot_int (pa_cons (pv 2) pa_nil)) pa_nil)))
    (pss_cons (ps_set (i := 4) sc27.nd rfl (.inl rfl) (pe_op op_add pe_int (pe_op op_mul pe_int (pv 1))))
    (pss_cons (ps_for PassesOwn.never rfl (pi_list (pv 3)) (pg_name (i := 2) sc27.nd rfl (.inl rfl))
      (pss_one (ps_set (i := 4) sc27.nd rfl (.inl rfl) (pe_op op_mod (pe_callTy call_int1 (by rfl) B.int PyProof.Rows.boot_int (pa_cons (pe_op op_add (pe_op op_add (pe_op op_mul (pv 4) pe_int) (pe_op op_mod (pv 2) pe_int)) pe_int) pa_nil)) pe_int))))
    (pss_one (ps_ret (pe_lst (pa_cons (pe_revL
      (pe_lc (own := [("_law_cell", 2)]) (g := gName 2) rfl sc27.nd (pi_list (pv 3)) (blkOk_by (N := ["_law_script", "_law_salt", "_law_cell", "_law_cells", "_law_blend"]) (sc := defScope (top 27)) (by decide +kernel))
        (fun _ _ _ _ _ => pg_name (i := 2) sc27.nd rfl (Or.inl rfl)) (fun _ _ _ _ _ => pts_one (pt_cmpR op_ge (pv 2) (pe_op op_pow pe_int pe_int) (nomark _))) (fun _ _ _ _ _ => pv 2))) (pa_cons (pv 4) pa_nil))))))), ?_⟩)
  · obtain ⟨a, ns, sa, rfl, _⟩ := h
    rfl
  obtain ⟨a, ns, sa, rfl, hS, s0, s1, q⟩ := h
  refine ⟨_, rfl, _, rfl, a, _, rfl, hS, fun p hp => ?_⟩
  have ecut : cutV (ns.map V.int) none (some 48) = (ns.take 48).map V.int := by
    unfold cutV
    have e1 : HT.sIx (ns.map V.int).length 0 none = 0 := rfl
    have e2 : HT.sIx (ns.map V.int).length (ns.map V.int).length (some 48) = min 48 (ns.map V.int).length := HT.sIx_nat _ _ 48
    rw [e1, e2, List.drop_zero, Nat.sub_zero, List.length_map, List.map_take]
    rw [← List.length_map (f := V.int) (as := ns)]
    exact List.take_eq_take_min.symm
  have sp : Same H (upd H p (.lst (cutV (ns.map V.int) none (some 48)))) := Same.new hp
  have hpS : SqL K (upd H p (.lst (cutV (ns.map V.int) none (some 48)))) p ((ns.take 48).map V.int) := SqL.of (by rw [upd_same, ecut])
  generalize upd H p (.lst (cutV (ns.map V.int) none (some 48))) = H1 at sp hpS
  have l48 : (ns.take 48).length ≤ 48 := by rw [List.length_take]; omega
  generalize ns.take 48 = ms at hpS l48
  refine ⟨p, rfl, ⟨_, hpS⟩, fun D hD => lc_list (xs := ms.map V.int) (fun i H' => Same H1 H' ∧ ∃ cs : List Int, cs.length = i ∧ (∀ x ∈ cs, 0 ≤ x) ∧ H' D = some (.lst (cs.map V.int))) ⟨Same.new hD, [], rfl, fun _ z => by simp at z, upd_same⟩
    (fun i H' _ z => z.1.seq hpS) ?_ ?_⟩
  · rintro i x H' hx ⟨p1, cs, cl, c0, p2⟩
    obtain ⟨m, hm, rfl⟩ := map_at hx
    have hi := (List.getElem?_eq_some_iff.mp hm).1
    refine ⟨rfl, _, rfl, .inl ⟨m, rfl, m, rfl, cs.map V.int, p2, len_lt (by rw [List.length_map]; omega), Same.upd p1 hD, cs ++ [if m < 0 then -m else m], by simp [cl], fun y hy => ?_, ?_⟩⟩
    · rcases List.mem_append.mp hy with hy | hy
      · exact c0 y hy
      · have : y = if m < 0 then -m else m := by simpa using hy
        rw [this]
        split <;> omega
    · rw [upd_same, List.map_append]
      rfl
  · rintro H' ⟨p1, cs, cl, c0, p2⟩
    rw [List.length_map] at cl
    refine ⟨_, rfl, _, _, rfl, rfl, .inl ⟨by decide, by omega⟩, _, _, rfl, rfl, ?_⟩
    refine ⟨_, rfl, D, rfl, ⟨_, SqL.of p2⟩, for_list (xs := cs.map V.int) (fun i σ H2 => (∃ (u : Option V) (b : Int), 0 ≤ b ∧ b < 2147483648 ∧ σ = [some (.ref a), some (.int sa), u, some (.ref D), some (.int b)]) ∧ H2 = H')
      ⟨⟨none, _, ?_, ?_, rfl⟩, rfl⟩ ?_ ?_ ?_⟩
    · show 0 ≤ 7919 + 104729 * sa
      omega
    · show 7919 + 104729 * sa < 2147483648
      omega
    · rintro i σ H2 _ ⟨_, rfl⟩
      exact SqL.of p2
    · rintro i x σ H2 hx ⟨⟨u, b, b0, b1, rfl⟩, rfl⟩
      obtain ⟨m, hm, rfl⟩ := map_at hx
      refine ⟨_, rfl, _, _, rfl, rfl, .inl ⟨by omega, by omega⟩, _, rfl, _, _, rfl, rfl, (by show (0 : Int) < 2147483549; decide), _, _, rfl, rfl, _, _, rfl, rfl, .inl ⟨_, rfl, _, _, rfl, rfl, (by show (0 : Int) < 2147483647; decide), ⟨some (.int m), _, ?_, ?_, rfl⟩, rfl⟩⟩
      · exact Int.emod_nonneg _ (by decide)
      · have := Int.emod_lt_of_pos (b * 48271 + m % 2147483549 + 11) (show (0 : Int) < 2147483647 by decide)
        omega
    · rintro σ H2 ⟨⟨u, b, b0, b1, rfl⟩, rfl⟩
      refine ⟨_, rfl, D, rfl, ⟨_, SqL.of p2⟩, fun D2 hD2 => lc_list (xs := cs.map V.int) (fun i H3 => Same H2 H3 ∧ ∃ es : List Int, es.length ≤ i ∧ (∀ x ∈ es, 0 ≤ x) ∧ H3 D2 = some (.lst (es.map V.int))) ⟨Same.new hD2, [], Nat.le_refl _, fun _ z => by simp at z, upd_same⟩
        (fun i H3 _ z => z.1.seq (SqL.of p2)) ?_ ?_⟩
      · rintro i x H3 hx ⟨q1, es, el, e0, q2⟩
        obtain ⟨m, hm, rfl⟩ := map_at hx
        have hi := (List.getElem?_eq_some_iff.mp hm).1
        refine ⟨rfl, _, rfl, _, _, rfl, rfl, ⟨by decide, by decide, by decide⟩, _, _, rfl, rfl, _, rfl, ?_⟩
        cases decide ((10 : Int) ^ (18 : Int).toNat ≤ m) with
        | true =>
          refine iteT ⟨_, rfl, es.map V.int, q2, len_lt (by rw [List.length_map]; omega), Same.upd q1 hD2, es ++ [m], by simp; omega, fun y hy => ?_, ?_⟩
          · rcases List.mem_append.mp hy with hy | hy
            · exact e0 y hy
            · have : y = m := by simpa using hy
              rw [this]
              exact c0 m (List.mem_of_getElem? hm)
          · rw [upd_same, List.map_append]
            rfl
        | false => exact iteF ⟨q1, es, by omega, e0, q2⟩
      · rintro H3 ⟨q1, es, el, e0, q2⟩
        rw [List.length_map] at el
        refine ⟨D2, _, rfl, SqL.of q2, fun c hc => ⟨_, rfl, (by show 2 ≤ sizeLine; decide), fun d hd => ?_⟩⟩
        have t1 : Same H H3 := (sp.trans p1).trans q1
        have t2 : Same H (upd H3 c (.lst (es.map V.int).reverse)) := Same.upd t1 (t1.free hc)
        have dc : d ≠ c := fun e => by
          rw [e, upd_same] at hd
          cases hd
        refine q _ d c (Same.upd t2 (t2.free hd)) (t2.free hd) (t1.free hc) ⟨dc, es.reverse, b, upd_same, ?_, fun x hx => e0 x (by simpa using hx), by rw [List.length_reverse]; omega, b0, b1⟩
        rw [upd_ne (Ne.symm dc), upd_same, List.map_reverse]
end
end KV

/-! any, of, divisor -/
namespace KV
open PySem PySem.Spec PyProof.Rows L2 KM
section
variable {P : Program} {w : World} {K : PySem.W.Frag} {mg : Str → Option Value} {base : Heap}
def spAny : Sp := fun vs H Q _ => ∃ (d c : Addr) (m : Int), vs = [.ref d, .int m] ∧ Dl H d c ∧ 0 < m ∧ sm 200 m ∧ ∀ r H', 0 ≤ r → r < m → Dl H' d c → Kp d c H H' → Q (.int r) H'
theorem sc28 : FnScope ["_law_deal", "_law_bound", "_law_rest"] ["_law_deal", "_law_bound"] (defScope (top 28)) := ⟨rfl, rfl, rfl, by decide +kernel, rfl, by decide +kernel, by decide +kernel⟩
theorem at0 {x y : V} : atI [x, y] 0 = some x := rfl
theorem at1 {x y : V} : atI [x, y] 1 = some y := rfl
theorem at_last {es : List Int} {e : Int} : atI ((es ++ [e]).map V.int) (-1) = some (.int e) := by
  have hl : ((es ++ [e]).map V.int).length = es.length + 1 := by simp
  unfold atI L2.ixN
  rw [hl, if_neg (by decide), if_pos (by omega)]
  have e1 : (-1 + ((es.length + 1 : Nat) : Int)).toNat = es.length := by omega
  show ((es ++ [e]).map V.int)[(-1 + ((es.length + 1 : Nat) : Int)).toNat]? = _
  rw [e1, List.map_append, List.getElem?_append_right (by simp)]
  simp
theorem last_at {es : List Int} {e : Int} : ((es ++ [e]).map V.int)[((es ++ [e]).map V.int).length - 1]? = some (V.int e) := by
  rw [List.map_append, List.getElem?_append_right (by simp)]
  simp
theorem last_drop {es : List Int} {e : Int} : ((es ++ [e]).map V.int).dropLast = es.map V.int := by
  rw [List.map_append]
  exact List.dropLast_concat
def AnyW (d c : Addr) (m b : Int) (H : Hp) (k : Nat) (σ : L2.St) (H' : Hp) : Prop := σ = [some (.ref d), some (.int m), none] ∧ Kp d c H H' ∧ ∃ es : List Int, k = es.length ∧ (∀ x ∈ es, 0 ≤ x) ∧ es.length ≤ 64 ∧ H' d = some (.lst [.ref c, .int b]) ∧ H' c = some (.lst (es.map V.int))
theorem ok_any {f : Addr} {fd : FuncData} (B : Bl mg) (F : Fun K "_law_any" "_law_any" (top 28) f fd) : FnOk P w K mg base CX0 1 f fd ["_law_deal", "_law_bound"] spAny := by
  refine F.ok sc28 (fun vs H Q E h => ?_) (fun cdv A outer s H vs Q E hr h => ⟨_,
    pss_cons (ps_while PassesOwn.never (PW.pt (pw_and (pt_cmpR (op_neD hr.units) (pe_ix ix_list (pv 0) pe_int (fun _ _ => rfl)) (pe_lst pa_nil) (nomark _))
        (pw_and1 (pt_cmpR op_eq (pe_ix ix_list (pe_ix ix_list (pv 0) pe_int (fun _ _ => rfl)) (pe_un un_neg pe_int) (fun _ _ => rfl)) pe_int (nomark _)))))
      (pss_one (ps_expr (pe_bm0 PySem.F.plainAttrs_list PySem.F.slot_list_pop PySem.F.type_list_pop mt_pop (pe_ix ix_list (pv 0) pe_int (fun _ _ => rfl))))))
    (pss_cons (ps_if (pt_cmpR (op_neD hr.units) (pe_ix ix_list (pv 0) pe_int (fun _ _ => rfl)) (pe_lst pa_nil) (nomark _))
      (pss_cons (ps_set (i := 2) sc28.nd rfl (.inl rfl) (pe_callTy call_int1 (by rfl) B.int PyProof.Rows.boot_int (pa_cons (pe_bm0 PySem.F.plainAttrs_list PySem.F.slot_list_pop PySem.F.type_list_pop mt_pop (pe_ix ix_list (pv 0) pe_int (fun _ _ => rfl))) pa_nil)))
      (pss_cons (ps_expr (pe_bm PySem.F.plainAttrs_list PySem.F.slot_list_append PySem.F.type_list_append mt_append (pe_ix ix_list (pv 0) pe_int (fun _ _ => rfl)) (pa_cons (pe_op op_fdivW (pv 2) (pv 1)) pa_nil)))
      (pss_one (ps_ret (pe_op op_mod (pv 2) (pv 1)))))) pss_nil)
    (pss_cons (ps_asg (pe_op op_mod (pe_callTy call_int1 (by rfl) B.int PyProof.Rows.boot_int (pa_cons (pe_op op_add (pe_op op_mul (pe_ix ix_list (pv 0) pe_int (fun _ _ => rfl)) pe_int) pe_int) pa_nil)) pe_int) (pg_sub (pv 0) pe_int set_list))
    (pss_one (ps_ret (pe_op op_mod (pe_callTy call_int1 (by rfl) B.int PyProof.Rows.boot_int (pa_cons (pe_op op_fdiv (pe_ix ix_list (pv 0) pe_int (fun _ _ => rfl)) pe_int) pa_nil)) (pv 1)))))), ?_⟩)
  · obtain ⟨d, c, m, rfl, _⟩ := h
    rfl
  obtain ⟨d, c, m, rfl, hD, m0, ms, q⟩ := h
  obtain ⟨dc, cs, b, h1, h2, c0, cl, b0, b1⟩ := hD
  refine sq_cut (fun σ H' => σ = [some (.ref d), some (.int m), none] ∧ Kp d c H H' ∧ ∃ es : List Int, (∀ x ∈ es, 0 ≤ x) ∧ es.length ≤ 64 ∧ H' d = some (.lst [.ref c, .int b]) ∧ H' c = some (.lst (es.map V.int))) (fun Z hZ => ?_) ?_
  · refine ⟨AnyW d c m b H,
      ⟨_, rfl, Kp.refl, cs, rfl, c0, cl, h1, h2⟩, ?_⟩
    rintro k σ H' ⟨rfl, hk, es, rfl, e0, el, g1, g2⟩
    refine ⟨_, rfl, d, _, _, _, rfl, rfl, SqL.of g1, at0, (by show 0 ≤ sizeLine; decide), fun p hp => ?_⟩
    have hpc : p ≠ c := fun e => by rw [e, g2] at hp; cases hp
    have hpd : p ≠ d := fun e => by rw [e, g1] at hp; cases hp
    have u1 : upd H' p (.lst []) d = some (.lst [.ref c, .int b]) := by rw [upd_ne (Ne.symm hpd)]; exact g1
    have u2 : upd H' p (.lst []) c = some (.lst (es.map V.int)) := by rw [upd_ne (Ne.symm hpc)]; exact g2
    have uk : Kp d c H (upd H' p (.lst [])) := hk.new hp
    have u3 : upd H' p (.lst []) p = some (.lst []) := upd_same
    generalize upd H' p (.lst []) = H1 at u1 u2 u3 uk
    refine neL (ns := es) (ms := []) (SqL.of u2) (SqL.of u3) ⟨_, rfl, ?_⟩
    rcases List.eq_nil_or_concat es with rfl | ⟨es', e, ee⟩
    · exact iteN (by simp) (iteF (hZ _ _ ⟨rfl, uk, [], fun _ z => by simp at z, by simp, u1, u2⟩))
    · rw [List.concat_eq_append] at ee
      subst ee
      refine iteP (by simp) ⟨_, rfl, d, _, _, _, rfl, rfl, SqL.of u1, at0, ?_⟩
      refine ⟨_, rfl, c, _, _, _, rfl, rfl, SqL.of u2, at_last, rfl, _, rfl, ?_⟩
      by_cases e1 : e = 0
      · refine iteP (by simp [e1]) ⟨fun σ H' => ∃ m', m' < (es' ++ [e]).length ∧ AnyW d c m b H m' σ H', fun _ _ z => z, _, rfl, d, _, _, _, rfl, rfl, SqL.of u1, at0, .inl ⟨rfl, _, SqL.of u2⟩, c, _, _, rfl, rfl, u2, last_at, ?_⟩
        rw [last_drop]
        refine ⟨es'.length, by simp, rfl, uk.upd_c, es', rfl, fun x hx => e0 x (by simp [hx]), by simp at el; omega, ?_, upd_same⟩
        rw [upd_ne dc]
        exact u1
      · exact iteN (by simp [e1]) (hZ _ _ ⟨rfl, uk, _, e0, el, u1, u2⟩)
  · rintro σ H' ⟨rfl, hk, es, e0, el, g1, g2⟩
    refine ⟨_, rfl, d, _, _, _, rfl, rfl, SqL.of g1, at0, (by show 0 ≤ sizeLine; decide), fun p hp => ?_⟩
    have hpc : p ≠ c := fun e => by rw [e, g2] at hp; cases hp
    have hpd : p ≠ d := fun e => by rw [e, g1] at hp; cases hp
    have u1 : upd H' p (.lst []) d = some (.lst [.ref c, .int b]) := by rw [upd_ne (Ne.symm hpd)]; exact g1
    have u2 : upd H' p (.lst []) c = some (.lst (es.map V.int)) := by rw [upd_ne (Ne.symm hpc)]; exact g2
    have uk : Kp d c H (upd H' p (.lst [])) := hk.new hp
    have u3 : upd H' p (.lst []) p = some (.lst []) := upd_same
    generalize upd H' p (.lst []) = H1 at u1 u2 u3 uk
    refine neL (ns := es) (ms := []) (SqL.of u2) (SqL.of u3) ⟨_, rfl, ?_⟩
    rcases List.eq_nil_or_concat es with rfl | ⟨es', e, ee⟩
    · refine iteN (by simp) ⟨_, rfl, d, _, _, _, rfl, rfl, SqL.of u1, at1, _, _, rfl, rfl, .inl ⟨by omega, by omega⟩, _, _, rfl, rfl, .inl ⟨_, rfl, _, _, rfl, rfl, (by show (0 : Int) < 2147483647; decide), _, rfl, d, _, _, _, rfl, rfl, u1, rfl, ?_⟩⟩
      have f0 := Int.emod_nonneg (b * 40693 + 71) (show (2147483647 : Int) ≠ 0 by decide)
      have f1 := Int.emod_lt_of_pos (b * 40693 + 71) (show (0 : Int) < 2147483647 by decide)
      obtain ⟨b', eb⟩ : ∃ b', b' = (b * 40693 + 71) % 2147483647 := ⟨_, rfl⟩
      rw [← eb] at f0 f1
      have e8 : [V.ref c, V.int b].set (Int.toNat 1) ((fun i j : Int => V.int (i % j)) (b * 40693 + 71) 2147483647) = [V.ref c, V.int b'] := by
        show [V.ref c, V.int ((b * 40693 + 71) % 2147483647)] = _
        rw [← eb]
      rw [e8]
      have w1 : upd H1 d (.lst [.ref c, .int b']) d = some (.lst [.ref c, .int b']) := upd_same
      have w2 : upd H1 d (.lst [.ref c, .int b']) c = some (.lst (([] : List Int).map V.int)) := by
        rw [upd_ne (Ne.symm dc)]
        exact u2
      have wk : Kp d c H (upd H1 d (.lst [.ref c, .int b'])) := uk.upd_d
      refine ⟨_, rfl, d, _, _, _, rfl, rfl, SqL.of w1, at1, _, _, rfl, rfl, ⟨by decide, by decide⟩, .inl ⟨_, rfl, _, rfl, _, _, rfl, rfl, m0, ?_⟩⟩
      exact q _ _ (Int.emod_nonneg _ (by omega)) (Int.emod_lt_of_pos _ m0) ⟨dc, [], b', w1, w2, fun _ z => by simp at z, by simp, f0, by omega⟩ wk
    · rw [List.concat_eq_append] at ee
      subst ee
      refine iteP (by simp) ⟨_, rfl, d, _, _, _, rfl, rfl, SqL.of u1, at0, .inl ⟨rfl, _, SqL.of u2⟩, c, _, _, rfl, rfl, u2, last_at, ?_⟩
      rw [last_drop]
      have w2 : upd H1 c (.lst (es'.map V.int)) c = some (.lst (es'.map V.int)) := upd_same
      have w1 : upd H1 c (.lst (es'.map V.int)) d = some (.lst [.ref c, .int b]) := by
        rw [upd_ne dc]
        exact u1
      have wk : Kp d c H (upd H1 c (.lst (es'.map V.int))) := uk.upd_c
      generalize upd H1 c (.lst (es'.map V.int)) = H3 at w1 w2 wk
      have el' : es'.length + 1 ≤ 64 := by simpa using el
      refine .inl ⟨e, rfl, _, rfl, d, _, _, _, rfl, rfl, SqL.of w1, at0, .inl ⟨rfl, _, SqL.of w2⟩, _, rfl, _, rfl, _, _, rfl, rfl, divW m0 ms (by decide) (by decide), c, _, _, rfl, rfl, w2, len_lt (by simp; omega), ?_⟩
      have x2 : upd H3 c (.lst (es'.map V.int ++ [V.int (e / m)])) c = some (.lst ((es' ++ [e / m]).map V.int)) := by rw [upd_same, List.map_append]; rfl
      have x1 : upd H3 c (.lst (es'.map V.int ++ [V.int (e / m)])) d = some (.lst [.ref c, .int b]) := by
        rw [upd_ne dc]
        exact w1
      have xk : Kp d c H (upd H3 c (.lst (es'.map V.int ++ [V.int (e / m)]))) := wk.upd_c
      generalize upd H3 c (.lst (es'.map V.int ++ [V.int (e / m)])) = H4 at x1 x2 xk
      refine ⟨_, rfl, _, rfl, _, _, rfl, rfl, m0, ?_⟩
      have e1 := e0 e (by simp)
      exact q _ _ (Int.emod_nonneg _ (by omega)) (Int.emod_lt_of_pos _ m0) ⟨dc, es' ++ [e / m], b, x1, x2, fun x hx => by
        rcases List.mem_append.mp hx with hx | hx
        · exact e0 x (by simp [hx])
        · have : x = e / m := by simpa using hx
          rw [this]
          exact Int.ediv_nonneg e1 (by omega), by simp; omega, b0, b1⟩ xk
end
end KV

/-! of, divisor -/
namespace KV
open PySem PySem.Spec PyProof.Rows L2 KM
theorem Kp.seqL {K : PySem.W.Frag} {d c : Addr} {H H' : Hp} {a : Addr} {xs : List V} (k : Kp d c H H') (hd : a ≠ d) (hc : a ≠ c) (h : SqL K H a xs) : SqL K H' a xs := by
  rcases h with (h | ⟨o, h⟩) | h
  · exact .inl (.inl (k _ _ hd hc h))
  · exact .inl (.inr ⟨o, k _ _ hd hc h⟩)
  · exact .inr h
theorem Kp.seqT {K : PySem.W.Frag} {d c : Addr} {H H' : Hp} {a : Addr} {xs : List V} (k : Kp d c H H') (hd : a ≠ d) (hc : a ≠ c) (h : SqT K H a xs) : SqT K H' a xs := by
  rcases h with (h | ⟨o, h⟩) | h
  · exact .inl (.inl (k _ _ hd hc h))
  · exact .inl (.inr ⟨o, k _ _ hd hc h⟩)
  · exact .inr h
section
variable {P : Program} {w : World} {K : PySem.W.Frag} {mg : Str → Option Value} {base : Heap}
def spOf (K : PySem.W.Frag) : Sp := fun vs H Q _ => ∃ (d c a : Addr) (xs : List V), vs = [.ref d, .ref a] ∧ Dl H d c ∧ a ≠ d ∧ a ≠ c ∧ SqL K H a xs ∧ 0 < xs.length ∧ xs.length ≤ 1000 ∧ ∀ (j : Nat) x H', xs[j]? = some x → Dl H' d c → Kp d c H H' → Q x H'
theorem sc29 : FnScope ["_law_deal", "_law_some"] ["_law_deal", "_law_some"] (defScope (top 29)) := ⟨rfl, rfl, rfl, by decide +kernel, rfl, by decide +kernel, by decide +kernel⟩
theorem ok_of {f : Addr} {fd : FuncData} (B : Bl mg) (CA : Cal P w K mg base CX0 1 "_law_any" ["_law_deal", "_law_bound"] spAny) (F : Fun K "_law_of" "_law_of" (top 29) f fd) : FnOk P w K mg base CX0 2 f fd ["_law_deal", "_law_some"] (spOf K) := by
  refine F.ok sc29 (fun vs H Q E h => ?_) (fun cdv A outer s H vs Q E hr h => ⟨_,
    pss_one (ps_ret (pe_ix ix_list (pv 1) (pe_cal (X := L2.Cx.nox _) CA hr (by decide) (pa_cons (pv 0) (pa_cons (pe_callB call_len_seq (by rfl) B.len PySem.boot_len (pa_cons (pv 1) pa_nil)) pa_nil))) (fun _ _ => rfl))), ?_⟩)
  · obtain ⟨d, c, a, xs, rfl, _⟩ := h
    rfl
  obtain ⟨d, c, a, xs, rfl, hD, ad, ac, hS, l0, l1, q⟩ := h
  refine ⟨_, rfl, _, rfl, _, rfl, a, xs, rfl, .inl hS, d, c, _, rfl, hD, by omega, ?_, fun r H' r0 r1 hD' hk => ?_⟩
  · exact sm_of (by omega) (Int.lt_of_le_of_lt (show (xs.length : Int) ≤ 1000 by omega) (by decide))
  · have hj : r.toNat < xs.length := by omega
    have e1 : atI xs r = some xs[r.toNat] := by
      unfold atI L2.ixN
      rw [if_pos r0, if_pos r1]
      exact List.getElem?_eq_getElem hj
    exact ⟨a, xs, r, _, rfl, rfl, hk.seqL ad ac hS, e1, q r.toNat _ _ (List.getElem?_eq_getElem hj) hD' hk⟩
theorem gcd_step {a b : Int} (ha : 0 ≤ a) (hb : 0 ≤ b) : Int.gcd b (a % b) = Int.gcd b a := by
  obtain ⟨m, rfl⟩ := Int.eq_ofNat_of_zero_le ha
  obtain ⟨n, rfl⟩ := Int.eq_ofNat_of_zero_le hb
  show Nat.gcd n (m % n) = Nat.gcd n m
  rw [Nat.gcd_comm]
  exact (Nat.gcd_rec n m).symm
def spDiv : Sp := fun vs H Q _ => ∃ x y : Int, vs = [.int x, .int y] ∧ 0 ≤ x ∧ 0 ≤ y ∧ Q (.int (Int.gcd x y)) H
theorem sc31 : FnScope ["_law_one", "_law_other"] ["_law_one", "_law_other"] (defScope (top 31)) := ⟨rfl, rfl, rfl, by decide +kernel, rfl, by decide +kernel, by decide +kernel⟩
theorem ok_div {f : Addr} {fd : FuncData} (B : Bl mg) (F : Fun K "_law_divisor" "_law_divisor" (top 31) f fd) : FnOk P w K mg base CX0 1 f fd ["_law_one", "_law_other"] spDiv := by
  refine F.ok sc31 (fun vs H Q E h => ?_) (fun cdv A outer s H vs Q E hr h => ⟨_,
    pss_cons (ps_while PassesOwn.never (pt_cmpR op_ne (pv 1) pe_int (nomark _)) (pss_one (ps_par (i := 0) (j := 1) rfl sc31.nd rfl rfl (by decide) rfl rfl (pa_cons (pv 1) (pa_cons (pe_op op_mod (pe_callTy call_int1 (by rfl) B.int PyProof.Rows.boot_int (pa_cons (pv 0) pa_nil)) (pv 1)) pa_nil)) (by rfl))))
    (pss_one (ps_ret (pv 0))), ?_⟩)
  · obtain ⟨x, y, rfl, _⟩ := h
    rfl
  obtain ⟨x, y, rfl, x0, y0, q⟩ := h
  refine ⟨fun k σ H' => ∃ a b : Int, k = b.toNat ∧ 0 ≤ a ∧ 0 ≤ b ∧ Int.gcd a b = Int.gcd x y ∧ σ = [some (.int a), some (.int b)] ∧ H' = H, ⟨_, x, y, rfl, x0, y0, rfl, rfl, rfl⟩, ?_⟩
  rintro k σ H' ⟨a, b, rfl, a0, b0, g, rfl, rfl⟩
  refine ⟨_, rfl, rfl, _, rfl, ?_⟩
  by_cases e : b = 0
  · subst e
    refine iteN (by simp) ⟨_, rfl, ?_⟩
    rw [← g] at q
    have e1 : (Int.gcd a 0 : Int) = a := by
      rw [Int.gcd_zero_right]
      omega
    rw [e1] at q
    exact q
  · have b1 : 0 < b := by omega
    refine iteP (by simp [e]) ⟨fun σ' H2 => ∃ a b' : Int, b'.toNat < b.toNat ∧ 0 ≤ a ∧ 0 ≤ b' ∧ Int.gcd a b' = Int.gcd x y ∧ σ' = [some (.int a), some (.int b')] ∧ H2 = H', fun σ' H2 ⟨a, b', h0, h1, h2, h3, h4, h5⟩ => ⟨_, h0, a, b', rfl, h1, h2, h3, h4, h5⟩, ?_⟩
    have m0 := Int.emod_nonneg a e
    have m1 := Int.emod_lt_of_pos a b1
    refine ⟨_, rfl, _, rfl, .inl ⟨_, rfl, _, rfl, _, _, rfl, rfl, b1, _, _, rfl, b, a % b, by omega, b0, m0, ?_, rfl, rfl⟩⟩
    rw [← g, Int.gcd_comm a b]
    exact gcd_step a0 b0
end
end KV

/-! the law: inverse, a drawn lot, an integer that fits it -/
namespace KV
open PySem PySem.Spec PyProof.Rows L2 KM
theorem filt_at {f : Int → Bool} {l : List Int} {i : Nat} {x : Int} (h : l[i]? = some x) : (l.take (i + 1)).filter f = (l.take i).filter f ++ if f x = true then [x] else [] := by
  rw [take_at h, List.filter_append]
  congr 1
  by_cases z : f x = true
  · rw [if_pos z, List.filter_cons_of_pos z]
    rfl
  · rw [if_neg z, List.filter_cons_of_neg z]
    rfl
theorem filt_nil {f : Int → Bool} {l : List Int} (h : l.filter f = []) : ∀ x ∈ l, f x = false := fun x hx => by
  cases e : f x with
  | false => rfl
  | true =>
    have : x ∈ l.filter f := List.mem_filter.mpr ⟨hx, e⟩
    rw [h] at this
    simp at this
theorem Dl.upd {H : Hp} {d c p : Addr} {o : HO} (h : Dl H d c) (hd : p ≠ d) (hc : p ≠ c) : Dl (L2.upd H p o) d c := by
  obtain ⟨n, cs, b, h1, h2, r⟩ := h
  exact ⟨n, cs, b, by rw [upd_ne (Ne.symm hd)]; exact h1, by rw [upd_ne (Ne.symm hc)]; exact h2, r⟩
theorem Kp.updn {d c p : Addr} {H H' : Hp} {o : HO} (k : Kp d c H H') (hp : H p = none) : Kp d c H (L2.upd H' p o) := fun b u h1 h2 h => by
  rw [upd_ne (ne_of_none h hp)]
  exact k b u h1 h2 h

theorem atI_zero {x : V} {xs : List V} : atI (x :: xs) 0 = some x := by
  unfold atI L2.ixN
  rw [if_pos (by decide), if_pos (by simp only [List.length_cons]; omega)]
  rfl
theorem Ke.kp {K : PySem.W.Frag} {d c a : Addr} {H H' : Hp} (k : Kp d c H H') (hd : a ≠ d) (hc : a ≠ c) : Ke K H H' a := fun _ => ⟨fun h => k.seqL hd hc h, fun h => k.seqT hd hc h⟩
theorem Kp.sqA {K : PySem.W.Frag} {d c a : Addr} {H H' : Hp} {xs : List V} (k : Kp d c H H') (hd : a ≠ d) (hc : a ≠ c) (h : SqA K H a xs) : SqA K H' a xs := h.imp (fun h => k.seqL hd hc h) (fun h => k.seqT hd hc h)
theorem inv_last {m u x : Int} (hm : 3 ≤ m) (d : m ∣ 1 - u * x) : (u * x) % m = 1 := by
  have z := Int.emod_eq_emod_iff_emod_sub_eq_zero.mpr (Int.emod_eq_zero_of_dvd d)
  rw [← z]
  exact Int.emod_eq_of_lt (by omega) (by omega)
theorem inv_ex {W q : Int} (hq : 3 ≤ q) (g : Int.gcd W q = 1) : ∃ k : Int, 0 ≤ k ∧ k < q ∧ (k * W) % q = 1 := by
  have inv : ∀ (m : Nat) (r o t u : Int), Eu q W r o t u → r.toNat ≤ m → ∃ o' t' u', Eu q W 0 o' t' u' := by
    intro m
    induction m with
    | zero =>
      intro r o t u h hr
      have : r = 0 := by have := h.r0; omega
      subst this
      exact ⟨_, _, _, h⟩
    | succ m ihm =>
      intro r o t u h hr
      by_cases z : r = 0
      · subst z
        exact ⟨_, _, _, h⟩
      · obtain ⟨h2, d⟩ := h.step z
        exact ihm _ _ _ _ h2 (by omega)
  obtain ⟨o', t', u', e⟩ := inv _ _ _ _ _ (Eu.start (m := q) (x := W) (by omega)) (Nat.le_refl _)
  obtain ⟨_, d⟩ := e.end_ g
  refine ⟨u' % q, Int.emod_nonneg _ (by omega), Int.emod_lt_of_pos _ (by omega), ?_⟩
  have := inv_last hq d
  rw [Int.mul_emod, Int.emod_emod_of_dvd u' (Int.dvd_refl q), ← Int.mul_emod]
  exact this
/-- moduli whose product is not too great -/
structure FitL (ns : List Int) : Prop where
  ge : ∀ n ∈ ns, 3 ≤ n
  co : ns.Pairwise (fun a b => Int.gcd a b = 1)
  sml : prd ns < 2 ^ 100
  few : ns.length ≤ 1000
theorem prd_lek {k : Nat} : ∀ {ns : List Int}, (∀ n ∈ ns, 3 ≤ n) → (∀ n ∈ ns, n < 2 ^ k) → prd ns ≤ 2 ^ (k * ns.length)
  | [], _, _ => by show (1 : Int) ≤ 1; decide
  | n :: r, h, g => by
    have ih := prd_lek (ns := r) (fun m hm => h m (by simp [hm])) fun m hm => g m (by simp [hm])
    have h1 := h n (by simp)
    have g1 := g n (by simp)
    have pp := prd_pos (ns := r) fun m hm => h m (by simp [hm])
    have e : (2 : Int) ^ (k * (n :: r).length) = 2 ^ k * 2 ^ (k * r.length) := by
      rw [List.length_cons, Nat.mul_succ, Nat.add_comm, Int.pow_add]
    show n * prd r ≤ _
    rw [e]
    exact Int.mul_le_mul (by omega) ih (by omega) (by omega)
theorem fit_of {ns ns' : List Int} (hb : ∀ n ∈ ns, 3 ≤ n ∧ n < 2 ^ 24) (hp : ns.Pairwise (fun a b => Int.gcd a b = 1)) (hl : ns.length ≤ 4) (pe : ns'.Perm ns) : FitL ns' := by
  have l' : ns'.length ≤ 4 := by rw [pe.length_eq]; exact hl
  have b' : ∀ n ∈ ns', 3 ≤ n ∧ n < 2 ^ 24 := fun n hn => hb n (pe.mem_iff.mp hn)
  refine ⟨fun n hn => (b' n hn).1, (pe.pairwise_iff fun {a b} e => by rw [Int.gcd_comm]; exact e).mpr hp, ?_, by omega⟩
  have h1 := prd_lek (k := 24) (ns := ns') (fun n hn => (b' n hn).1) fun n hn => (b' n hn).2
  have e : (2 : Int) ^ (24 * ns'.length) ≤ 2 ^ 96 := by
    have := Nat.pow_le_pow_right (show 0 < 2 by decide) (show 24 * ns'.length ≤ 96 by omega)
    exact_mod_cast this
  have e2 : (2 : Int) ^ 96 < 2 ^ 100 := by decide
  omega
theorem FitL.take_le {ns : List Int} (h : FitL ns) (i : Nat) : 0 < prd (ns.take i) ∧ prd (ns.take i) ≤ prd ns := by
  have p1 : 0 < prd (ns.take i) := prd_pos fun n hn => h.ge n (List.mem_of_mem_take hn)
  have p2 : 0 < prd (ns.drop i) := prd_pos fun n hn => h.ge n (List.mem_of_mem_drop hn)
  refine ⟨p1, ?_⟩
  have e : prd ns = prd (ns.take i) * prd (ns.drop i) := by rw [← prd_app, List.take_append_drop]
  rw [e]
  have := Int.mul_le_mul_of_nonneg_left (show (1 : Int) ≤ prd (ns.drop i) by omega) (show 0 ≤ prd (ns.take i) by omega)
  rw [Int.mul_one] at this
  exact this
theorem FitL.sT {ns : List Int} (h : FitL ns) (i : Nat) : sm 101 (prd (ns.take i)) := by
  obtain ⟨a, b⟩ := h.take_le i
  have := h.sml
  refine sm_of (by omega) ?_
  have e2 : (2 : Int) ^ 100 < 2 ^ 101 := by decide
  omega
theorem FitL.sq {ns : List Int} (h : FitL ns) {q : Int} (hq : q ∈ ns) : sm 101 q := by
  have := h.ge q hq
  have p := prd_pos h.ge
  have := Int.le_of_dvd p (dvd_prd hq)
  have := h.sml
  refine sm_of (by omega) ?_
  have e2 : (2 : Int) ^ 100 < 2 ^ 101 := by decide
  omega
theorem FitL.gcd {ns : List Int} {i : Nat} {q : Int} (h : FitL ns) (hq : ns[i]? = some q) : Int.gcd (prd (ns.take i)) q = 1 := by
  have es : ns = ns.take i ++ (q :: ns.drop (i + 1)) := by rw [← drop_at hq, List.take_append_drop]
  have co := h.co
  rw [es] at co
  obtain ⟨_, _, c3⟩ := List.pairwise_append.mp co
  rw [Int.gcd_comm]
  refine gcd_prd fun n hn => ?_
  rw [Int.gcd_comm]
  exact c3 n hn q (by simp)
section
variable {P : Program} {w : World} {K : PySem.W.Frag} {mg : Str → Option Value} {base : Heap}
def spInvL : Sp := fun vs H Q _ => ∃ u q : Int, vs = [.int u, .int q] ∧ 3 ≤ q ∧ sm 101 q ∧ ∀ (r : Int) (H' : Hp), 0 ≤ r → r < q → Same H H' → Q (.int r) H'
theorem sc32 : FnScope ["_law_number", "_law_q", "_law_rest", "_law_other", "_law_times", "_law_others", "_law_step"] ["_law_number", "_law_q"] (defScope (top 32)) := ⟨rfl, rfl, rfl, by decide +kernel, rfl, by decide +kernel, by decide +kernel⟩
theorem ok_invL {f : Addr} {fd : FuncData} (B : Bl mg) (F : Fun K "_law_inverse" "_law_inverse" (top 32) f fd) : FnOk P w K mg base CX0 1 f fd ["_law_number", "_law_q"] spInvL := by
  refine F.ok sc32 (fun vs H Q E h => ?_) (fun cdv A outer s H vs Q E hr h => ⟨_,
    pss_cons (ps_asg (pe_tup (pa_cons (pe_op op_mod (pe_callTy call_int1 (by rfl) B.int PyProof.Rows.boot_int (pa_cons (pv 0) pa_nil)) (pv 1)) (pa_cons (pv 1) (pa_cons pe_int (pa_cons pe_int pa_nil))))) (pg_tup rfl (pgs_cons (pg_name (i := 2) sc32.nd rfl (.inl rfl)) (pgs_cons (pg_name (i := 3) sc32.nd rfl (.inl rfl)) (pgs_cons (pg_name (i := 4) sc32.nd rfl (.inl rfl)) (pgs_cons (pg_name (i := 5) sc32.nd rfl (.inl rfl)) pgs_nil))))))
    (pss_cons (ps_while PassesOwn.never (pt_cmpR op_ne (pv 2) pe_int (nomark _)) (pss_cons (ps_set (i := 6) sc32.nd rfl (.inl rfl) (pe_op op_fdivW (pv 3) (pv 2)))
    (pss_one (ps_asg (pe_tup (pa_cons (pe_op op_sub (pv 3) (pe_op op_mulW (pv 6) (pv 2))) (pa_cons (pv 2) (pa_cons (pe_op op_sub (pv 5) (pe_op op_mulW (pv 6) (pv 4))) (pa_cons (pv 4) pa_nil))))) (pg_tup rfl (pgs_cons (pg_name (i := 2) sc32.nd rfl (.inl rfl)) (pgs_cons (pg_name (i := 3) sc32.nd rfl (.inl rfl)) (pgs_cons (pg_name (i := 4) sc32.nd rfl (.inl rfl)) (pgs_cons (pg_name (i := 5) sc32.nd rfl (.inl rfl)) pgs_nil)))))))))
    (pss_one (ps_ret (pe_op op_mod (pe_callTy call_int1 (by rfl) B.int PyProof.Rows.boot_int (pa_cons (pv 5) pa_nil)) (pv 1))))), ?_⟩)
  · obtain ⟨u, q, rfl, _⟩ := h
    rfl
  obtain ⟨x, m, rfl, m3, ms, q⟩ := h
  refine ⟨_, rfl, .inl ⟨_, rfl, _, rfl, _, _, rfl, rfl, (by show (0 : Int) < m; omega), _, rfl, (by show 4 ≤ sizeLine; decide), fun t ht => ⟨_, _, rfl, SqT.of upd_same, rfl, _, _, rfl, _, _, rfl, _, _, rfl, _, _, rfl, rfl, ?_⟩⟩⟩
  dsimp only [gName]
  refine ⟨fun k σ H2 => (∃ (r o t u : Int) (v8 : Option V), k = r.toNat ∧ Eu m x r o t u ∧ σ = [some (.int x), some (.int m), some (.int r), some (.int o), some (.int t), some (.int u), v8]) ∧ Same H H2,
    ⟨_, ⟨_, _, _, _, none, rfl, Eu.start (by omega), rfl⟩, Same.new ht⟩, ?_⟩
  rintro k σ H2 ⟨⟨r, o, t, u, v8, rfl, eu, rfl⟩, hH2⟩
  refine ⟨_, rfl, rfl, _, rfl, ?_⟩
  by_cases hr0 : r = 0
  · subst hr0
    exact iteN (by simp) ⟨_, rfl, .inl ⟨_, rfl, _, rfl, _, _, rfl, rfl, (by show (0 : Int) < m; omega), q _ _ (Int.emod_nonneg _ (by omega)) (Int.emod_lt_of_pos _ (by omega)) hH2⟩⟩
  · obtain ⟨eu2, dec⟩ := eu.step hr0
    have r0 := eu.r0
    have ro := eu.ro
    have om := eu.om
    have so : sm 101 o := sm_le (by omega) om ms
    have sr : sm 101 r := sm_le r0 (by omega) so
    have sq : sm 101 (o / r) := sm_le (Int.ediv_nonneg (by omega) r0) (Int.ediv_le_self r (by omega)) so
    have st : sm 101 t := sm_abs eu.tb ms
    refine iteP (by simp [hr0]) ⟨fun σ' H3 => ∃ k', k' < r.toNat ∧ ((∃ (r o t u : Int) (v8 : Option V), k' = r.toNat ∧ Eu m x r o t u ∧ σ' = [some (.int x), some (.int m), some (.int r), some (.int o), some (.int t), some (.int u), v8]) ∧ Same H H3), fun _ _ z => z, ?_⟩
    refine ⟨_, rfl, _, rfl, _, _, rfl, rfl, divW (by omega) sr (by decide) (by decide), ?_⟩
    refine ⟨_, rfl, _, rfl, _, rfl, _, _, rfl, rfl, mulW sq sr (by decide) (by decide) (by decide), _, _, rfl, rfl, _, rfl, _, rfl, _, rfl, _, rfl, _, _, rfl, rfl, mulW sq st (by decide) (by decide) (by decide), _, _, rfl, rfl, _, rfl, (by show 4 ≤ sizeLine; decide), fun t' ht' => ⟨_, _, rfl, SqT.of upd_same, rfl, _, _, rfl, _, _, rfl, _, _, rfl, _, _, rfl, rfl, ?_⟩⟩
    exact ⟨_, dec, ⟨_, _, _, _, _, rfl, eu2, rfl⟩, hH2.trans (Same.new ht')⟩
def spDLot : Sp := fun vs H Q _ => ∃ (d c : Addr) (most : Int), vs = [.ref d, .int most] ∧ Dl H d c ∧ 0 ≤ most ∧ most ≤ 4 ∧ ∀ (p : Addr) (ns : List Int) (H' : Hp), FitL ns → H p = none → H' p = some (.tup (ns.map V.int)) → Dl H' d c → Kp d c H H' → Q (.ref p) H'
def spFit (K : PySem.W.Frag) : Sp := fun vs H Q _ => ∃ (d c l : Addr) (ns : List Int), vs = [.ref d, .ref l] ∧ Dl H d c ∧ l ≠ d ∧ l ≠ c ∧ SqA K H l (ns.map V.int) ∧ FitL ns ∧ ∀ (r : Int) (H' : Hp), sm 104 r → Dl H' d c → Kp d c H H' → Q (.int r) H'
theorem sc33 : FnScope ["_law_deal", "_law_lot", "_law_found", "_law_whole", "_law_q", "_law_rest", "_law_inverse_here", "_law_k"] ["_law_deal", "_law_lot"] (defScope (top 33)) := ⟨rfl, rfl, rfl, by decide +kernel, rfl, by decide +kernel, by decide +kernel⟩
theorem ok_fit {f : Addr} {fd : FuncData} (B : Bl mg) (CA : Cal P w K mg base CX0 1 "_law_any" ["_law_deal", "_law_bound"] spAny) (CV : Cal P w K mg base CX0 1 "_law_inverse" ["_law_number", "_law_q"] spInvL)
    (F : Fun K "_law_fitting" "_law_fitting" (top 33) f fd) : FnOk P w K mg base CX0 2 f fd ["_law_deal", "_law_lot"] (spFit K) := by
  refine F.ok sc33 (fun vs H Q E h => ?_) (fun cdv A outer s H vs Q E hr h => ⟨_,
    pss_cons (ps_asg (pe_tup (pa_cons pe_int (pa_cons pe_int pa_nil))) (pg_tup rfl (pgs_cons (pg_name (i := 2) sc33.nd rfl (.inl rfl)) (pgs_cons (pg_name (i := 3) sc33.nd rfl (.inr rfl)) pgs_nil))))
    (pss_cons (ps_for PassesOwn.never rfl (pi_sq (pv 1)) (pg_name (i := 4) sc33.nd rfl (.inr rfl))
      (pss_cons (ps_set (i := 5) sc33.nd rfl (.inl rfl) (by exact (pe_cal (X := L2.Cx.nox _) CA hr (by decide) (pa_cons (pv 0) (pa_cons pe_int pa_nil)))))
      (pss_cons (ps_set (i := 6) sc33.nd rfl (.inl rfl) (pe_ifExp (pt_cmpR op_lt (pv 4) pe_int (nomark _))
        (pe_ix ix_list (pe_lc (own := [("_law_k", 7)]) (g := gName 7) rfl sc33.nd (pi_range1 rfl B.range (pa_cons (pv 4) pa_nil)) (blkOk_by (N := ["_law_deal", "_law_lot", "_law_found", "_law_whole", "_law_q", "_law_rest", "_law_inverse_here", "_law_k"]) (sc := defScope (top 33)) (by decide +kernel))
          (fun _ _ _ _ _ => pg_name (i := 7) sc33.nd rfl (Or.inl rfl)) (fun _ _ _ _ _ => pts_one (pt_cmpR op_eq (pe_op op_mod (pe_callTy call_int1 (by rfl) B.int PyProof.Rows.boot_int (pa_cons (pe_op op_mulW (pv 7) (pv 3)) pa_nil)) (pv 4)) pe_int (nomark _))) (fun _ _ _ _ _ => pv 7)) pe_int (fun _ _ => rfl))
        (by exact (pe_cal (X := L2.Cx.nox _) CV hr (by decide) (pa_cons (pv 3) (pa_cons (pv 4) pa_nil))))))
      (pss_cons (ps_set (i := 2) sc33.nd rfl (.inl rfl) (pe_op op_add (pv 2) (pe_op op_mulW (pv 3) (pe_op op_mod (pe_callTy call_int1 (by rfl) B.int PyProof.Rows.boot_int (pa_cons (pe_op op_mulW (pe_op op_sub (pv 5) (pv 2)) (pv 6)) pa_nil)) (pv 4)))))
      (pss_one (ps_set (i := 3) sc33.nd rfl (.inr rfl) (pe_op op_mulW (pv 3) (pv 4))))))))
    (pss_one (ps_ret (pe_op op_add (pv 2) (pe_op op_mulW (pv 3) (pe_op op_sub (by exact (pe_cal (X := L2.Cx.nox _) CA hr (by decide) (pa_cons (pv 0) (pa_cons pe_int pa_nil)))) pe_int)))))), ?_⟩)
  · obtain ⟨d, c, l, ns, rfl, _⟩ := h
    rfl
  obtain ⟨d, c, l, ns, rfl, hD, ld, lc, hS, hF, q⟩ := h
  refine ⟨(by show 2 ≤ sizeLine; decide), fun t ht => ⟨_, _, rfl, SqT.of upd_same, rfl, _, _, rfl, _, _, rfl, rfl, ?_⟩⟩
  dsimp only [gName]
  have D1 : Dl (upd H t (.tup [V.int 0, V.int 1])) d c := hD.same (Same.new ht)
  have k1 : Kp d c H (upd H t (.tup [V.int 0, V.int 1])) := Kp.refl.new ht
  generalize upd H t (.tup [V.int 0, V.int 1]) = H1 at D1 k1
  refine ⟨_, rfl, l, rfl, for_sq (k1.sqA ld lc hS) (fun i σ H' => (∃ (f : Int) (v4 v5 v6 : Option V), 0 ≤ f ∧ f < prd (ns.take i) ∧ σ = [some (.ref d), some (.ref l), some (.int f), some (.int (prd (ns.take i))), v4, v5, v6, none]) ∧ Dl H' d c ∧ Kp d c H1 H') ⟨⟨0, none, none, none, by decide, by show (0 : Int) < 1; decide, rfl⟩, D1, Kp.refl⟩ (fun i σ H' _ p => Ke.kp p.2.2 ld lc) ?_ ?_⟩
  · rintro i x σ H2 hx ⟨⟨f, v4, v5, v6, f0, f1, rfl⟩, D2, k2⟩
    obtain ⟨m, hm, rfl⟩ := map_at hx
    have hmm := List.mem_of_getElem? hm
    have m3 := hF.ge m hmm
    have ms := hF.sq hmm
    have Ws := hF.sT i
    have Wp := (hF.take_le i).1
    have gW := hF.gcd hm
    have fs : sm 101 f := sm_le f0 (by omega) Ws
    refine ⟨_, rfl, d, c, 2, rfl, D2, by decide, by decide, fun r H3 r0 r1 D3 k3 => ?_⟩
    dsimp only [gName]
    refine sq_cut (fun σ H' => ∃ v : Int, 0 ≤ v ∧ v < m ∧ σ = [some (.ref d), some (.ref l), some (.int f), some (.int (prd (ns.take i))), some (.int m), some (.int r), some (.int v), none] ∧ Dl H' d c ∧ Kp d c H3 H') (fun Z hZ => ⟨_, rfl, _, _, rfl, rfl, _, rfl, ?_⟩) ?_
    · by_cases e : m < 60
      · refine iteP (by simp [e]) ⟨_, rfl, m, rfl, (by omega), (by omega), fun D hD => lc_range (lo := 0) (n := m.toNat) (fun j H' => Same H3 H' ∧ H' D = some (.lst ((((List.range j).map fun k : Nat => ((0 : Int) + (k : Int))).filter fun k => decide (k * prd (ns.take i) % m = 1)).map V.int))) ⟨Same.new hD, upd_same⟩ ?_ ?_⟩
        · rintro j H4 hj ⟨p1, p2⟩
          have js : sm 101 (0 + (j : Int)) := sm_le (by omega) (by omega) ms
          refine ⟨rfl, _, rfl, _, rfl, _, _, rfl, rfl, mulW js Ws (by decide) (by decide) (by decide), .inl ⟨_, rfl, _, rfl, _, _, rfl, rfl, (by show (0 : Int) < m; omega), rfl, _, rfl, ?_⟩⟩
          cases e1 : decide ((0 + (j : Int)) * prd (ns.take i) % m = 1) with
          | true =>
            refine iteP (by simpa using e1) ⟨_, rfl, _, p2, len_lt ?_, Same.upd p1 hD, ?_⟩
            · rw [List.length_map]
              have a := List.length_filter_le (fun k => decide (k * prd (ns.take i) % m = 1)) ((List.range j).map fun k : Nat => ((0 : Int) + (k : Int)))
              rw [List.length_map, List.length_range] at a
              omega
            · rw [upd_same, List.range_succ, List.map_append, List.filter_append, List.map_append]
              simp only [List.map_cons, List.map_nil, List.filter_cons, e1, List.filter_nil, if_true]
          | false =>
            refine iteN (by simpa using e1) ⟨p1, ?_⟩
            rw [List.range_succ, List.map_append, List.filter_append]
            simp only [List.map_cons, List.map_nil, List.filter_cons, e1, List.filter_nil, if_neg Bool.false_ne_true, List.append_nil]
            exact p2
        · rintro H4 ⟨p1, p2⟩
          obtain ⟨k, k0, k1, ke⟩ := inv_ex m3 gW
          have mem : k ∈ ((List.range m.toNat).map fun k : Nat => ((0 : Int) + (k : Int))).filter fun k => decide (k * prd (ns.take i) % m = 1) := by
            rw [List.mem_filter, List.mem_map]
            exact ⟨⟨k.toNat, List.mem_range.mpr (by omega), by omega⟩, decide_eq_true ke⟩
          cases eL : ((List.range m.toNat).map fun k : Nat => ((0 : Int) + (k : Int))).filter fun k => decide (k * prd (ns.take i) % m = 1) with
          | nil =>
            rw [eL] at mem
            simp at mem
          | cons v rest =>
            have mv : v ∈ ((List.range m.toNat).map fun k : Nat => ((0 : Int) + (k : Int))).filter fun k => decide (k * prd (ns.take i) % m = 1) := by
              rw [eL]
              simp
            rw [eL] at p2
            rw [List.mem_filter, List.mem_map] at mv
            obtain ⟨⟨b, hb, rfl⟩, _⟩ := mv
            have := List.mem_range.mp hb
            exact ⟨D, _, 0, V.int (0 + (b : Int)), rfl, rfl, SqL.of p2, atI_zero, hZ _ _ ⟨0 + (b : Int), by omega, by omega, rfl, D3.same p1, Kp.of p1⟩⟩
      · exact iteN (by simp [e]) ⟨_, rfl, _, rfl, _, m, rfl, m3, ms, fun v H4 v0 v1 s4 => hZ _ _ ⟨v, v0, v1, rfl, D3.same s4, Kp.of s4⟩⟩
    · rintro σ H4 ⟨v, v0, v1, rfl, D4, k4⟩
      have vs : sm 101 v := sm_le v0 (by omega) ms
      have rs : sm 101 r := sm_of (by omega) (Int.lt_of_le_of_lt (show r ≤ 2 by omega) (by decide))
      have z0 := Int.emod_nonneg ((r - f) * v) (show m ≠ 0 by omega)
      have z1 := Int.emod_lt_of_pos ((r - f) * v) (show 0 < m by omega)
      have zs : sm 101 ((r - f) * v % m) := sm_le z0 (by omega) ms
      refine ⟨_, rfl, _, rfl, _, rfl, _, rfl, _, _, rfl, rfl, _, rfl, _, _, rfl, rfl, mulW (sm_sub rs fs) vs (by decide) (by decide) (by decide), .inl ⟨_, rfl, _, rfl, _, _, rfl, rfl, (by show (0 : Int) < m; omega), _, _, rfl, rfl, mulW Ws zs (by decide) (by decide) (by decide), _, _, rfl, rfl, ?_⟩⟩
      dsimp only [gName]
      refine ⟨_, rfl, _, rfl, _, _, rfl, rfl, mulW Ws ms (by decide) (by decide) (by decide), ⟨_, some (.int m), some (.int r), some (.int v), (lift_bd (o := v) (e := r) f0 f1 (show 0 < m by omega)).1, ?_, ?_⟩, D4, ((k2.trans k3).trans k4)⟩
      · rw [prd_at hm]
        exact (lift_bd (o := v) (e := r) f0 f1 (show 0 < m by omega)).2
      · rw [prd_at hm]
        rfl
  · rintro σ H2 ⟨⟨f, v4, v5, v6, f0, f1, rfl⟩, D2, k2⟩
    rw [List.length_map, List.take_length] at f1 ⊢
    have Ws : sm 101 (prd ns) := by
      have := hF.sT ns.length
      rw [List.take_length] at this
      exact this
    refine ⟨_, rfl, _, rfl, _, rfl, d, c, 7, rfl, D2, by decide, by decide, fun r H3 r0 r1 D3 k3 => ?_⟩
    have rs : sm 2 (r - 3) := by show (r - 3).natAbs < 2 ^ 2; omega
    exact ⟨_, _, rfl, rfl, _, _, rfl, rfl, mulW Ws rs (by decide) (by decide) (by decide), _, _, rfl, rfl, q _ _ (sm_add (sm_mono (sm_le f0 (by omega) Ws) (by decide)) (sm_mul Ws rs)) D3 (k1.trans (k2.trans k3))⟩
end
end KV

/-! what follows: divisors of counts or of the ones before -/
namespace KM
def pln (n : Int) : Prop := n = 0 ∨ n = 1
instance (n : Int) : Decidable (pln n) := inferInstanceAs (Decidable (n = 0 ∨ n = 1))
def ones (n : Int) : List Int := [(n.natAbs : Int), ((n - 1).natAbs : Int)].filter fun q => decide (2 < q)
def stepF (n : Int) (l : List Int) : List Int := l.flatMap fun o => [(Int.gcd n o : Int), (Int.gcd (n - 1) o : Int)]
def fnd (ns : List Int) : List Int := ns.foldl (fun l n => stepF n l) [0]
theorem fnd_nil : fnd [] = [0] := rfl
theorem fnd_snoc (ns : List Int) (n : Int) : fnd (ns ++ [n]) = stepF n (fnd ns) := by
  unfold fnd
  rw [List.foldl_append]
  rfl
theorem mem_stepF {n q : Int} {l : List Int} : q ∈ stepF n l ↔ ∃ o ∈ l, q = (Int.gcd n o : Int) ∨ q = (Int.gcd (n - 1) o : Int) := by
  unfold stepF
  rw [List.mem_flatMap]
  constructor
  · rintro ⟨o, ho, h⟩
    refine ⟨o, ho, ?_⟩
    simpa using h
  · rintro ⟨o, ho, h⟩
    refine ⟨o, ho, ?_⟩
    simpa using h
theorem stepF_len (n : Int) : ∀ l : List Int, (stepF n l).length = 2 * l.length
  | [] => rfl
  | o :: r => by
    have := stepF_len n r
    show ((Int.gcd n o : Int) :: (Int.gcd (n - 1) o : Int) :: stepF n r).length = _
    simp only [List.length_cons, this]
    omega
theorem snoc_ind {α : Type} {P : List α → Prop} (h0 : P []) (h1 : ∀ l a, P l → P (l ++ [a])) (l : List α) : P l := by
  have key : ∀ (n : Nat) (l : List α), l.length = n → P l := by
    intro n
    induction n with
    | zero =>
      intro l e
      rw [List.eq_nil_of_length_eq_zero e]
      exact h0
    | succ n ih =>
      intro l e
      rcases List.eq_nil_or_concat l with rfl | ⟨l', a, e'⟩
      · simp at e
      · rw [List.concat_eq_append] at e'
        subst e'
        exact h1 l' a (ih l' (by simpa using e))
  exact key _ l rfl
theorem fnd_len (ns : List Int) : (fnd ns).length = 2 ^ ns.length := by
  induction ns using snoc_ind with
  | h0 => rfl
  | h1 l a ih =>
    rw [fnd_snoc, stepF_len, ih, List.length_append, List.length_singleton, Nat.pow_succ]
    omega
theorem fnd_nonneg (ns : List Int) : ∀ q ∈ fnd ns, 0 ≤ q := by
  induction ns using snoc_ind with
  | h0 => intro q hq; simp [fnd_nil] at hq; omega
  | h1 l a ih =>
    intro q hq
    rw [fnd_snoc] at hq
    obtain ⟨o, _, h | h⟩ := mem_stepF.mp hq <;> omega
theorem gcd_plain0 (o : Int) (h : 0 ≤ o) : (Int.gcd 0 o : Int) = o := by
  rw [Int.gcd_zero_left]
  omega
theorem gcd_one_l (o : Int) : (Int.gcd 1 o : Int) = 1 := by
  rw [Int.gcd_one_left]
  rfl
theorem gcd_m1 (o : Int) : (Int.gcd (-1) o : Int) = 1 := by
  rw [Int.neg_gcd]
  exact gcd_one_l o
theorem mem_plain {n q : Int} {l : List Int} (hp : pln n) (hl : ∀ o ∈ l, 0 ≤ o) (ne : l ≠ []) : q ∈ stepF n l ↔ q ∈ l ∨ q = 1 := by
  obtain ⟨o0, r, rfl⟩ : ∃ o r, l = o :: r := by
    cases l with
    | nil => exact absurd rfl ne
    | cons o r => exact ⟨o, r, rfl⟩
  rw [mem_stepF]
  constructor
  · rintro ⟨o, ho, h⟩
    have z := hl o ho
    rcases hp with rfl | rfl
    · rcases h with h | h
      · rw [gcd_plain0 o z] at h
        exact .inl (by rw [h]; exact ho)
      · have e : (0 - 1 : Int) = -1 := rfl
        rw [e, gcd_m1] at h
        exact .inr h
    · rcases h with h | h
      · rw [gcd_one_l] at h
        exact .inr h
      · have e : (1 - 1 : Int) = 0 := rfl
        rw [e, gcd_plain0 o z] at h
        exact .inl (by rw [h]; exact ho)
  · rintro (h | rfl)
    · have z := hl q h
      rcases hp with rfl | rfl
      · exact ⟨q, h, .inl (gcd_plain0 q z).symm⟩
      · exact ⟨q, h, .inr (gcd_plain0 q z).symm⟩
    · rcases hp with rfl | rfl
      · exact ⟨o0, by simp, .inr (gcd_m1 o0).symm⟩
      · exact ⟨o0, by simp, .inl (gcd_one_l o0).symm⟩
theorem fnd_ne (ns : List Int) : fnd ns ≠ [] := by
  intro e
  have := fnd_len ns
  rw [e] at this
  have z : 0 < 2 ^ ns.length := Nat.pow_pos (by decide)
  simp at this
  omega
/-- all pln: 0, and perhaps 1 -/
theorem fnd_none (ns : List Int) : (∀ n ∈ ns, pln n) → 0 ∈ fnd ns ∧ ∀ q ∈ fnd ns, q = 0 ∨ q = 1 := by
  induction ns using snoc_ind with
  | h0 => intro _; exact ⟨by simp [fnd_nil], fun q hq => by simp [fnd_nil] at hq; exact .inl hq⟩
  | h1 l a ih =>
    intro h
    obtain ⟨i1, i2⟩ := ih fun n hn => h n (by simp [hn])
    have m := fun q => mem_plain (q := q) (h a (by simp)) (fnd_nonneg l) (fnd_ne l)
    rw [fnd_snoc]
    exact ⟨(m 0).mpr (.inl i1), fun q hq => ((m q).mp hq).elim (fun z => i2 q z) .inr⟩
theorem gcd_pos_np {n o : Int} (h : ¬ pln n) : (0 : Int) < Int.gcd n o ∧ (0 : Int) < Int.gcd (n - 1) o := by
  unfold pln at h
  have a := Int.gcd_pos_of_ne_zero_left (a := n) o (by omega)
  have b := Int.gcd_pos_of_ne_zero_left (a := n - 1) o (by omega)
  omega
theorem gcd_pos_o {n o : Int} (h : 0 < o) : (0 : Int) < Int.gcd n o := by
  have a := Int.gcd_pos_of_ne_zero_right n (b := o) (by omega)
  omega
/-- not all pln: none is 0 -/
theorem fnd_some (ns : List Int) : (∃ n ∈ ns, ¬ pln n) → ∀ q ∈ fnd ns, 0 < q := by
  induction ns using snoc_ind with
  | h0 => rintro ⟨n, hn, _⟩; simp at hn
  | h1 l a ih =>
    intro h q hq
    rw [fnd_snoc] at hq
    obtain ⟨o, ho, hq⟩ := mem_stepF.mp hq
    by_cases ha : pln a
    · have : ∃ n ∈ l, ¬ pln n := by
        obtain ⟨n, hn, np⟩ := h
        rcases List.mem_append.mp hn with z | z
        · exact ⟨n, z, np⟩
        · have : n = a := by simpa using z
          rw [this] at np
          exact absurd ha np
      have o1 := ih this o ho
      rcases hq with rfl | rfl
      · exact gcd_pos_o o1
      · exact gcd_pos_o o1
    · have := gcd_pos_np (o := o) ha
      rcases hq with rfl | rfl
      · exact this.1
      · exact this.2
theorem fnd_open (ns : List Int) : ∀ q ∈ fnd ns, ∀ n ∈ ns, q ∣ n ∨ q ∣ n - 1 := by
  induction ns using snoc_ind with
  | h0 => intro q _ n hn; simp at hn
  | h1 l a ih =>
    intro q hq n hn
    rw [fnd_snoc] at hq
    obtain ⟨o, ho, hq⟩ := mem_stepF.mp hq
    rcases List.mem_append.mp hn with z | z
    · have d : q ∣ o := by
        rcases hq with rfl | rfl
        · exact Int.gcd_dvd_right ..
        · exact Int.gcd_dvd_right ..
      exact (ih o ho n z).imp (Int.dvd_trans d) (Int.dvd_trans d)
    · have e : n = a := by simpa using z
      subst e
      rcases hq with rfl | rfl
      · exact .inl (Int.gcd_dvd_left ..)
      · exact .inr (Int.gcd_dvd_left ..)
theorem co_of {x y a b : Int} (hx : x ∣ a) (hy : y ∣ b) (h : Int.gcd a b = 1) : Int.gcd x y = 1 := by
  have h1 : (Int.gcd x y : Int) ∣ Int.gcd a b := Int.dvd_coe_gcd (Int.dvd_trans (Int.gcd_dvd_left ..) hx) (Int.dvd_trans (Int.gcd_dvd_right ..) hy)
  rw [h] at h1
  have := Int.eq_one_of_dvd_one (Int.natCast_nonneg _) h1
  omega
theorem co_next (n : Int) : Int.gcd n (n - 1) = 1 := by
  have h1 : (Int.gcd n (n - 1) : Int) ∣ n - (n - 1) := Int.dvd_sub (Int.gcd_dvd_left ..) (Int.gcd_dvd_right ..)
  have e : n - (n - 1) = 1 := by omega
  rw [e] at h1
  have := Int.eq_one_of_dvd_one (Int.natCast_nonneg _) h1
  omega
theorem stepF_co {n : Int} : ∀ {l : List Int}, l.Pairwise (fun a b => Int.gcd a b = 1) → (stepF n l).Pairwise (fun a b => Int.gcd a b = 1)
  | [], _ => .nil
  | o :: r, h => by
    obtain ⟨h1, h2⟩ := List.pairwise_cons.mp h
    have far : ∀ x : Int, x ∣ o → ∀ y ∈ stepF n r, Int.gcd x y = 1 := by
      intro x hx y hy
      obtain ⟨o', ho', hy⟩ := mem_stepF.mp hy
      refine co_of hx (b := o') ?_ (h1 o' ho')
      rcases hy with rfl | rfl
      · exact Int.gcd_dvd_right ..
      · exact Int.gcd_dvd_right ..
    show ((Int.gcd n o : Int) :: (Int.gcd (n - 1) o : Int) :: stepF n r).Pairwise _
    refine List.pairwise_cons.mpr ⟨fun y hy => ?_, List.pairwise_cons.mpr ⟨far _ (Int.gcd_dvd_right ..), stepF_co h2⟩⟩
    rcases List.mem_cons.mp hy with rfl | hy
    · exact co_of (Int.gcd_dvd_left ..) (Int.gcd_dvd_left ..) (co_next n)
    · exact far _ (Int.gcd_dvd_right ..) y hy
theorem fnd_co (ns : List Int) : (fnd ns).Pairwise (fun a b => Int.gcd a b = 1) := by
  induction ns using snoc_ind with
  | h0 => exact List.pairwise_singleton ..
  | h1 l a ih =>
    rw [fnd_snoc]
    exact stepF_co ih
/-- what the lot of counts is -/
def LotI (ns : List Int) : Option (List Int) → Prop
  | none => ∀ n ∈ ns, pln n
  | some L => (∃ n ∈ ns, ¬ pln n) ∧ (∀ q, q ∈ L ↔ q ∈ fnd ns ∧ 2 < q) ∧ L.length ≤ 2 ^ ns.length
theorem LotI.nil : LotI [] none := fun _ h => by simp at h
theorem LotI.pln {ns : List Int} {o : Option (List Int)} {n : Int} (h : LotI ns o) (hp : pln n) : LotI (ns ++ [n]) o := by
  cases o with
  | none =>
    intro m hm
    rcases List.mem_append.mp hm with z | z
    · exact h m z
    · have : m = n := by simpa using z
      rw [this]
      exact hp
  | some L =>
    obtain ⟨⟨m, hm, np⟩, h2, h3⟩ := h
    refine ⟨⟨m, by simp [hm], np⟩, fun q => ?_, ?_⟩
    · rw [fnd_snoc, mem_plain hp (fnd_nonneg ns) (fnd_ne ns), h2]
      constructor
      · rintro ⟨a, b⟩
        exact ⟨.inl a, b⟩
      · rintro ⟨a | a, b⟩
        · exact ⟨a, b⟩
        · omega
    · rw [List.length_append, List.length_singleton, Nat.pow_succ]
      omega
theorem mem_ones {n q : Int} : q ∈ ones n ↔ (q = n.natAbs ∨ q = (n - 1).natAbs) ∧ 2 < q := by
  unfold ones
  rw [List.mem_filter]
  simp
theorem ones_len (n : Int) : (ones n).length ≤ 2 := List.length_filter_le _ _
theorem LotI.first {ns : List Int} {n : Int} {L : List Int} (h : LotI ns none) (hp : ¬ KM.pln n) (pe : L.Perm (ones n)) : LotI (ns ++ [n]) (some L) := by
  obtain ⟨f0, f1⟩ := fnd_none ns h
  refine ⟨⟨n, by simp, hp⟩, fun q => ?_, ?_⟩
  · rw [pe.mem_iff, mem_ones, fnd_snoc, mem_stepF]
    constructor
    · rintro ⟨a, b⟩
      refine ⟨⟨0, f0, ?_⟩, b⟩
      rw [Int.gcd_zero_right, Int.gcd_zero_right]
      exact a
    · rintro ⟨⟨o, ho, e⟩, b⟩
      refine ⟨?_, b⟩
      rcases f1 o ho with rfl | rfl
      · rw [Int.gcd_zero_right, Int.gcd_zero_right] at e
        exact e
      · rw [Int.gcd_one_right, Int.gcd_one_right] at e
        rcases e with e | e
        · rw [e] at b
          exact absurd b (by decide)
        · rw [e] at b
          exact absurd b (by decide)
  · rw [pe.length_eq, List.length_append, List.length_singleton, Nat.pow_succ]
    have := ones_len n
    have : 0 < 2 ^ ns.length := Nat.pow_pos (by decide)
    omega
/-- the greatest common divisors from 3 on -/
def comF (L M : List Int) : List Int := (L.flatMap fun m => M.map fun n => (Int.gcd m n : Int)).filter fun q => decide (2 < q)
theorem flat_len (L M : List Int) : (L.flatMap fun m => M.map fun n => (Int.gcd m n : Int)).length = L.length * M.length := by
  induction L with
  | nil => simp
  | cons a r ih =>
    rw [List.flatMap_cons, List.length_append, ih, List.length_map, List.length_cons, Nat.succ_mul]
    omega
theorem comF_len (L M : List Int) : (comF L M).length ≤ L.length * M.length := by
  rw [← flat_len]
  exact List.length_filter_le _ _
theorem mem_comF {L M : List Int} {q : Int} : q ∈ comF L M ↔ (∃ m ∈ L, ∃ n ∈ M, q = Int.gcd m n) ∧ 2 < q := by
  unfold comF
  rw [List.mem_filter, List.mem_flatMap, decide_eq_true_eq]
  constructor
  · rintro ⟨⟨m, hm, h⟩, b⟩
    obtain ⟨n, hn, e⟩ := List.mem_map.mp h
    exact ⟨⟨m, hm, n, hn, e.symm⟩, b⟩
  · rintro ⟨⟨m, hm, n, hn, e⟩, b⟩
    exact ⟨⟨m, hm, List.mem_map.mpr ⟨n, hn, e.symm⟩⟩, b⟩
theorem gcd_le_r {n o : Int} (h : 0 < o) : (Int.gcd n o : Int) ≤ o := Int.le_of_dvd h (Int.gcd_dvd_right ..)
theorem gcd_le_l {n o : Int} (h : n ≠ 0) : (Int.gcd n o : Int) ≤ n.natAbs := Int.le_of_dvd (by omega) (Int.dvd_natAbs.mpr (Int.gcd_dvd_left ..))
theorem gcd_abs (n o : Int) : Int.gcd (n.natAbs : Int) o = Int.gcd n o := by
  unfold Int.gcd
  rw [Int.natAbs_natCast]
theorem LotI.next {ns : List Int} {n : Int} {L M R : List Int} (h : LotI ns (some L)) (hp : ¬ KM.pln n) (pm : M.Perm (ones n)) (pr : R.Perm (comF L M)) : LotI (ns ++ [n]) (some R) := by
  obtain ⟨h1, h2, h3⟩ := h
  have fs := fnd_some ns h1
  have n0 : n ≠ 0 ∧ n - 1 ≠ 0 := by unfold KM.pln at hp; omega
  refine ⟨⟨n, by simp, hp⟩, fun q => ?_, ?_⟩
  · rw [pr.mem_iff, mem_comF, fnd_snoc, mem_stepF]
    constructor
    · rintro ⟨⟨m, hm, k, hk, e⟩, b⟩
      refine ⟨⟨m, ((h2 m).mp hm).1, ?_⟩, b⟩
      rcases (mem_ones.mp (pm.mem_iff.mp hk)).1 with rfl | rfl
      · rw [Int.gcd_comm, gcd_abs] at e
        exact .inl e
      · rw [Int.gcd_comm, gcd_abs] at e
        exact .inr e
    · rintro ⟨⟨o, ho, e⟩, b⟩
      refine ⟨⟨o, (h2 o).mpr ⟨ho, ?_⟩, ?_⟩, b⟩
      · have := fs o ho
        rcases e with rfl | rfl
        · have := gcd_le_r (n := n) this
          omega
        · have := gcd_le_r (n := n - 1) this
          omega
      · rcases e with rfl | rfl
        · refine ⟨(n.natAbs : Int), pm.mem_iff.mpr (mem_ones.mpr ⟨.inl rfl, ?_⟩), ?_⟩
          · have := gcd_le_l (o := o) n0.1
            omega
          · rw [Int.gcd_comm (n.natAbs : Int) o |>.symm, gcd_abs]
        · refine ⟨((n - 1).natAbs : Int), pm.mem_iff.mpr (mem_ones.mpr ⟨.inr rfl, ?_⟩), ?_⟩
          · have := gcd_le_l (o := o) n0.2
            omega
          · rw [Int.gcd_comm ((n - 1).natAbs : Int) o |>.symm, gcd_abs]
  · rw [pr.length_eq, List.length_append, List.length_singleton, Nat.pow_succ]
    have a := comF_len L M
    have b := ones_len n
    rw [← pm.length_eq] at b
    have c : L.length * M.length ≤ L.length * 2 := Nat.mul_le_mul_left _ b
    omega
/-- a doubt of the integer n -/
def isD (ns : List Int) (n k : Int) : Prop := 3 ≤ k ∧ (∀ c ∈ ns, ¬ 1 < c % k) ∧ 1 < n % k
instance (ns : List Int) (n k : Int) : Decidable (isD ns n k) := inferInstanceAs (Decidable (_ ∧ _ ∧ _))
/-- there is one -/
def due (ns : List Int) (n : Int) : Prop := (∃ q ∈ fnd ns, 2 < q ∧ 1 < n % q) ∨ (0 ∈ fnd ns ∧ ¬ pln n)
instance (ns : List Int) (n : Int) : Decidable (due ns n) := inferInstanceAs (Decidable ((∃ q ∈ fnd ns, 2 < q ∧ 1 < n % q) ∨ _))
theorem plain_mod {c k : Int} (h : pln c) (hk : 3 ≤ k) : ¬ 1 < c % k := by
  rcases h with rfl | rfl
  · rw [Int.zero_emod]; omega
  · rw [Int.emod_eq_of_lt (by omega) (by omega)]; omega
theorem open_mod {c k : Int} (h : k ∣ c ∨ k ∣ c - 1) (hk : 3 ≤ k) : ¬ 1 < c % k := by
  rcases h with h | h
  · rw [Int.emod_eq_zero_of_dvd h]; omega
  · obtain ⟨m, e⟩ := h
    have : c = 1 + k * m := by omega
    rw [this, Int.add_mul_emod_self_left, Int.emod_eq_of_lt (by omega) (by omega)]
    omega
/-- without a lot: exactly what is neither 0 nor 1 -/
theorem due_none {ns : List Int} {n : Int} (h : LotI ns none) : due ns n ↔ ¬ pln n := by
  obtain ⟨f0, f1⟩ := fnd_none ns h
  constructor
  · rintro (⟨q, hq, h2, _⟩ | ⟨_, z⟩)
    · rcases f1 q hq with rfl | rfl <;> omega
    · exact z
  · exact fun z => .inr ⟨f0, z⟩
theorem due_some {ns : List Int} {n : Int} {L : List Int} (h : LotI ns (some L)) : due ns n ↔ ∃ q ∈ L, 1 < n % q := by
  obtain ⟨h1, h2, _⟩ := h
  constructor
  · rintro (⟨q, hq, a, b⟩ | ⟨z, _⟩)
    · exact ⟨q, (h2 q).mpr ⟨hq, a⟩, b⟩
    · exact absurd (fnd_some ns h1 0 z) (by omega)
  · rintro ⟨q, hq, b⟩
    obtain ⟨a, c⟩ := (h2 q).mp hq
    exact .inl ⟨q, a, c, b⟩
theorem due_plain {ns : List Int} {n : Int} (h : pln n) : ¬ due ns n := by
  rintro (⟨q, _, a, b⟩ | ⟨_, z⟩)
  · exact plain_mod h (by omega) b
  · exact z h
theorem isD_lot {ns : List Int} {n : Int} {L : List Int} (h : LotI ns (some L)) {q : Int} (hq : q ∈ L) (hn : 1 < n % q) : isD ns n q := by
  obtain ⟨_, h2, _⟩ := h
  obtain ⟨a, c⟩ := (h2 q).mp hq
  exact ⟨by omega, fun x hx => open_mod (fnd_open ns q a x hx) (by omega), hn⟩
theorem isD_least {ns : List Int} {n k : Int} (h : LotI ns none) (hk : 3 ≤ k) (hn : 1 < n % k) : isD ns n k :=
  ⟨hk, fun x hx => plain_mod (h x hx) hk, hn⟩
/-- a lot's moduli are no greater than the counts -/
theorem lot_le {ns : List Int} {L : List Int} {b : Int} (h : LotI ns (some L)) (hb : ∀ n ∈ ns, (n.natAbs : Int) ≤ b) {q : Int} (hq : q ∈ L) : q ≤ b + 1 := by
  obtain ⟨⟨n, hn, np⟩, h2, _⟩ := h
  obtain ⟨a, c⟩ := (h2 q).mp hq
  have hb' := hb n hn
  unfold pln at np
  rcases fnd_open ns q a n hn with d | d
  · have := Int.le_of_dvd (a := q) (b := n.natAbs) (by omega) (Int.dvd_natAbs.mpr d)
    omega
  · have := Int.le_of_dvd (a := q) (b := (n - 1).natAbs) (by omega) (Int.dvd_natAbs.mpr d)
    omega
theorem fnd_le {ns : List Int} {b q : Int} (hb : ∀ n ∈ ns, (n.natAbs : Int) ≤ b) (hq : q ∈ fnd ns) (h2 : 2 < q) : q ≤ b + 1 := by
  by_cases h : ∀ n ∈ ns, pln n
  · rcases (fnd_none ns h).2 q hq with rfl | rfl <;> omega
  · have : ∃ n ∈ ns, ¬ pln n := by
      refine Classical.byContradiction fun z => h fun n hn => ?_
      exact Classical.byContradiction fun y => z ⟨n, hn, y⟩
    obtain ⟨n, hn, np⟩ := this
    have hb' := hb n hn
    unfold pln at np
    rcases fnd_open ns q hq n hn with d | d
    · have := Int.le_of_dvd (a := q) (b := n.natAbs) (by omega) (Int.dvd_natAbs.mpr d)
      omega
    · have := Int.le_of_dvd (a := q) (b := (n - 1).natAbs) (by omega) (Int.dvd_natAbs.mpr d)
      omega
/-- the count leaves more than 1 by its size and 2 -/
theorem far_mod {n : Int} (h : ¬ pln n) : 1 < n % ((n.natAbs : Int) + 2) := by
  unfold pln at h
  by_cases z : 0 ≤ n
  · rw [Int.emod_eq_of_lt z (by omega)]
    omega
  · have e : n % ((n.natAbs : Int) + 2) = (n + ((n.natAbs : Int) + 2)) % ((n.natAbs : Int) + 2) := by rw [Int.add_emod_right]
    rw [e, Int.emod_eq_of_lt (by omega) (by omega)]
    omega
end KM

/-! the program: lots of a count, common moduli -/
namespace KV
open PySem PySem.Spec PyProof.Rows L2 KM
/-- a tuple walked by a comprehension, whatever its block is -/
theorem walk_tup {K : PySem.W.Frag} {a : Addr} {xs : List V} {B : V → Hp → (Hp → Prop) → Prop} {Qd : Hp → Prop} {H0 : Hp} (Pv : Nat → Hp → Prop) (h0 : Pv 0 H0) (hl : ∀ i H, i ≤ xs.length → Pv i H → SqT K H a xs)
    (hs : ∀ i x H, xs[i]? = some x → Pv i H → B x H (Pv (i + 1))) (hd : ∀ H, Pv xs.length H → Qd H) :
    ∃ W : Nat → Nat → Hp → Prop, (∃ m, W 0 m H0) ∧ ∀ i m H, W i m H →
      ((Itt K a).stop i H ∧ Qd H) ∨ ((Itt K a).go i H ∧ ∃ Nx : Hp → Prop, (∀ H', Nx H' → ∃ m', m' < m ∧ W (i + 1) m' H') ∧ ∀ x H', (Itt K a).yld i H x H' → B x H' Nx) := by
  refine ⟨fun i m H => m = xs.length - i ∧ i ≤ xs.length ∧ Pv i H, ⟨xs.length, by simp, Nat.zero_le _, h0⟩, ?_⟩
  rintro i m H ⟨rfl, hi, p⟩
  have q := hl i H hi p
  by_cases hlt : i < xs.length
  · refine .inr ⟨⟨xs, xs[i], q, by simp [hlt]⟩, Pv (i + 1), fun H' p' => ⟨xs.length - (i + 1), by omega, rfl, hlt, p'⟩, fun x H' y => ?_⟩
    obtain ⟨e, y⟩ := y
    subst e
    exact hs i x _ (y xs q) p
  · have e : i = xs.length := by omega
    subst e
    exact .inl ⟨⟨xs, q, Nat.le_refl _⟩, hd H p⟩
theorem abs_e (n : Int) : (if n < 0 then -n else n) = (n.natAbs : Int) := by
  by_cases h : n < 0
  · rw [if_pos h]; omega
  · rw [if_neg h]; omega
section
variable {P : Program} {w : World} {K : PySem.W.Frag} {mg : Str → Option Value} {base : Heap}
def spPlain : Sp := fun vs H Q _ => ∃ n : Int, vs = [.int n] ∧ Q (.bl (decide (pln n))) H
theorem sc16 : FnScope ["count"] ["count"] (defScope (top 16)) := ⟨rfl, rfl, rfl, by decide +kernel, rfl, by decide +kernel, by decide +kernel⟩
theorem ok_plain {f : Addr} {fd : FuncData} (F : Fun K "_is_plain" "_is_plain" (top 16) f fd) : FnOk P w K mg base CX0 1 f fd ["count"] spPlain := by
  refine F.ok sc16 (fun vs H Q E h => ?_) (fun cdv A outer s H vs Q E hr h => ⟨_,
    pss_one (ps_ret (pe_or (pe_cmpR op_eq (pv 0) pe_int (nomark _)) (pe_one (pe_cmpR op_eq (pv 0) pe_int (nomark _))))), ?_⟩)
  · obtain ⟨n, rfl, _⟩ := h
    rfl
  obtain ⟨n, rfl, q⟩ := h
  refine ⟨_, rfl, rfl, _, rfl, ?_⟩
  by_cases e0 : n = 0
  · have e : decide (pln n) = true := decide_eq_true (.inl e0)
    rw [e] at q
    exact iteP (by simp [e0]) q
  · refine iteN (by simp [e0]) ⟨_, rfl, rfl, ?_⟩
    have e : decide (V.int n = V.int 1) = decide (pln n) := by
      rw [decide_eq_decide, V.int.injEq]
      unfold pln
      omega
    rw [e]
    exact q
def spOne : Sp := fun vs H Q _ => ∃ n : Int, vs = [.int n] ∧ ∀ (p : Addr) (ns : List Int) (H' : Hp), Same H H' → H p = none → H' p = some (.tup (ns.map V.int)) → ns.Perm (ones n) → ns.Pairwise (· ≤ ·) → Q (.ref p) H'
theorem sc17 : FnScope ["count", "side"] ["count"] (defScope (top 17)) := ⟨rfl, rfl, rfl, by decide +kernel, rfl, by decide +kernel, by decide +kernel⟩
theorem ok_one {f : Addr} {fd : FuncData} (B : Bl mg) (F : Fun K "_lot_of_one" "_lot_of_one" (top 17) f fd) : FnOk P w K mg base CX0 1 f fd ["count"] spOne := by
  refine F.ok sc17 (fun vs H Q E h => ?_) (fun cdv A outer s H vs Q E hr h => ⟨_,
    pss_one (ps_ret (pe_callTy call_tuple_of (by rfl) B.tuple (by decide +kernel) (pa_cons (pe_callB cr_sortedI (by rfl) B.sorted (by decide +kernel) (pa_cons
      (pe_lc (own := [("side", 1)]) (g := gName 1) rfl sc17.nd (pi_tup (pe_tup (pa_cons (pe_callB call_abs (by rfl) B.abs (by decide +kernel) (pa_cons (pv 0) pa_nil)) (pa_cons (pe_callB call_abs (by rfl) B.abs (by decide +kernel) (pa_cons (pe_op op_sub (pv 0) pe_int) pa_nil)) pa_nil)))) (blkOk_by (N := ["count", "side"]) (sc := defScope (top 17)) (by decide +kernel))
        (fun _ _ _ _ _ => pg_name (i := 1) sc17.nd rfl (Or.inl rfl)) (fun _ _ _ _ _ => pts_one (pt_cmpR op_gt (pv 1) pe_int (nomark _))) (fun _ _ _ _ _ => pv 1)) pa_nil)) pa_nil))), ?_⟩)
  · obtain ⟨n, rfl, _⟩ := h
    rfl
  obtain ⟨n, rfl, q⟩ := h
  refine ⟨_, rfl, n, rfl, _, rfl, _, _, rfl, rfl, n - 1, rfl, (by show 2 ≤ sizeLine; decide), fun t ht => ⟨t, rfl, ⟨_, SqT.of upd_same⟩, fun D hD => ?_⟩⟩
  have s1 : Same H (upd H t (.tup [V.int (if n < 0 then -n else n), V.int (if n - 1 < 0 then -(n - 1) else n - 1)])) := Same.new ht
  have e1 : [V.int (if n < 0 then -n else n), V.int (if n - 1 < 0 then -(n - 1) else n - 1)] = [(n.natAbs : Int), ((n - 1).natAbs : Int)].map V.int := by
    rw [abs_e, abs_e]
    rfl
  rw [e1] at s1 hD ⊢
  have g1 : upd H t (.tup ([(n.natAbs : Int), ((n - 1).natAbs : Int)].map V.int)) t = some (.tup ([(n.natAbs : Int), ((n - 1).natAbs : Int)].map V.int)) := upd_same
  generalize upd H t (.tup ([(n.natAbs : Int), ((n - 1).natAbs : Int)].map V.int)) = H1 at s1 g1 hD
  refine lc_tup (xs := [(n.natAbs : Int), ((n - 1).natAbs : Int)].map V.int) (fun i H' => Same H1 H' ∧ H' D = some (.lst (((([(n.natAbs : Int), ((n - 1).natAbs : Int)] : List Int).take i).filter fun o => decide (2 < o)).map V.int))) ⟨Same.new hD, upd_same⟩ (fun i H' _ p => SqT.of (p.1 _ _ g1)) ?_ ?_
  · rintro i x H2 hx ⟨p1, p2⟩
    obtain ⟨o, ho, rfl⟩ := map_at hx
    refine ⟨rfl, _, rfl, _, _, rfl, rfl, _, rfl, ?_⟩
    cases e : decide (2 < o) with
    | true =>
      refine iteP (by simpa using e) ⟨_, rfl, _, p2, len_lt ?_, Same.upd p1 hD, ?_⟩
      · rw [List.length_map]
        have := List.length_filter_le (fun o : Int => decide (2 < o)) (List.take i [(n.natAbs : Int), ((n - 1).natAbs : Int)])
        have := List.length_take_le' i [(n.natAbs : Int), ((n - 1).natAbs : Int)]
        simp only [List.length_cons, List.length_nil] at this
        omega
      · rw [upd_same, take_at ho, List.filter_append, List.map_append]
        simp only [List.filter_cons, e, List.filter_nil, if_true, List.map_cons, List.map_nil]
    | false =>
      refine iteN (by simpa using e) ⟨p1, ?_⟩
      rw [take_at ho, List.filter_append]
      simp only [List.filter_cons, e, List.filter_nil, if_neg Bool.false_ne_true, List.append_nil]
      exact p2
  · rintro H2 ⟨p1, p2⟩
    rw [List.length_map, List.take_length] at p2
    refine ⟨D, _, rfl, SqL.of p2, fun ns' p pe so hp => ⟨p, _, rfl, .inl ⟨SqL.of upd_same, fun l hl => ?_⟩⟩⟩
    have s2 : Same H (upd H2 p (.lst (ns'.map V.int))) := Same.upd (s1.trans p1) ((s1.trans p1).free hp)
    exact q l ns' _ (Same.upd s2 (s2.free hl)) (s2.free hl) upd_same pe so
def spCom (K : PySem.W.Frag) : Sp := fun vs H Q _ => ∃ (a b : Addr) (L M : List Int), vs = [.ref a, .ref b] ∧ SqT K H a (L.map V.int) ∧ SqT K H b (M.map V.int) ∧ L.length ≤ 2000 ∧ M.length ≤ 50 ∧
  ∀ (p : Addr) (ns : List Int) (H' : Hp), Same H H' → H p = none → H' p = some (.tup (ns.map V.int)) → ns.Perm (comF L M) → ns.Pairwise (· ≤ ·) → Q (.ref p) H'
theorem sc13 : FnScope ["one", "other", "shared", "modulus", "beside", "divisor"] ["one", "other"] (defScope (top 13)) := ⟨rfl, rfl, rfl, by decide +kernel, rfl, by decide +kernel, by decide +kernel⟩
theorem ok_com {f : Addr} {fd : FuncData} (B : Bl mg) (F : Fun K "common_moduli" "common_moduli" (top 13) f fd) : FnOk P w K mg base CX0 1 f fd ["one", "other"] (spCom K) := by
  refine F.ok sc13 (fun vs H Q E h => ?_) (fun cdv A outer s H vs Q E hr h => ⟨_,
    pss_cons (ps_setLc2 (i := 2) (own := [("modulus", 3), ("beside", 4)]) (vs1 := [4]) (wi1 := iTup K (tVar 1)) (g := gName 3) (tt := tYes) (g1 := gName 4) (tt1 := tYes) rfl sc13.nd rfl rfl (sw_true rfl rfl rfl (by decide +kernel)) (pi_tup (pv 0)) (blkOk_by (N := ["one", "other", "shared", "modulus", "beside", "divisor"]) (sc := defScope (top 13)) (by decide +kernel)) (by decide)
      (fun _ _ _ _ _ => pg_name (i := 3) sc13.nd rfl (Or.inl rfl)) (fun _ _ _ _ _ => pts_nil) (fun _ _ _ _ _ => by exact (pi_tup (pv 1))) (fun _ _ _ _ _ => pg_name (i := 4) sc13.nd rfl (Or.inl rfl)) (fun _ _ _ _ _ => pts_nil)
      (fun _ _ _ _ _ => pe_callBfun cr_gcd (by rfl) B.gcd (pa_cons (pv 3) (pa_cons (pv 4) pa_nil))))
    (pss_one (ps_ret (pe_callTy call_tuple_of (by rfl) B.tuple (by decide +kernel) (pa_cons (pe_callB cr_sortedI (by rfl) B.sorted (by decide +kernel) (pa_cons
      (pe_lc (own := [("divisor", 5)]) (g := gName 5) rfl sc13.nd (pi_list (pv 2)) (blkOk_by (N := ["one", "other", "shared", "modulus", "beside", "divisor"]) (sc := defScope (top 13)) (by decide +kernel))
        (fun _ _ _ _ _ => pg_name (i := 5) sc13.nd rfl (Or.inl rfl)) (fun _ _ _ _ _ => pts_one (pt_cmpR op_gt (pv 5) pe_int (nomark _))) (fun _ _ _ _ _ => pv 5)) pa_nil)) pa_nil)))), ?_⟩)
  · obtain ⟨a, b, L, M, rfl, _⟩ := h
    rfl
  obtain ⟨a, b, L, M, rfl, hA, hB, lL, lM, q⟩ := h
  refine ⟨_, rfl, a, rfl, ⟨_, hA⟩, fun D hD => ?_⟩
  refine walk_tup (xs := L.map V.int) (fun i H' => Same H H' ∧ H' D = some (.lst ((((L.take i).flatMap fun m => M.map fun n => (Int.gcd m n : Int))).map V.int))) ⟨Same.new hD, upd_same⟩ (fun i H' _ p => Same.seqT p.1 hA) ?_ ?_
  · rintro i x H2 hx ⟨p1, p2⟩
    obtain ⟨m, hm, rfl⟩ := map_at hx
    have lt : ((L.take i).flatMap fun m => M.map fun n => (Int.gcd m n : Int)).length ≤ 100000 := by
      rw [flat_len]
      have a : (L.take i).length ≤ 2000 := Nat.le_trans (List.length_take_le' i L) lL
      exact Nat.mul_le_mul a lM
    have hi := (List.getElem?_eq_some_iff.mp hm).1
    refine ⟨rfl, _, rfl, b, rfl, ⟨_, Same.seqT p1 hB⟩, ?_⟩
    refine walk_tup (xs := M.map V.int) (fun j H' => Same H H' ∧ H' D = some (.lst ((((L.take i).flatMap fun m => M.map fun n => (Int.gcd m n : Int)) ++ (M.take j).map fun n => (Int.gcd m n : Int)).map V.int))) ⟨p1, by rw [List.take_zero, List.map_nil, List.append_nil]; exact p2⟩ (fun j H' _ p => Same.seqT p.1 hB) ?_ ?_
    · rintro j y H3 hy ⟨p3, p4⟩
      obtain ⟨n, hn, rfl⟩ := map_at hy
      refine ⟨rfl, _, rfl, _, rfl, m, n, rfl, _, p4, len_lt ?_, Same.upd p3 hD, ?_⟩
      · rw [List.length_map, List.length_append, List.length_map]
        have : (M.take j).length ≤ M.length := List.length_take_le' j M
        omega
      · rw [upd_same, take_at hn, List.map_append (l₁ := M.take j), ← List.append_assoc, List.map_append (l₂ := List.map _ [n])]
        rfl
    · rintro H3 ⟨p3, p4⟩
      rw [List.length_map, List.take_length] at p4
      refine ⟨p3, ?_⟩
      rw [p4, take_at hm, List.flatMap_append]
      simp only [List.flatMap_cons, List.flatMap_nil, List.append_nil]
  · rintro H2 ⟨p1, p2⟩
    rw [List.length_map, List.take_length] at p2
    refine ⟨_, rfl, D, rfl, ⟨_, SqL.of p2⟩, fun D2 hD2 => ?_⟩
    have lt : (L.flatMap fun m => M.map fun n => (Int.gcd m n : Int)).length ≤ 100000 := by
      rw [flat_len]
      exact Nat.mul_le_mul lL lM
    refine lc_list (xs := (L.flatMap fun m => M.map fun n => (Int.gcd m n : Int)).map V.int) (fun i H' => Same H2 H' ∧ H' D2 = some (.lst ((((L.flatMap fun m => M.map fun n => (Int.gcd m n : Int)).take i).filter fun o => decide (2 < o)).map V.int))) ⟨Same.new hD2, upd_same⟩ (fun i H' _ p => p.1.seq (SqL.of p2)) ?_ ?_
    · rintro i x H3 hx ⟨p3, p4⟩
      obtain ⟨o, ho, rfl⟩ := map_at hx
      refine ⟨rfl, _, rfl, _, _, rfl, rfl, _, rfl, ?_⟩
      cases e : decide (2 < o) with
      | true =>
        refine iteP (by simpa using e) ⟨_, rfl, _, p4, len_lt ?_, Same.upd p3 hD2, ?_⟩
        · rw [List.length_map]
          have a := List.length_filter_le (fun o : Int => decide (2 < o)) (List.take i (L.flatMap fun m => M.map fun n => (Int.gcd m n : Int)))
          have b := List.length_take_le' i (L.flatMap fun m => M.map fun n => (Int.gcd m n : Int))
          omega
        · rw [upd_same, take_at ho, List.filter_append, List.map_append]
          simp only [List.filter_cons, e, List.filter_nil, if_true, List.map_cons, List.map_nil]
      | false =>
        refine iteN (by simpa using e) ⟨p3, ?_⟩
        rw [take_at ho, List.filter_append]
        simp only [List.filter_cons, e, List.filter_nil, if_neg Bool.false_ne_true, List.append_nil]
        exact p4
    · rintro H3 ⟨p3, p4⟩
      rw [List.length_map, List.take_length] at p4
      refine ⟨D2, _, rfl, SqL.of p4, fun ns' p pe so hp => ⟨p, _, rfl, .inl ⟨SqL.of upd_same, fun l hl => ?_⟩⟩⟩
      have s1 : Same H H3 := p1.trans p3
      have s2 : Same H (upd H3 p (.lst (ns'.map V.int))) := Same.upd s1 (s1.free hp)
      exact q l ns' _ (Same.upd s2 (s2.free hl)) (s2.free hl) upd_same pe so
end
end KV

/-! forcing -/
namespace KM
def pF (q : Int) : Bool := decide (q = 0) || decide (2 < q)
def Frc (ns : List Int) : Prop := ∀ k : Int, 3 ≤ k → ∃ n ∈ ns, 1 < n % k
def frcB (ns : List Int) : Bool := decide ((fnd ns).filter pF = [])
theorem open_dvd {c k : Int} (h : ¬ 1 < c % k) (hk : 3 ≤ k) : k ∣ c ∨ k ∣ c - 1 := by
  have h0 := Int.emod_nonneg c (show k ≠ 0 by omega)
  by_cases z : c % k = 0
  · exact .inl (Int.dvd_of_emod_eq_zero z)
  · have e : c % k = 1 := by omega
    refine .inr ⟨c / k, ?_⟩
    have := Int.mul_ediv_add_emod c k
    omega
theorem fnd_up {k : Int} (ns : List Int) : (∀ n ∈ ns, k ∣ n ∨ k ∣ n - 1) → ∃ q ∈ fnd ns, k ∣ q := by
  induction ns using snoc_ind with
  | h0 => intro _; exact ⟨0, by simp [fnd_nil], Int.dvd_zero k⟩
  | h1 l a ih =>
    intro h
    obtain ⟨o, ho, d⟩ := ih fun n hn => h n (by simp [hn])
    rw [fnd_snoc]
    rcases h a (by simp) with z | z
    · exact ⟨_, mem_stepF.mpr ⟨o, ho, .inl rfl⟩, Int.dvd_coe_gcd z d⟩
    · exact ⟨_, mem_stepF.mpr ⟨o, ho, .inr rfl⟩, Int.dvd_coe_gcd z d⟩
theorem frc_iff (ns : List Int) : Frc ns ↔ (fnd ns).filter pF = [] := by
  constructor
  · intro h
    rw [List.filter_eq_nil_iff]
    intro q hq hp
    have hp2 : q = 0 ∨ 2 < q := by simpa [pF] using hp
    rcases hp2 with rfl | h2
    · have all : ∀ n ∈ ns, pln n := fun n hn => Classical.byContradiction fun y => by
        have := fnd_some ns ⟨n, hn, y⟩ 0 hq
        omega
      obtain ⟨n, hn, z⟩ := h 3 (by omega)
      exact plain_mod (all n hn) (by omega) z
    · obtain ⟨n, hn, z⟩ := h q (by omega)
      exact open_mod (fnd_open ns q hq n hn) (by omega) z
  · intro h k hk
    refine Classical.byContradiction fun y => ?_
    have op : ∀ n ∈ ns, ¬ 1 < n % k := fun n hn z => y ⟨n, hn, z⟩
    obtain ⟨q, hq, d⟩ := fnd_up (k := k) ns fun n hn => open_dvd (op n hn) hk
    have q0 := fnd_nonneg ns q hq
    rw [List.filter_eq_nil_iff] at h
    refine h q hq ?_
    by_cases z : q = 0
    · simp [pF, z]
    · have := Int.le_of_dvd (a := k) (b := q) (by omega) d
      simp [pF]
      omega
theorem frcB_iff {ns : List Int} : frcB ns = true ↔ Frc ns := by
  unfold frcB
  rw [decide_eq_true_eq, frc_iff]
theorem frcB_of {ns ms : List Int} (h : Frc ns ↔ Frc ms) : frcB ns = frcB ms := by
  rw [Bool.eq_iff_iff, frcB_iff, frcB_iff]
  exact h
theorem Frc.mono {ns ms : List Int} (h : Frc ns) (s : ∀ n ∈ ns, n ∈ ms) : Frc ms := fun k hk => by
  obtain ⟨n, hn, z⟩ := h k hk
  exact ⟨n, s n hn, z⟩
theorem lot_frc {ns : List Int} {o : Option (List Int)} (h : LotI ns o) : decide (o = some []) = frcB ns := by
  unfold frcB
  rw [decide_eq_decide, List.filter_eq_nil_iff]
  cases o with
  | none =>
    obtain ⟨f0, _⟩ := fnd_none ns h
    constructor
    · intro e
      cases e
    · intro z
      exact absurd (by simp [pF]) (z 0 f0)
  | some L =>
    obtain ⟨h1, h2, _⟩ := h
    constructor
    · intro e q hq hp
      have := fnd_some ns h1 q hq
      have m := (h2 q).mpr ⟨hq, by simp [pF] at hp; omega⟩
      rw [Option.some.inj e] at m
      simp at m
    · intro z
      cases L with
      | nil => rfl
      | cons q r =>
        obtain ⟨a, b⟩ := (h2 q).mp (by simp)
        exact absurd (by simp [pF, b]) (z q a)
theorem step_filt (n : Int) : ∀ l : List Int, (∀ o ∈ l, 0 ≤ o) → (stepF n (l.filter pF)).filter pF = (stepF n l).filter pF
  | [], _ => rfl
  | o :: r, h => by
    have ih := step_filt n r fun x hx => h x (by simp [hx])
    have o0 := h o (by simp)
    have ec : stepF n (o :: r) = [(Int.gcd n o : Int), (Int.gcd (n - 1) o : Int)] ++ stepF n r := rfl
    by_cases z : pF o = true
    · rw [List.filter_cons_of_pos z]
      have e1 : stepF n (o :: r.filter pF) = [(Int.gcd n o : Int), (Int.gcd (n - 1) o : Int)] ++ stepF n (r.filter pF) := rfl
      rw [e1, ec, List.filter_append, List.filter_append, ih]
    · rw [List.filter_cons_of_neg z, ec, List.filter_append, ih]
      have o12 : 0 < o ∧ o ≤ 2 := by
        simp [pF] at z
        omega
      have none : ([(Int.gcd n o : Int), (Int.gcd (n - 1) o : Int)]).filter pF = [] := by
        have a1 := gcd_le_r (n := n) (o := o) o12.1
        have a2 := gcd_le_r (n := n - 1) (o := o) o12.1
        have b1 := gcd_pos_o (n := n) (o := o) o12.1
        have b2 := gcd_pos_o (n := n - 1) (o := o) o12.1
        rw [List.filter_eq_nil_iff]
        intro q hq
        simp at hq
        rcases hq with rfl | rfl
        · simp [pF]
          omega
        · simp [pF]
          omega
      rw [none]
      rfl
/-- the law's own -/
def lfs (ns : List Int) : List Int := (fnd ns).filter pF
theorem lfs_nil : lfs [] = [0] := rfl
theorem lfs_snoc (ns : List Int) (n : Int) : lfs (ns ++ [n]) = (stepF n (lfs ns)).filter pF := by
  unfold lfs
  rw [fnd_snoc, step_filt n _ (fnd_nonneg ns)]
theorem lfs_len (ns : List Int) : (lfs ns).length ≤ 2 ^ ns.length := by
  rw [← fnd_len]
  exact List.length_filter_le _ _
theorem lfs_nonneg (ns : List Int) : ∀ q ∈ lfs ns, 0 ≤ q := fun q hq => fnd_nonneg ns q (List.mem_filter.mp hq).1
/-- the indexes' counts -/
def pick (ns : List Int) (is : List Int) : List Int := is.map fun i => ns.getD i.toNat 0
theorem mem_pick {ns is js : List Int} (h : ∀ i ∈ is, i ∈ js) : ∀ n ∈ pick ns is, n ∈ pick ns js := fun n hn => by
  obtain ⟨i, hi, e⟩ := List.mem_map.mp hn
  exact List.mem_map.mpr ⟨i, h i hi, e⟩
def but (is : List Int) (j : Int) : List Int := is.filter fun i => decide (i ≠ j)
theorem mem_but {is : List Int} {i j : Int} : i ∈ but is j ↔ i ∈ is ∧ i ≠ j := by
  unfold but
  rw [List.mem_filter, decide_eq_true_eq]
theorem but_len (is : List Int) (j : Int) : (but is j).length ≤ is.length := List.length_filter_le _ _
/-- ascending indexes below m -/
structure Idx (m : Nat) (is : List Int) : Prop where
  lt : ∀ i ∈ is, 0 ≤ i ∧ i < m
  asc : is.Pairwise (· < ·)
theorem Idx.but {m : Nat} {is : List Int} (h : Idx m is) (j : Int) : Idx m (but is j) :=
  ⟨fun i hi => h.lt i (mem_but.mp hi).1, h.asc.filter _⟩
/-- some least ones -/
structure Least (ns is : List Int) : Prop where
  idx : Idx ns.length is
  frc : Frc (pick ns is)
  min : ∀ j ∈ is, ¬ Frc (pick ns (but is j))
def idxB (m : Nat) (is : List Int) : Bool := decide (∀ i ∈ is, 0 ≤ i ∧ i < m) && decide (is.Pairwise (· < ·))
def leastB (ns is : List Int) : Bool := idxB ns.length is && frcB (pick ns is) && decide (∀ j ∈ is, frcB (pick ns (but is j)) = false)
theorem leastB_of {ns is : List Int} (h : Least ns is) : leastB ns is = true := by
  unfold leastB idxB
  simp only [Bool.and_eq_true, decide_eq_true_eq]
  refine ⟨⟨⟨h.idx.lt, h.idx.asc⟩, frcB_iff.mpr h.frc⟩, fun j hj => ?_⟩
  cases e : frcB (pick ns (but is j)) with
  | false => rfl
  | true => exact absurd (frcB_iff.mp e) (h.min j hj)
/-- behind the indexes below i -/
structure LF (ns is : List Int) (i : Nat) : Prop where
  idx : Idx ns.length is
  frc : Frc (pick ns is)
  min : ∀ j ∈ is, j < i → ¬ Frc (pick ns (but is j))
def upto (m : Nat) : List Int := (List.range m).map fun (i : Nat) => (i : Int)
theorem upto_idx (m : Nat) : Idx m (upto m) := by
  refine ⟨fun i hi => ?_, ?_⟩
  · obtain ⟨k, hk, rfl⟩ := List.mem_map.mp hi
    have := List.mem_range.mp hk
    omega
  · unfold upto
    rw [List.pairwise_map]
    refine List.Pairwise.imp ?_ (List.pairwise_lt_range (n := m))
    intro a b h
    omega
theorem pick_upto (ns : List Int) : pick ns (upto ns.length) = ns := by
  refine List.ext_getElem? fun i => ?_
  unfold pick upto
  rw [List.map_map, List.getElem?_map]
  by_cases h : i < ns.length
  · rw [List.getElem?_range h]
    show some (ns.getD ((i : Int).toNat) 0) = ns[i]?
    rw [Int.toNat_natCast, List.getD_eq_getElem?_getD, List.getElem?_eq_getElem h]
    rfl
  · rw [List.getElem?_eq_none (by simpa using h), List.getElem?_eq_none (by simpa using h)]
    rfl
theorem LF.start {ns : List Int} (h : Frc ns) : LF ns (upto ns.length) 0 :=
  ⟨upto_idx _, by rw [pick_upto]; exact h, fun j hj z => by have := ((upto_idx ns.length).lt j hj).1; omega⟩
theorem LF.out {ns is : List Int} {i : Nat} (h : LF ns is i) (f : Frc (pick ns (but is i))) : LF ns (but is i) (i + 1) := by
  refine ⟨h.idx.but _, f, fun j hj z => ?_⟩
  obtain ⟨a, b⟩ := mem_but.mp hj
  refine fun g => h.min j a (by omega) (g.mono (mem_pick fun x hx => ?_))
  obtain ⟨x1, x2⟩ := mem_but.mp hx
  exact mem_but.mpr ⟨(mem_but.mp x1).1, x2⟩
theorem LF.stay {ns is : List Int} {i : Nat} (h : LF ns is i) (f : ¬ Frc (pick ns (but is i))) : LF ns is (i + 1) := by
  refine ⟨h.idx, h.frc, fun j hj z => ?_⟩
  by_cases e : j = i
  · rw [e]
    exact f
  · exact h.min j hj (by omega)
theorem LF.done {ns is : List Int} (h : LF ns is ns.length) : Least ns is := ⟨h.idx, h.frc, fun j hj => h.min j hj (h.idx.lt j hj).2⟩
/-! three neighbours, a single one -/
theorem frc_three (n : Int) : Frc [n, n + 1, n - 1] := fun k hk => by
  have h0 := Int.emod_nonneg n (show k ≠ 0 by omega)
  by_cases z : 1 < n % k
  · exact ⟨n, by simp, z⟩
  by_cases e : n % k = 0
  · refine ⟨n - 1, by simp, ?_⟩
    have e2 : n - 1 = (k - 1) + k * (n / k - 1) := by
      have := Int.mul_ediv_add_emod n k
      rw [Int.mul_sub]
      omega
    rw [e2, Int.add_mul_emod_self_left, Int.emod_eq_of_lt (by omega) (by omega)]
    omega
  · refine ⟨n + 1, by simp, ?_⟩
    have e2 : n + 1 = 2 + k * (n / k) := by
      have := Int.mul_ediv_add_emod n k
      omega
    rw [e2, Int.add_mul_emod_self_left, Int.emod_eq_of_lt (by omega) (by omega)]
    omega
theorem frc_one (n : Int) : Frc [n] ↔ n = 2 ∨ n = -1 := by
  constructor
  · intro h
    have sing : ∀ k : Int, 3 ≤ k → 1 < n % k := fun k hk => by
      obtain ⟨m, hm, z⟩ := h k hk
      have : m = n := by simpa using hm
      rw [this] at z
      exact z
    by_cases big : 3 ≤ (n.natAbs : Int)
    · have := sing _ big
      rw [Int.emod_eq_zero_of_dvd (Int.natAbs_dvd.mpr (Int.dvd_refl n))] at this
      omega
    · have h3 := sing 3 (by omega)
      omega
  · rintro (rfl | rfl) k hk
    · exact ⟨2, by simp, by rw [Int.emod_eq_of_lt (by omega) (by omega)]; omega⟩
    · refine ⟨-1, by simp, ?_⟩
      have e2 : (-1 : Int) = (k - 1) + k * (-1) := by omega
      rw [e2, Int.add_mul_emod_self_left, Int.emod_eq_of_lt (by omega) (by omega)]
      omega
/-! by primes -/
def noDiv (q : Int) : Prop := ∀ d : Int, 2 ≤ d → d < q → q % d ≠ 0
theorem prime_b : ((List.range 32).all fun k => !decide (3 ≤ k) || (List.range 32).any fun q => decide (k % q = 0) && decide (3 ≤ q) && (decide (q = 4) || (decide (q ≤ k) && (List.range 32).all fun d => !decide (2 ≤ d) || !decide (d < q) || !decide (q % d = 0)))) = true := by decide +kernel
theorem prime_in (k : Nat) (hk : k < 32) (h3 : 3 ≤ k) : ∃ q ∈ List.range 32, k % q = 0 ∧ 3 ≤ q ∧ (q = 4 ∨ (q ≤ k ∧ ∀ d : Nat, d < 32 → 2 ≤ d → d < q → q % d ≠ 0)) := by
  have h := List.all_eq_true.mp prime_b k (List.mem_range.mpr hk)
  rw [Bool.or_eq_true] at h
  rcases h with h | h
  · rw [decide_eq_true h3] at h
    cases h
  · obtain ⟨q, hq, h⟩ := List.any_eq_true.mp h
    simp only [Bool.and_eq_true, Bool.or_eq_true, decide_eq_true_eq] at h
    obtain ⟨⟨h1, h2⟩, h4⟩ := h
    refine ⟨q, hq, h1, h2, h4.imp id fun z => ⟨z.1, fun d d32 d2 dq e => ?_⟩⟩
    have := List.all_eq_true.mp z.2 d (List.mem_range.mpr d32)
    rw [decide_eq_true d2, decide_eq_true dq, decide_eq_true e] at this
    cases this
theorem prime_int {k : Int} (h3 : 3 ≤ k) (h : k ≤ 31) : ∃ q : Int, q ∣ k ∧ (q = 4 ∨ (3 ≤ q ∧ q ≤ k ∧ noDiv q)) := by
  obtain ⟨q, q32, e, q3, r⟩ := prime_in k.toNat (by omega) (by omega)
  have q32 := List.mem_range.mp q32
  refine ⟨q, ?_, ?_⟩
  · have : (k.toNat : Int) = k := by omega
    rw [← this]
    exact Int.natCast_dvd_natCast.mpr (Nat.dvd_of_mod_eq_zero e)
  · rcases r with rfl | ⟨qk, nd⟩
    · exact .inl rfl
    · refine .inr ⟨by omega, by omega, fun d d2 dq z => nd d.toNat (by omega) (by omega) (by omega) ?_⟩
      have : ((q % d.toNat : Nat) : Int) = (q : Int) % (d.toNat : Int) := by simp
      have e2 : (d.toNat : Int) = d := by omega
      rw [e2, z] at this
      omega
theorem by_primes {ns ps : List Int} {most : Int} (hb : ∀ n ∈ ns, (n.natAbs : Int) + 1 ≤ most) (hm : most ≤ 31) (hp : ∀ q, q ∈ ps ↔ 3 ≤ q ∧ q ≤ most ∧ noDiv q) :
    Frc ns ↔ (∀ q ∈ (4 : Int) :: ps, ∃ n ∈ ns, 1 < n % q) ∧ ∃ n ∈ ns, ¬ pln n := by
  constructor
  · intro h
    refine ⟨fun q hq => ?_, ?_⟩
    · rcases List.mem_cons.mp hq with rfl | hq
      · exact h 4 (by omega)
      · exact h q ((hp q).mp hq).1
    · obtain ⟨n, hn, z⟩ := h 3 (by omega)
      exact ⟨n, hn, fun p => plain_mod p (by omega) z⟩
  · rintro ⟨h1, m, hm2, np⟩ k hk
    refine Classical.byContradiction fun y => ?_
    have op : ∀ n ∈ ns, k ∣ n ∨ k ∣ n - 1 := fun n hn => open_dvd (fun z => y ⟨n, hn, z⟩) hk
    have km : k ≤ most := by
      have b := hb m hm2
      unfold pln at np
      rcases op m hm2 with d | d
      · have := Int.le_of_dvd (a := k) (b := m.natAbs) (by omega) (Int.dvd_natAbs.mpr d)
        omega
      · have := Int.le_of_dvd (a := k) (b := (m - 1).natAbs) (by omega) (Int.dvd_natAbs.mpr d)
        omega
    obtain ⟨q, d, r⟩ := prime_int hk (by omega)
    have q3 : 3 ≤ q := by
      rcases r with rfl | r
      · omega
      · exact r.1
    have hq : q ∈ (4 : Int) :: ps := by
      rcases r with rfl | ⟨a, b, c⟩
      · simp
      · exact List.mem_cons_of_mem _ ((hp q).mpr ⟨a, by omega, c⟩)
    obtain ⟨n, hn, z⟩ := h1 q hq
    refine open_mod (k := q) ?_ q3 z
    exact (op n hn).imp (Int.dvd_trans d) (Int.dvd_trans d)
end KM

/-! the lot of counts: ascending, without common divisors -/
namespace KM
theorem comF_co {L M : List Int} (hL : L.Pairwise (fun a b => Int.gcd a b = 1)) (hM : M.Pairwise (fun a b => Int.gcd a b = 1)) : (comF L M).Pairwise (fun a b => Int.gcd a b = 1) := by
  unfold comF
  refine List.Pairwise.filter _ ?_
  induction L with
  | nil => exact .nil
  | cons m r ih =>
    obtain ⟨h1, h2⟩ := List.pairwise_cons.mp hL
    rw [List.flatMap_cons, List.pairwise_append]
    refine ⟨?_, ih h2, fun a ha b hb => ?_⟩
    · rw [List.pairwise_map]
      exact hM.imp fun {a b} e => co_of (Int.gcd_dvd_right ..) (Int.gcd_dvd_right ..) e
    · obtain ⟨n, _, rfl⟩ := List.mem_map.mp ha
      obtain ⟨m', hm', hb⟩ := List.mem_flatMap.mp hb
      obtain ⟨n', _, rfl⟩ := List.mem_map.mp hb
      exact co_of (Int.gcd_dvd_left ..) (Int.gcd_dvd_left ..) (h1 m' hm')
theorem ones_co (n : Int) : (ones n).Pairwise (fun a b => Int.gcd a b = 1) := by
  unfold ones
  refine List.Pairwise.filter _ ?_
  refine List.pairwise_cons.mpr ⟨fun b hb => ?_, List.pairwise_singleton ..⟩
  have : b = ((n - 1).natAbs : Int) := by simpa using hb
  rw [this]
  exact co_next n
theorem perm_co {L M : List Int} (p : L.Perm M) (h : M.Pairwise (fun a b => Int.gcd a b = 1)) : L.Pairwise (fun a b => Int.gcd a b = 1) := (p.pairwise_iff fun {a b} e => by rw [Int.gcd_comm]; exact e).mpr h
def LotJ (ns : List Int) (o : Option (List Int)) : Prop := LotI ns o ∧ match o with
  | none => True
  | some L => L.Pairwise (fun a b => Int.gcd a b = 1) ∧ L.Pairwise (· ≤ ·)
theorem LotJ.nil : LotJ [] none := ⟨LotI.nil, trivial⟩
theorem LotJ.pln {ns : List Int} {o : Option (List Int)} {n : Int} (h : LotJ ns o) (hp : KM.pln n) : LotJ (ns ++ [n]) o := ⟨h.1.pln hp, h.2⟩
theorem LotJ.first {ns : List Int} {n : Int} {L : List Int} (h : LotJ ns none) (hp : ¬ KM.pln n) (pe : L.Perm (ones n)) (so : L.Pairwise (· ≤ ·)) : LotJ (ns ++ [n]) (some L) := ⟨h.1.first hp pe, perm_co pe (ones_co n), so⟩
theorem LotJ.next {ns : List Int} {n : Int} {L M R : List Int} (h : LotJ ns (some L)) (hp : ¬ KM.pln n) (pm : M.Perm (ones n)) (pr : R.Perm (comF L M)) (so : R.Pairwise (· ≤ ·)) : LotJ (ns ++ [n]) (some R) :=
  ⟨h.1.next hp pm pr, perm_co pr (comF_co h.2.1 (perm_co pm (ones_co n))), so⟩
/-! two sets without common divisors, the same open divisors -/
theorem co_self {a b : Int} {l : List Int} (h : l.Pairwise (fun a b => Int.gcd a b = 1)) (ha : a ∈ l) (hb : b ∈ l) (d : a ∣ b) (g : 2 < a) : a = b := by
  refine Classical.byContradiction fun ne => ?_
  obtain ⟨i, hi, rfl⟩ := List.mem_iff_getElem.mp ha
  obtain ⟨j, hj, rfl⟩ := List.mem_iff_getElem.mp hb
  have key : Int.gcd l[i] l[j] = 1 := by
    rcases Nat.lt_trichotomy i j with z | z | z
    · exact List.pairwise_iff_getElem.mp h i j hi hj z
    · subst z
      exact absurd rfl ne
    · rw [Int.gcd_comm]
      exact List.pairwise_iff_getElem.mp h j i hj hi z
  have : (l[i] : Int) ∣ (Int.gcd l[i] l[j] : Int) := Int.dvd_coe_gcd (Int.dvd_refl _) d
  rw [key] at this
  have := Int.le_of_dvd (by decide) this
  omega
theorem lot_unique {A B : List Int} (hA : A.Pairwise (fun a b => Int.gcd a b = 1)) (hB : B.Pairwise (fun a b => Int.gcd a b = 1)) (gA : ∀ a ∈ A, 2 < a) (gB : ∀ b ∈ B, 2 < b) (h : ∀ k : Int, 3 ≤ k → ((∃ a ∈ A, k ∣ a) ↔ ∃ b ∈ B, k ∣ b)) (x : Int) : x ∈ A ↔ x ∈ B := by
  have one : ∀ {A B : List Int}, A.Pairwise (fun a b => Int.gcd a b = 1) → (∀ a ∈ A, 2 < a) → (∀ b ∈ B, 2 < b) → (∀ k : Int, 3 ≤ k → ((∃ a ∈ A, k ∣ a) ↔ ∃ b ∈ B, k ∣ b)) → ∀ x ∈ A, x ∈ B := by
    intro A B hA gA gB h x hx
    have x2 := gA x hx
    obtain ⟨b, hb, d1⟩ := (h x (by omega)).mp ⟨x, hx, Int.dvd_refl x⟩
    have b2 := gB b hb
    obtain ⟨a, ha, d2⟩ := (h b (by omega)).mpr ⟨b, hb, Int.dvd_refl b⟩
    have e := co_self hA hx ha (Int.dvd_trans d1 d2) x2
    rw [← e] at d2
    have l1 := Int.le_of_dvd (by omega) d1
    have l2 := Int.le_of_dvd (by omega) d2
    have : x = b := by omega
    rw [this]
    exact hb
  exact ⟨one hA gA gB h x, one hB gB gA (fun k hk => (h k hk).symm) x⟩
theorem co_nodup {A : List Int} (hA : A.Pairwise (fun a b => Int.gcd a b = 1)) (gA : ∀ a ∈ A, 2 < a) : A.Nodup := by
  refine List.Pairwise.imp_of_mem ?_ hA
  intro a b ha hb e z
  subst z
  have := gA a ha
  have e2 : (Int.gcd a a : Int) = a := by
    rw [Int.gcd_self]
    omega
  omega
theorem sorted_eq : ∀ {A B : List Int}, A.Perm B → A.Pairwise (· ≤ ·) → B.Pairwise (· ≤ ·) → A = B := by
  intro A B p ha hb
  exact p.eq_of_pairwise (fun a b _ _ h1 h2 => by omega) ha hb
theorem lot_eq {A B : List Int} (hA : A.Pairwise (fun a b => Int.gcd a b = 1)) (hB : B.Pairwise (fun a b => Int.gcd a b = 1)) (gA : ∀ a ∈ A, 2 < a) (gB : ∀ b ∈ B, 2 < b) (sA : A.Pairwise (· ≤ ·)) (sB : B.Pairwise (· ≤ ·)) (h : ∀ k : Int, 3 ≤ k → ((∃ a ∈ A, k ∣ a) ↔ ∃ b ∈ B, k ∣ b)) : A = B :=
  sorted_eq ((List.perm_ext_iff_of_nodup (co_nodup hA gA) (co_nodup hB gB)).mpr (lot_unique hA hB gA gB h)) sA sB
/-- an integer by which all counts leave 0 or 1 -/
def Op (ns : List Int) (k : Int) : Prop := ∀ n ∈ ns, ¬ 1 < n % k
theorem op_app {a b : List Int} {k : Int} : Op (a ++ b) k ↔ Op a k ∧ Op b k := by
  unfold Op
  simp only [List.mem_append]
  constructor
  · exact fun h => ⟨fun n hn => h n (.inl hn), fun n hn => h n (.inr hn)⟩
  · rintro ⟨h1, h2⟩ n (hn | hn)
    · exact h1 n hn
    · exact h2 n hn
theorem op_perm {a b : List Int} {k : Int} (p : a.Perm b) : Op a k ↔ Op b k := ⟨fun h n hn => h n (p.mem_iff.mpr hn), fun h n hn => h n (p.mem_iff.mp hn)⟩
theorem fnd_ops {ns : List Int} (np : ∃ n ∈ ns, ¬ pln n) {k : Int} (hk : 3 ≤ k) : Op ns k ↔ ∃ q ∈ (fnd ns).filter pF, k ∣ q := by
  constructor
  · intro h
    obtain ⟨q, hq, d⟩ := fnd_up (k := k) ns fun n hn => open_dvd (h n hn) hk
    have q0 := fnd_some ns np q hq
    have := Int.le_of_dvd q0 d
    exact ⟨q, List.mem_filter.mpr ⟨hq, by simp [pF]; omega⟩, d⟩
  · rintro ⟨q, hq, d⟩ n hn
    exact open_mod ((fnd_open ns q (List.mem_filter.mp hq).1 n hn).imp (Int.dvd_trans d) (Int.dvd_trans d)) hk
theorem lotJ_ops {ns L : List Int} (h : LotJ ns (some L)) {k : Int} (hk : 3 ≤ k) : Op ns k ↔ ∃ q ∈ L, k ∣ q := by
  obtain ⟨⟨np, h2, _⟩, _⟩ := h
  rw [fnd_ops np hk]
  constructor
  · rintro ⟨q, hq, d⟩
    obtain ⟨a, b⟩ := List.mem_filter.mp hq
    have := fnd_some ns np q a
    exact ⟨q, (h2 q).mpr ⟨a, by simp [pF] at b; omega⟩, d⟩
  · rintro ⟨q, hq, d⟩
    obtain ⟨a, b⟩ := (h2 q).mp hq
    exact ⟨q, List.mem_filter.mpr ⟨a, by simp [pF, b]⟩, d⟩
theorem lotJ_gt {ns L : List Int} (h : LotJ ns (some L)) : ∀ q ∈ L, 2 < q := fun q hq => ((h.1.2.1 q).mp hq).2
/-- counts that tell a lot -/
def Tells (cs L : List Int) : Prop := (∃ n ∈ cs, ¬ pln n) ∧ ∀ k : Int, 3 ≤ k → (Op cs k ↔ ∃ m ∈ L, k ∣ m)
theorem tells_lot {cs L M : List Int} (t : Tells cs L) (hL : Lot L) (h : LotJ cs (some M)) : M = L :=
  lot_eq h.2.1 hL.co (lotJ_gt h) (fun m hm => by have := hL.ge m hm; omega) h.2.2 (hL.lt.imp fun z => Int.le_of_lt z) fun k hk => by rw [← lotJ_ops h hk]; exact t.2 k hk
theorem tells_some {cs L : List Int} {o : Option (List Int)} (t : Tells cs L) (hL : Lot L) (h : LotJ cs o) : o = some L := by
  cases o with
  | none =>
    obtain ⟨n, hn, z⟩ := t.1
    exact absurd (h.1 n hn) z
  | some M => rw [tells_lot t hL h]
theorem tells_parts {cs L s : List Int} (t : Tells cs L) (hL : Lot L) (pe : s.Perm ((fnd cs).filter pF)) (so : s.Pairwise (· ≤ ·)) : s = L := by
  have g : ∀ q ∈ s, 2 < q := fun q hq => by
    obtain ⟨a, b⟩ := List.mem_filter.mp (pe.mem_iff.mp hq)
    have := fnd_some cs t.1 q a
    simp [pF] at b
    omega
  refine lot_eq (perm_co pe ((fnd_co cs).sublist List.filter_sublist)) hL.co g (fun m hm => by have := hL.ge m hm; omega) so (hL.lt.imp fun z => Int.le_of_lt z) fun k hk => ?_
  rw [← t.2 k hk, fnd_ops t.1 hk]
  constructor
  · rintro ⟨q, hq, d⟩; exact ⟨q, pe.mem_iff.mp hq, d⟩
  · rintro ⟨q, hq, d⟩; exact ⟨q, pe.mem_iff.mpr hq, d⟩
theorem tells_common {cs ds A B C : List Int} {o : Option (List Int)} (t : Tells cs A) (u : Tells ds B) (hA : Lot A) (hB : Lot B) (pC : C.Perm (comF A B)) (sC : C.Pairwise (· ≤ ·)) (h : LotJ (cs ++ ds) o) : o = some C := by
  cases o with
  | none =>
    obtain ⟨n, hn, z⟩ := t.1
    exact absurd (h.1 n (List.mem_append_left _ hn)) z
  | some M =>
    refine congrArg some (lot_eq h.2.1 (perm_co pC (comF_co hA.co hB.co)) (lotJ_gt h) (fun q hq => (mem_comF.mp (pC.mem_iff.mp hq)).2) h.2.2 sC fun k hk => ?_)
    rw [← lotJ_ops h hk, op_app, t.2 k hk, u.2 k hk]
    constructor
    · rintro ⟨⟨a, ha, d1⟩, b, hb, d2⟩
      have d := Int.dvd_coe_gcd d1 d2
      have a3 := hA.ge a ha
      have pos : 0 < Int.gcd a b := Int.gcd_pos_of_ne_zero_left _ (by omega)
      have := Int.le_of_dvd (by omega) d
      exact ⟨_, pC.mem_iff.mpr (mem_comF.mpr ⟨⟨a, ha, b, hb, rfl⟩, by omega⟩), d⟩
    · rintro ⟨q, hq, d⟩
      obtain ⟨⟨a, ha, b, hb, rfl⟩, _⟩ := mem_comF.mp (pC.mem_iff.mp hq)
      exact ⟨⟨a, ha, Int.dvd_trans d (Int.gcd_dvd_left ..)⟩, b, hb, Int.dvd_trans d (Int.gcd_dvd_right ..)⟩
/-! coarser -/
def coarser (A B : List Int) : Prop := ∀ a ∈ A, ∃ b ∈ B, a ∣ b
theorem coarse_op {ds A B : List Int} (u : Tells ds B) (hA : Lot A) : coarser A B ↔ ∀ a ∈ A, Op ds a := by
  unfold coarser
  constructor
  · exact fun h a ha => (u.2 a (hA.ge a ha)).mpr (h a ha)
  · exact fun h a ha => (u.2 a (hA.ge a ha)).mp (h a ha)
/-! the counts told -/
theorem dvd_co {k a b : Int} (h : k ∣ a * b) (g : Int.gcd k b = 1) : k ∣ a := by
  have e1 := Int.natAbs_dvd_natAbs.mpr h
  rw [Int.natAbs_mul] at e1
  exact Int.natAbs_dvd_natAbs.mp (Nat.Coprime.dvd_of_dvd_mul_right (show Nat.Coprime k.natAbs b.natAbs from g) e1)
theorem unit_of_both {a c : Int} (h1 : a ∣ c) (h2 : a ∣ c - 1) (ha : 0 < a) : a = 1 := by
  have d : a ∣ c - (c - 1) := Int.dvd_sub h1 h2
  have e : c - (c - 1) = 1 := by omega
  rw [e] at d
  have := Int.le_of_dvd (by decide) d
  omega
theorem tells_mk {L cs : List Int} (hL : Lot L) (w1 : prd L ∈ cs) (w2 : prd L + 1 ∈ cs)
    (all : ∀ c ∈ cs, ∀ m ∈ L, m ∣ c ∨ m ∣ c - 1) (sep : ∀ i j (hi : i < L.length) (hj : j < L.length), i ≠ j → ∃ c ∈ cs, (L[i] ∣ c - 1 ∧ L[j] ∣ c) ∨ (L[i] ∣ c ∧ L[j] ∣ c - 1)) : Tells cs L := by
  have pp := prd_pos hL.ge
  refine ⟨⟨_, w2, fun z => by unfold pln at z; omega⟩, fun k hk => ⟨fun h => ?_, ?_⟩⟩
  · have o : ∀ c ∈ cs, k ∣ c ∨ k ∣ c - 1 := fun c hc => open_dvd (h c hc) hk
    have kW : k ∣ prd L := by
      rcases o _ w1 with z | z
      · exact z
      · rcases o _ w2 with y | y
        · have d : k ∣ (prd L + 1) - (prd L - 1) := Int.dvd_sub y z
          have e : (prd L + 1) - (prd L - 1) = 2 := by omega
          rw [e] at d
          have := Int.le_of_dvd (by decide) d
          omega
        · have e : prd L + 1 - 1 = prd L := by omega
          rw [e] at y
          exact y
    have ex : ∃ i, ∃ hi : i < L.length, Int.gcd k L[i] ≠ 1 := by
      refine Classical.byContradiction fun y => ?_
      have : Int.gcd k (prd L) = 1 := gcd_prd fun n hn => by
        obtain ⟨i, hi, rfl⟩ := List.mem_iff_getElem.mp hn
        exact Classical.byContradiction fun z => y ⟨i, hi, z⟩
      have d : (k : Int) ∣ (Int.gcd k (prd L) : Int) := Int.dvd_coe_gcd (Int.dvd_refl k) kW
      rw [this] at d
      have := Int.le_of_dvd (by decide) d
      omega
    obtain ⟨i, hi, gi⟩ := ex
    refine ⟨L[i], List.getElem_mem hi, ?_⟩
    have others : ∀ j (hj : j < L.length), j ≠ i → Int.gcd k L[j] = 1 := fun j hj ne => by
      refine Classical.byContradiction fun gj => ?_
      obtain ⟨c, hc, r⟩ := sep i j hi hj (Ne.symm ne)
      have pi : 0 < (Int.gcd k L[i] : Int) := by have := Int.gcd_pos_of_ne_zero_left (a := k) L[i] (by omega); omega
      have pj : 0 < (Int.gcd k L[j] : Int) := by have := Int.gcd_pos_of_ne_zero_left (a := k) L[j] (by omega); omega
      have di : (Int.gcd k L[i] : Int) ∣ k := Int.gcd_dvd_left ..
      have dj : (Int.gcd k L[j] : Int) ∣ k := Int.gcd_dvd_left ..
      have mi : (Int.gcd k L[i] : Int) ∣ L[i] := Int.gcd_dvd_right ..
      have mj : (Int.gcd k L[j] : Int) ∣ L[j] := Int.gcd_dvd_right ..
      rcases o c hc with y | y
      · rcases r with ⟨r1, r2⟩ | ⟨r1, r2⟩
        · have := unit_of_both (Int.dvd_trans di y) (Int.dvd_trans mi r1) pi
          omega
        · have := unit_of_both (Int.dvd_trans dj y) (Int.dvd_trans mj r2) pj
          omega
      · rcases r with ⟨r1, r2⟩ | ⟨r1, r2⟩
        · have := unit_of_both (Int.dvd_trans mj r2) (Int.dvd_trans dj y) pj
          omega
        · have := unit_of_both (Int.dvd_trans mi r1) (Int.dvd_trans di y) pi
          omega
    have es : L = L.take i ++ (L[i] :: L.drop (i + 1)) := by
      have : L[i]? = some L[i] := List.getElem?_eq_getElem hi
      rw [← drop_at this, List.take_append_drop]
    have g1 : Int.gcd k (prd (L.take i)) = 1 := gcd_prd fun n hn => by
      obtain ⟨j, hj, rfl⟩ := List.mem_iff_getElem.mp hn
      rw [List.length_take] at hj
      rw [List.getElem_take]
      exact others j (by omega) (by omega)
    have g2 : Int.gcd k (prd (L.drop (i + 1))) = 1 := gcd_prd fun n hn => by
      obtain ⟨j, hj, rfl⟩ := List.mem_iff_getElem.mp hn
      rw [List.length_drop] at hj
      rw [List.getElem_drop]
      exact others _ (by omega) (by omega)
    have e2 : prd L = L[i] * (prd (L.take i) * prd (L.drop (i + 1))) := by
      have e2 : prd L = prd (L.take i) * (L[i] * prd (L.drop (i + 1))) := by
        conv => lhs; rw [es]
        rw [prd_app]
        rfl
      rw [e2, ← Int.mul_assoc, Int.mul_comm _ L[i], Int.mul_assoc]
    rw [e2] at kW
    exact dvd_co kW (gcd_mul_one g1 g2)
  · rintro ⟨m, hm, d⟩ c hc
    exact open_mod ((all c hc m hm).imp (Int.dvd_trans d) (Int.dvd_trans d)) hk
end KM

/-! the program: the lot of counts, doubts -/
namespace KV
open PySem PySem.Spec PyProof.Rows L2 KM
/-- None, or a tuple of moduli -/
def LotVal (H : Hp) (u : V) : Option (List Int) → Prop
  | none => u = .non
  | some L => ∃ p : Addr, u = .ref p ∧ H p = some (.tup (L.map V.int))
theorem LotVal.same {H H' : Hp} {u : V} {o : Option (List Int)} (s : Same H H') (h : LotVal H u o) : LotVal H' u o := by
  cases o with
  | none => exact h
  | some L =>
    obtain ⟨p, e, h⟩ := h
    exact ⟨p, e, s _ _ h⟩
/-- the ints of such a value -/
theorem valA_ints {K : PySem.W.Frag} {H : Hp} {v : V} {ns : List Int} (h : ValA K H v (some (ns.map V.int))) : ∃ a : Addr, v = .ref a ∧ SqA K H a (ns.map V.int) ∧ ns.length ≤ 8 ∧ ∀ n ∈ ns, sm 120 n := by
  obtain ⟨a, e, h1, _, h2, h3⟩ := h
  refine ⟨a, e, h1, by rw [List.length_map] at h3; exact h3, fun n hn => ?_⟩
  rcases h2 _ (List.mem_map.mpr ⟨n, hn, rfl⟩) with ⟨i, e, z⟩ | ⟨z, _⟩
  · rw [V.int.inj e]
    exact z
  · exact absurd rfl (z n)
def isDV (ns : List Int) (n : Int) : V → Bool
  | .int k => decide (isD ns n k)
  | _ => false
section
variable {P : Program} {w : World} {K : PySem.W.Frag} {mg : Str → Option Value} {base : Heap} {C fI : Addr}
def spLotOf (K : PySem.W.Frag) (C : Addr) : Sp := fun vs H Q E => ∃ (v : V) (ms : Option (List V)), vs = [v] ∧ ValA K H v ms ∧
  ((isIs ms = false ∧ BadA C 0 H E) ∨ ∃ ns : List Int, ms = some (ns.map V.int) ∧ ∀ (u : V) (o : Option (List Int)) (H' : Hp), Same H H' → LotVal H' u o → LotJ ns o → Q u H')
theorem sc15 : FnScope ["counts", "lot", "count", "alone"] ["counts"] (defScope (top 15)) := ⟨rfl, rfl, rfl, by decide +kernel, rfl, by decide +kernel, by decide +kernel⟩
theorem ok_lotOf {f : Addr} {fd : FuncData} (CK : Cal P w K mg base (L2.CX P w) 2 "check_integers" ["value", "at"] (spChk K C)) (CP : Cal P w K mg base CX0 1 "_is_plain" ["count"] spPlain) (CO : Cal P w K mg base CX0 1 "_lot_of_one" ["count"] spOne)
    (CC : Cal P w K mg base CX0 1 "common_moduli" ["one", "other"] (spCom K)) (F : Fun K "lot_of" "lot_of" (top 15) f fd) : FnOk P w K mg base (L2.CX P w) 3 f fd ["counts"] (spLotOf K C) := by
  refine F.okX sc15 (fun vs H Q E h => ?_) (fun cdv A outer s H vs Q E hr h => ⟨_,
    pss_cons (ps_expr (by exact (pe_calX CK hr (by decide) (takes_of rfl rfl rfl rfl) (fun _ _ _ _ z => z) (pa_cons (pv 0) (pa_cons pe_int pa_nil)))))
    (pss_cons (ps_set (i := 1) sc15.nd rfl (.inl rfl) pe_non)
    (pss_cons (ps_for (passes_of rfl) rfl (pi_sq (pv 0)) (pg_name (i := 2) sc15.nd rfl (.inl rfl))
      (pss_one (ps_if (pt_not (pt_val (by exact (pe_cal CP hr (by decide) (pa_cons (pv 2) pa_nil)))))
        (pss_cons (ps_set (i := 3) sc15.nd rfl (.inl rfl) (by exact (pe_cal CO hr (by decide) (pa_cons (pv 2) pa_nil))))
        (pss_one (ps_set (i := 1) sc15.nd rfl (.inl rfl) (pe_ifExp (pt_cmpR op_isN (pv 1) pe_non (nomark _)) (pv 3) (by exact (pe_cal CC hr (by decide) (pa_cons (pv 1) (pa_cons (pv 3) pa_nil)))))))) pss_nil)))
    (pss_one (ps_ret (pv 1))))), ?_⟩)
  · obtain ⟨v, ms, rfl, _⟩ := h
    rfl
  obtain ⟨v, ms, rfl, hv, h⟩ := h
  refine ⟨_, rfl, v, 0, ms, rfl, hv, fun ht H1 s1 => ?_, fun hf => ?_⟩
  · rcases h with ⟨hf, _⟩ | ⟨ns, rfl, q⟩
    · rw [ht] at hf
      cases hf
    obtain ⟨a, rfl, hS, hl, hb⟩ := valA_ints (hv.same s1)
    dsimp only [gName]
    refine ⟨_, rfl, a, rfl, for_sq hS (fun i σ H' => Same H1 H' ∧ ∃ (u : V) (o : Option (List Int)) (v2 v3 : Option V), σ = [some (.ref a), some u, v2, v3] ∧ LotVal H' u o ∧ LotJ (ns.take i) o) ⟨Same.refl H1, .non, none, none, none, rfl, rfl, LotJ.nil⟩ (fun i σ H' _ p => Ke.of p.1) ?_ ?_⟩
    · rintro i x σ H2 hx ⟨s2, u, o, v2, v3, rfl, hu, hL⟩
      obtain ⟨n, hn, rfl⟩ := map_at hx
      have en : ns.take (i + 1) = ns.take i ++ [n] := take_at hn
      refine ⟨_, rfl, n, rfl, _, rfl, ?_⟩
      by_cases hp : pln n
      · refine iteN (by simp [hp]) ⟨s2, u, o, _, _, rfl, hu, ?_⟩
        rw [en]
        exact hL.pln hp
      · refine iteP (by simp [hp]) ⟨_, rfl, n, rfl, fun p M H3 s3 p0 p1 pm ps => ?_⟩
        dsimp only [gName]
        refine ⟨_, rfl, rfl, _, rfl, ?_⟩
        cases o with
        | none =>
          obtain rfl : u = .non := hu
          refine iteP (by simp) ⟨_, rfl, s2.trans s3, _, some M, _, _, rfl, ⟨p, rfl, p1⟩, ?_⟩
          rw [en]
          exact hL.first hp pm ps
        | some L =>
          obtain ⟨l, rfl, hl3⟩ := hu
          have ll : L.length ≤ 2000 := by
            have h3 := hL.1.2.2
            have : (ns.take i).length ≤ 8 := Nat.le_trans (List.length_take_le' i ns) hl
            have := Nat.pow_le_pow_right (show 0 < 2 by decide) this
            omega
          refine iteN (by simp) ⟨_, rfl, _, rfl, l, p, L, M, rfl, SqT.of (s3 _ _ hl3), SqT.of p1, ll, ?_, fun r R H4 s4 _ r1 pr rs => ?_⟩
          · have := ones_len n
            rw [← pm.length_eq] at this
            omega
          · refine ⟨s2.trans (s3.trans s4), _, some R, _, _, rfl, ⟨r, rfl, r1⟩, ?_⟩
            rw [en]
            exact hL.next hp pm pr rs
    · rintro σ H2 ⟨s2, u, o, v2, v3, rfl, hu, hL⟩
      rw [List.length_map, List.take_length] at hL
      exact ⟨_, rfl, q u o H2 (s1.trans s2) hu hL⟩
  · rcases h with ⟨_, z⟩ | ⟨ns, rfl, q⟩
    · exact z
    · rw [isIs_int] at hf
      cases hf
theorem far_modN {n : Int} {M : Nat} (h : ¬ pln n) (hM : n.natAbs ≤ M) : 1 < n % ((M : Int) + 2) := by
  unfold pln at h
  by_cases z : 0 ≤ n
  · rw [Int.emod_eq_of_lt z (by omega)]
    omega
  · have e : n % ((M : Int) + 2) = (n + ((M : Int) + 2)) % ((M : Int) + 2) := by rw [Int.add_emod_right]
    rw [e, Int.emod_eq_of_lt (by omega) (by omega)]
    omega
def spLeast (K : PySem.W.Frag) : Sp := fun vs H Q _ => ∃ (a : Addr) (ns : List Int) (M : Nat), vs = [.ref a] ∧ SqA K H a (ns.map V.int) ∧ ns.length ≤ 1000 ∧ (∀ n ∈ ns, ¬ pln n ∧ n.natAbs ≤ M) ∧ 1 ≤ M ∧
  ∀ (k : Int) (H' : Hp), Same H H' → 3 ≤ k → k ≤ (M : Int) + 2 → (∀ n ∈ ns, 1 < n % k) → Q (.int k) H'
def spDoubt (K : PySem.W.Frag) (C : Addr) : Sp := fun vs H Q E => ∃ (v : V) (n : Int) (ms : Option (List V)) (j : Nat), vs = [v, .int n] ∧ 1 ≤ j ∧ sm j n ∧ (∀ ns : List Int, ms = some (ns.map V.int) → ∀ c ∈ ns, sm j c) ∧ ValA K H v ms ∧
  ((isIs ms = false ∧ BadA C 0 H E) ∨ ∃ ns : List Int, ms = some (ns.map V.int) ∧ ∀ (u : V) (H' : Hp), Same H H' → ((u = .non ∧ ¬ due ns n) ∨ ∃ k : Int, u = .int k ∧ isD ns n k ∧ sm (j + 1) k ∧ due ns n) → Q u H')
def spFollows (K : PySem.W.Frag) (C : Addr) : Sp := fun vs H Q E => ∃ (v : V) (n : Int) (ms : Option (List V)), vs = [v, .int n] ∧ sm 120 n ∧ ValA K H v ms ∧
  ((isIs ms = false ∧ BadA C 0 H E) ∨ ∃ ns : List Int, ms = some (ns.map V.int) ∧ ∀ (H' : Hp), Same H H' → Q (.bl (decide (¬ due ns n))) H')
end
end KV

/-! the law: counts, what is none, parts, doubts -/
namespace KV
open PySem PySem.Spec PyProof.Rows L2 KM
section
variable {P : Program} {w : World} {K : PySem.W.Frag} {mg : Str → Option Value} {base : Heap}
/-- a list or a tuple of ints -/
def IsSq (H : Hp) (a : Addr) (ns : List Int) : Prop := H a = some (.lst (ns.map V.int)) ∨ H a = some (.tup (ns.map V.int))
def spCounts : Sp := fun vs H Q _ => ∃ (d c : Addr), vs = [.ref d] ∧ Dl H d c ∧ ∀ (a : Addr) (ns : List Int) (H' : Hp), H a = none → IsSq H' a ns → ns.length ≤ 4 → (∀ n ∈ ns, sm 105 n) → Dl H' d c → Kp d c H H' → Q (.ref a) H'
def spNo (K : PySem.W.Frag) : Sp := fun vs H Q _ => ∃ (d c a : Addr) (ns : List Int), vs = [.ref d, .ref a] ∧ Dl H d c ∧ a ≠ d ∧ a ≠ c ∧ IsSq H a ns ∧ ns.length ≤ 4 ∧ (∀ n ∈ ns, sm 105 n) ∧
  ∀ (v : V) (ms : Option (List V)) (H' : Hp), ValA K H' v ms → isIs ms = false → (∀ b, v = .ref b → b ≠ d ∧ b ≠ c) → Dl H' d c → Kp d c H H' → Q v H'
def spLow (K : PySem.W.Frag) : Sp := fun vs H Q _ => ∃ (a : Addr) (qs : List Int), vs = [.ref a] ∧ H a = some (.lst (qs.map V.int)) ∧ qs.length ≤ 500 ∧ (∀ x ∈ qs, (x = 0 ∨ 2 < x) ∧ sm 120 x) ∧ qs.Pairwise (fun a b => Int.gcd a b = 1) ∧
  ∀ (p : Addr) (ns : List Int) (H' : Hp), Same H H' → H p = none → H' p = some (.lst (ns.map V.int)) → FitL ns → Q (.ref p) H'
end
end KV

/-! enumerate(tuple) in a for -/
namespace KV
open PySem PySem.Spec PyProof.Rows L2
open AutoSeq1 (wpAny_loadPart')
/-- what stands behind enumerate(t) -/
def enumHeap (hp : Heap) (a : Addr) : Heap :=
  (hp.push { cls := .type "tuple_iterator", data := .fields #[.ref a, .int 0 0] }).push { cls := .type "enumerate", data := .fields #[.none, .bool false, .ref hp.objs.size, rawInt 0, .none, .none] }
theorem enum_newT (a : Addr) (xs : Array Value) (k : Nat) (dd : Option Addr) (sl : Array (Option Value)) :
    Meets (Builtin.«enumerate.__new__» ⟨[.type "enumerate", .ref a], []⟩) (fun _ R st => st.heap.get? a = some { cls := .type "tuple", dict := dd, data := .seq xs k, slots := sl } ∧
      R (.ok (.ret (.ref (st.heap.push { cls := .type "tuple_iterator", data := .fields #[.ref a, .int 0 0] }).objs.size))) { st with heap := enumHeap st.heap a }) :=
  .of_wp fun P w B R st z => by
    obtain ⟨hp, gn, dr, tk, os⟩ := st; obtain ⟨ho, z⟩ := z
    have hsub := sub_enumerate
    have hT : Heap.IsTuple (Shared.heap ⟨hp, gn, dr, tk, os⟩) a xs := ⟨_, ho, rfl, k, rfl⟩
    wp_walk using wpAny_loadPart' ho
    refine wpAny_stack_any fun stk => wpAny_pure ?_
    split
    · rename_i c _ _ _ _ _
      cases (c == Value.type "enumerate")
      · wp_walk using wpAny_loadPart' ho, wpAny_pyIter_tuple hT
        exact ⟨_, rfl, z⟩
      · wp_walk using wpAny_loadPart' ho, wpAny_pyIter_tuple hT
        exact ⟨_, rfl, z⟩
    · wp_walk using wpAny_loadPart' ho, wpAny_pyIter_tuple hT
      exact ⟨_, rfl, z⟩
theorem call_enumT {P : Program} {w : World} {B : Around} {E : Value → Shared → Prop} {st : Shared} {a : Addr} {xs : Array Value} {Q : Value → Shared → Prop} (hT : IsTup st.heap a xs)
    (z : IsEnum (enumHeap st.heap a) (st.heap.objs.size + 1) st.heap.objs.size 0 .none → (enumHeap st.heap a).IsTupleIter st.heap.objs.size a 0 →
      (∀ b o, st.heap.get? b = some o → (enumHeap st.heap a).get? b = some o) → Q (.ref (st.heap.objs.size + 1)) { st with heap := enumHeap st.heap a }) :
    wpAny (model P w) B (call (.type "enumerate") [.ref a]) Q E st := by
  obtain ⟨⟨c, dd, dt, sl⟩, ho, hc, k, hd⟩ := hT
  have hc2 : c = .type "tuple" := hc
  have hd2 : dt = .seq xs k := hd
  subst hc2 hd2
  refine callType_new F.called_enumerate (by decide) (F.typeCall_enumerate_1 _) (F.newCall_enumerate_1 _) (fun obj => F.args_object_init_2 obj _) F.entry_enumerate_new (enum_newT a xs k dd sl) ⟨ho, ?_⟩
  have one : (st.heap.push { cls := .type "tuple_iterator", data := .fields #[.ref a, .int 0 0] }).objs.size = st.heap.objs.size + 1 := Heap.size_push ..
  show _ ∧ _
  rw [one]
  have en : IsEnum (enumHeap st.heap a) (st.heap.objs.size + 1) st.heap.objs.size 0 .none := by
    have q := Heap.get?_push_size (st.heap.push { cls := .type "tuple_iterator", data := .fields #[.ref a, .int 0 0] })
      (o := { cls := .type "enumerate", data := .fields #[.none, .bool false, .ref st.heap.objs.size, rawInt 0, .none, .none] }) rfl
    rw [one] at q
    exact q
  exact ⟨⟨_, en, rfl⟩, z en ⟨_, Heap.get?_push_of_some _ (Heap.get?_push_size _ rfl), rfl, rfl⟩ fun b o x => Heap.get?_push_of_some _ (Heap.get?_push_of_some _ x)⟩
/-- each item of the tuple at a, in a new pair -/
def Iet (K : PySem.W.Frag) (a : Addr) : It :=
  ⟨fun i H => ∃ (xs : List V) (x : V), SqT K H a xs ∧ xs[i]? = some x,
   fun i H v H' => ∃ T x, v = .ref T ∧ H T = none ∧ H' = upd H T (.tup [.int (i : Nat), x]) ∧ ∀ xs, SqT K H a xs → xs[i]? = some x,
   fun i H => ∃ xs : List V, SqT K H a xs ∧ xs.length ≤ i⟩
theorem turn_enumT {P : Program} {w : World} {K : PySem.W.Frag} {elts : List Expr} {kk : Nat} {tpos : Pos} (a e it : Addr) (hai : a ≠ it) (hea : e ≠ a) :
    Turn P w K (.Tuple elts kk tpos) (Iet K a) [e, it] e (fun i h => (∃ old, IsEnum h e it ((i : Nat) : Int) old) ∧ h.IsTupleIter it a i ∧ e ≠ it) where
  mem := by simp
  self := fun B i st Q E q z => let ⟨⟨_, he⟩, _⟩ := q; wpAny_pyIter_enum he z
  obj := fun i h q b hb => by
    obtain ⟨⟨old, he⟩, ⟨o, ho, hc, hd⟩, _⟩ := q
    rcases (show b = e ∨ b = it by simpa using hb) with z | z
    · rw [z]
      exact ⟨_, he, fun v y => nomatch y⟩
    · rw [z]
      exact ⟨o, ho, fun v y => by rw [hd] at y; cases y⟩
  keep := fun i h h' q k => let ⟨⟨old, he⟩, hi, hne⟩ := q; ⟨⟨old, k e (by simp) _ he⟩, hi.at fun o y => k it (by simp) o y, hne⟩
  item := by
    intro X hP hw hK hc i pins st σ H E I hf q hg
    subst hP hw hK
    obtain ⟨⟨old, he⟩, hit, hne⟩ := q
    obtain ⟨xs, x, hq, hx⟩ := hg
    obtain ⟨its, rv, p, hz⟩ := I.tuple hq
    obtain ⟨u, hu, ru⟩ := rv.get hx
    have el : e < st.heap.objs.size := Heap.lt_size he
    have il : it < st.heap.objs.size := by obtain ⟨_, y, _⟩ := hit; exact Heap.lt_size y
    have D := Draws.tuple (prog := X.prog) (w := X.w) (A := X.A.in1) (by exact I.ok.hd hc) it a hai its.toArray
    have hlt : i < its.toArray.size := by
      obtain ⟨y, _⟩ := List.getElem?_eq_some_iff.mp hu
      simpa using y
    refine wpAny_pyNext_enum_itemD D he ⟨hit, p⟩ hlt hne (by simp; exact ⟨hne, hea⟩) fun v h' tk hv ho hst hT hsz hk => ?_
    have huv : v = u := by
      have y : its.toArray[i]? = some v := hv
      have y2 : its.toArray[i]? = some u := by simpa using hu
      rw [y2] at y
      exact (Option.some.inj y).symm
    subst huv
    refine ⟨_, rfl, wpAny_letOwnedTupleGo_enum (s := { st with heap := h', toks := tk + 1 }) ho fun h2 he2 sb => ?_⟩
    have hT2 : h2.get? st.heap.objs.size = some { cls := .type "tuple", data := .seq #[.int i tk, v] } := (sb.2 _ (Nat.ne_of_gt el)).trans hT
    have new : ObjOk X.prog X.w (upd H st.heap.objs.size (.tup [.int (i : Nat), x])) h2 st.heap.objs.size (.tup [.int (i : Nat), x]) :=
      ⟨by show 2 ≤ sizeLine; decide, [.int i tk, v], .cons ⟨_, rfl⟩ (.cons ru .nil), ⟨_, hT2, rfl, _, rfl⟩⟩
    have I2 : Inv X pins σ (upd H st.heap.objs.size (.tup [.int (i : Nat), x])) { st with heap := h2, toks := tk + 1 } :=
      I.turnedNew (ch := [e, it]) (fun b ob hb y => (sb.2 b (fun z => hb (by simp [z]))).trans (hk b ob (fun z => hb (by simp [z])) (fun z => hb (by simp [z])) y)) hf (Nat.le_refl _) new
    refine ⟨.ref st.heap.objs.size, _, I2, rfl, ⟨_, x, rfl, I.hok.fresh (Nat.le_refl _), rfl, fun ys hy => by rw [I.tuple_inj hy hq]; exact hx⟩, ⟨⟨v, ?_⟩, hst.1.at fun o y => (sb.2 it (Ne.symm hne)).trans y, hne⟩, fun b hb => ?_⟩
    · have e1 : ((i + 1 : Nat) : Int) = (i : Int) + 1 := by omega
      rw [e1]
      exact he2
    · have lt : b < st.heap.objs.size := by
        rcases (show b = e ∨ b = it by simpa using hb) with z | z
        · rw [z]
          exact el
        · rw [z]
          exact il
      rw [upd_ne (Nat.ne_of_lt lt)]
      exact (hf b hb).1
  done := by
    intro X hP hw hK hc i pins st σ H E I hf q hg
    subst hP hw hK
    obtain ⟨⟨old, he⟩, hit, hne⟩ := q
    obtain ⟨xs, hq, hx⟩ := hg
    obtain ⟨its, rv, p, hz⟩ := I.tuple hq
    obtain ⟨f0, f1, f2, f3, f4, f5⟩ := hf it (by simp)
    have hl := rv.length
    unfold pyNext
    have hT : st.TypeIs (.ref e) "enumerate" := ⟨_, he, rfl⟩
    refine wpAny_bind (wpAny_attempt (wpAny_callSpecial?_slot (name := Str.ofString "__next__") hT F.slot_enumerate_next
      (wpAny_call_entry F.slot_enumerate_next hT F.entry_enumerate_next ?_ (F.args_enumerate_next_1 _))))
    show wpAny _ _ (field (.ref e) 2 >>= _) _ _ _
    refine wpAny_bind (wpAny_field he rfl (x := .ref it) rfl ?_)
    refine wpAny_bind (wpAny_nextOf_tuple_end (I.ok.hd hc) hit (show st.heap.IsTuple a its.toArray from p) (by simp; omega) fun h' x he' hx' => ?_)
    obtain ⟨o, ho, hc'⟩ := hx'
    refine wpAny_bind (wpAny_isInstance (T := "StopIteration") (b := true) ⟨o, ho, hc'⟩ isSubtype_stop ?_)
    exact wpAny_pure ⟨rfl, I.turned (t' := st.toks) (fun b o hb y => he' b o hb y) f0 f1 f3 f4 f5⟩
def iEnumT (K : PySem.W.Frag) (ta : TA) : TI := fun σ H R => ta σ H fun vs H1 => ∃ a xs, vs = [.ref a] ∧ SqT K H1 a xs ∧ R (Iet K a) H1
theorem pi_enumT {X : Cx} {e : Expr} {ta : TA} {p pos tpos : Pos} {elts : List Expr} {kk : Nat} (hg : Gl X "enumerate") (hm : X.mg "enumerate" = none) (ha : PA X [e] ta) (hs : starEach [e] X.env = [(false, eval e X.env)] := by rfl) :
    PI X (.Tuple elts kk tpos) (.Call (.Name "enumerate" p) [e] [] pos) (iEnumT X.K ta) := by
  constructor
  intro pins st σ H R I h
  refine Call_ (ld_blt I hg hm boot_enumerate (PyProof.Rows.callWith_type1 (thn (ha.run pos pins st σ H _ I h) fun us s1 ⟨vs, H1, I1, r1, q1⟩ => ?_) hs rfl))
  obtain ⟨a, xs, ex, hq, q⟩ := q1
  subst ex
  cases r1 with
  | cons r rr =>
    cases rr
    cases r
    obtain ⟨its, rv, p', hz⟩ := I1.tuple hq
    refine call_enumT p' fun en hit hk => wpAny_pyIter_enum en ?_
    have al : a < s1.heap.objs.size := p'.lt
    refine ⟨s1.heap.objs.size + 1, [s1.heap.objs.size + 1, s1.heap.objs.size], _, _, H1, rfl, I1.kept (t' := s1.toks) hk, turn_enumT a (s1.heap.objs.size + 1) s1.heap.objs.size (Nat.ne_of_lt al) (Nat.ne_of_gt (Nat.lt_succ_of_lt al)), ⟨⟨.none, en⟩, hit, Nat.succ_ne_self _⟩, fun b hb => ?_, q⟩
    have le : s1.heap.objs.size ≤ b := by
      rcases (show b = s1.heap.objs.size + 1 ∨ b = s1.heap.objs.size by simpa using hb) with z | z
      · rw [z]
        exact Nat.le_succ _
      · rw [z]
        exact Nat.le_refl _
    exact I1.fpOk le (I1.hok.fresh le)
/-- the loop -/
theorem for_enumT {K : PySem.W.Frag} {a : Addr} {xs : List V} {g : TG} {tb : TS} {D : Ends} {σ : L2.St} {H : Hp} (Pv : Nat → L2.St → Hp → Prop) (h0 : Pv 0 σ H) (hl : ∀ i σ H, i ≤ xs.length → Pv i σ H → SqT K H a xs)
    (hs : ∀ i x σ H T, xs[i]? = some x → Pv i σ H → H T = none → g (.ref T) σ (upd H T (.tup [.int (i : Nat), x])) fun σ2 H2 => tb { D with nx := Pv (i + 1), ct := Pv (i + 1), bk := D.nx } σ2 H2) (hd : ∀ σ H, Pv xs.length σ H → D.nx σ H) :
    ∃ W : Nat → Nat → L2.St → Hp → Prop, (∃ m, W 0 m σ H) ∧ ∀ i m σ H, W i m σ H → ((Iet K a).stop i H ∧ D.nx σ H) ∨ ((Iet K a).go i H ∧ ∃ N : L2.St → Hp → Prop, (∀ σ' H', N σ' H' → ∃ m', m' < m ∧ W (i + 1) m' σ' H') ∧
      ∀ x H', (Iet K a).yld i H x H' → g x σ H' fun σ2 H2 => tb { D with nx := N, ct := N, bk := D.nx } σ2 H2) := by
  refine ⟨fun i m σ H => m = xs.length - i ∧ i ≤ xs.length ∧ Pv i σ H, ⟨xs.length, by simp, Nat.zero_le _, h0⟩, ?_⟩
  intro i m σ H w
  obtain ⟨em, hi, p⟩ := w
  subst em
  have q := hl i σ H hi p
  by_cases lt : i < xs.length
  · refine .inr ⟨⟨xs, xs[i], q, by simp [lt]⟩, Pv (i + 1), fun σ' H' p' => ⟨xs.length - (i + 1), by omega, rfl, lt, p'⟩, fun x H' y => ?_⟩
    obtain ⟨T, y1, rfl, hT, rfl, y2⟩ := y
    exact hs i y1 σ H T (y2 xs q) p hT
  · have e : i = xs.length := by omega
    subst e
    exact .inl ⟨⟨xs, q, Nat.le_refl _⟩, hd σ H p⟩
end KV

/-! calls by keywords alone; asked -/
namespace KV
open PySem PySem.Spec PyProof.Rows L2 KM
def rv {α : Type} (b : Bool) (l : List α) : List α := if b = true then l.reverse else l
theorem vals_app : ∀ {vs zs : List V} {us ws : List Value}, Vals vs us → Vals zs ws → Vals (vs ++ zs) (us ++ ws)
  | [], _, _, _, .nil, k => k
  | _ :: _, _, _, _, .cons r h, k => .cons r (vals_app h k)
theorem vals_rev : ∀ {vs : List V} {us : List Value}, Vals vs us → Vals vs.reverse us.reverse
  | [], _, .nil => .nil
  | _ :: _, _, .cons r h => by
    rw [List.reverse_cons, List.reverse_cons]
    exact vals_app (vals_rev h) (.cons r .nil)
theorem vals_rv {b : Bool} {vs : List V} {us : List Value} (h : Vals vs us) : Vals (rv b vs) (rv b us) := by
  cases b with
  | false => exact h
  | true => exact vals_rev h
/-- how a call with keywords alone binds: the names ks stand in the parameters' order, or the other way round (b) -/
def KB (K : PySem.W.Frag) (fd : FuncData) (ps ks : List Str) (b : Bool) : Prop := ∀ (s : Shared) (ws : List Value), K.In s.heap → (rv b ws).length = ps.length → BindsTo s fd ⟨[], ks.zip ws⟩ (ps.zip (rv b ws))
theorem KB.mk {K : PySem.W.Frag} {x qual : Str} {st : Stmt} {f : Addr} {fd : FuncData} {ps ks : List Str} {b : Bool} (F : Fun K x qual st f fd)
    (h : ∀ (kV doc pm : Value) (an : Option Addr) (cdv ct : Value) (us : List Value), us.length = ps.length → bindArgs (PySem.W.fnOf x qual (defArgs st) (defBody st) (defScope st) .none kV doc pm an cdv ct) ⟨[], ks.zip us⟩ = pure (ps.zip (rv b us))) : KB K fd ps ks b := by
  obtain ⟨oc, od, kV, doc, pm, an, cdv, ct, osl, rfl, lk, hcd⟩ := F.ex
  intro s ws _ hl
  refine .of_eq (h kV doc pm an cdv ct ws ?_)
  cases b with
  | false => exact hl
  | true => exact (List.length_reverse (as := ws)).symm.trans hl
/-- a def of the module that may be called with keywords alone -/
def CalK (P : Program) (w : World) (K : PySem.W.Frag) (mg : Str → Option Value) (base : Heap) (Z : CXT) (k : Nat) (x : Str) (ps ks : List Str) (b : Bool) (sp : Sp) : Prop :=
  ∃ (f : Addr) (fd : FuncData), FnOk P w K mg base Z k f fd ps sp ∧ mg x = some (.ref f) ∧ PySem.W.keepIn K (.ref f) = true ∧ KB K fd ps ks b
section
variable {X : Cx} {Z : CXT} {k j : Nat} {f : Addr} {fd : FuncData} {x : Str} {ps ks : List Str} {b : Bool} {sp : Sp} {p pos : Pos} {kws : List Keyword} {tk : TA} {E : L2.St → XK}
theorem run_fnSK {pins : List (Addr × Obj)} {σ : L2.St} {H : Hp} {s : Shared} {Q : VK} {ws : List Value} {zs : List V} (F : FnOk X.prog X.w X.K X.mg X.base Z k f fd ps sp) (hr : Room k X.A) (hb : KB X.K fd ps ks b) (hx : PassesAt Z X σ (E σ))
    (I : L2.Inv X pins σ H s) (rz : Vals zs ws) (h : sp (rv b zs) H Q (E σ)) : wpAny (model X.prog X.w) X.A (call (.ref f) [] (ks.zip ws)) (EP X pins σ Q) X.xe s := by
  have r2 := vals_rv (b := b) rz
  have hl : (rv b ws).length = ps.length := by rw [← r2.length]; exact F.len _ _ _ _ h
  refine wpAny_call (codeAny_mono (F.run X.A X.stack s H ⟨[], ks.zip ws⟩ (rv b ws) (rv b zs) Q (E σ) hr I.env0 (hb s ws I.kIn hl) r2 h) fun r s' hq => ?_)
  cases r with
  | error e => exact hx pins H s e s' I hq
  | ok fl =>
    cases fl with
    | ret u => exact I.after hq
    | next => exact False.elim hq
    | brk => exact False.elim hq
    | cont => exact False.elim hq
def tCallSK (sp : Sp) (b : Bool) (E : L2.St → XK) (tk : TA) : TE := fun σ H Q => tk σ H fun zs H1 => sp (rv b zs) H1 Q (E σ)
theorem pe_calSK (C : CalK X.prog X.w X.K X.mg X.base Z k x ps ks b sp) (hr : Room j X.A) (hj : k ≤ j) (hx : ∀ σ, PassesAt Z X σ (E σ)) (hkw : PK X kws tk) (hg : Gl X x := by rfl)
    (hall : (backToKw pos (keywordEach kws X.env)).all (·.1.isSome) = true := by rfl) (hks : (backToKw pos (keywordEach kws X.env)).filterMap (·.1) = ks := by rfl)
    (hdb : (x == ("__debug__" : Str)) = false := by decide)
    (hpl : ((backTo pos (starEach [] X.env)).any (·.1) || (backToKw pos (keywordEach kws X.env)).any (·.1.isNone)) = false := by rfl) :
    PE X (.Call (.Name x p) [] kws pos) (tCallSK sp b E tk) := by
  obtain ⟨f, fd, F, hm, hk, hb⟩ := C
  refine ⟨fun pins s σ H Q I h => ?_⟩
  refine wpAny_Call_Name_kw (ld_glob I hg hm ?_ hdb)
  refine PySem.W.callWith_KW0 (first := []) (h₀ := X.base) I.ok.mod.kin hk hall (thn (hkw.run pos pins s σ H _ I h) fun ws s2 ⟨zs, H2, I2, rz, q2⟩ => ⟨I2.kIn, ?_⟩) hpl
  rw [hks]
  exact run_fnSK F (hr.mono hj) hb (hx σ) I2 rz q2
theorem pe_calS {e : Expr} {es : List Expr} {t : TA} (C : Cal X.prog X.w X.K X.mg X.base Z k x ps sp) (hr : Room j X.A) (hj : k ≤ j) (hx : ∀ σ, PassesAt Z X σ (E σ)) (ha : PA X (e :: es) t)
    (hg : Gl X x := by rfl) (hdb : (x == ("__debug__" : Str)) = false := by decide)
    (he : starEach (e :: es) X.env = (false, eval e X.env) :: starEach es X.env := by rfl)
    (hpl : (backTo pos (starEach es X.env)).any (·.1) = false := by rfl) :
    PE X (.Call (.Name x p) (e :: es) [] pos) (tCallS sp E t) := by
  obtain ⟨f, fd, F, h1, h2, h3⟩ := C
  exact pe_callS F (hr.mono hj) hg h1 h2 h3 hx ha hdb he hpl
end
theorem passL {X : Cx} (σ : L2.St) : PassesAt (L2.CX X.prog X.w) X σ E0 := fun _ _ _ _ _ _ ⟨_, _, _, _, _, _, _, _, _, _, _, _, h⟩ => h.elim
end KV

/-! mathematics: what may be told -/
namespace KV
open PySem PySem.Spec PyProof.Rows L2 KM
def posB (A B : List Int) : Bool := decide (∀ n ∈ B, due A n)
def toldB (A B L : List Int) : Bool := A.all (fun n => fit L n) && !(B.any fun n => fit L n)
theorem toldB_iff {A B L : List Int} : toldB A B L = true ↔ (∀ n ∈ A, fit L n = true) ∧ ∀ n ∈ B, fit L n = false := by
  unfold toldB
  rw [Bool.and_eq_true, List.all_eq_true, Bool.not_eq_true', List.any_eq_false]
  constructor
  · exact fun z => ⟨z.1, fun n hn => by simpa using z.2 n hn⟩
  · exact fun z => ⟨z.1, fun n hn => by simpa using z.2 n hn⟩
theorem lotJ_lot {A L : List Int} (h : LotJ A (some L)) : Lot L := by
  have g := lotJ_gt h
  refine ⟨fun n hn => by have := g n hn; omega, ?_, h.2.1⟩
  have nd := co_nodup h.2.1 g
  refine List.Pairwise.imp_of_mem ?_ (h.2.2.and nd)
  rintro a b _ _ ⟨le, ne⟩
  omega
theorem fit_mod {L : List Int} {n : Int} (h : ∀ q ∈ L, 3 ≤ q) : fit L n = true ↔ ¬ ∃ q ∈ L, 1 < n % q := by
  rw [fit_iff]
  constructor
  · rintro z ⟨q, hq, e⟩
    have := z q hq
    omega
  · intro z q hq
    have : ¬ 1 < n % q := fun e => z ⟨q, hq, e⟩
    omega
theorem lotJ_due {A L : List Int} {n : Int} (h : LotJ A (some L)) : due A n ↔ fit L n = false := by
  rw [due_some h.1, ← Bool.not_eq_true, fit_mod (lotJ_lot h).ge, Classical.not_not]
theorem lotJ_told {A B L : List Int} (h : LotJ A (some L)) (p : posB A B = true) : toldB A B L = true := by
  rw [toldB_iff]
  refine ⟨fun n hn => ?_, fun n hn => (lotJ_due h).mp (of_decide_eq_true p n hn)⟩
  rw [fit_mod (lotJ_lot h).ge]
  rintro ⟨q, hq, e⟩
  have g := lotJ_gt h q hq
  exact (lotJ_ops h (k := q) (by omega)).mpr ⟨q, hq, Int.dvd_refl q⟩ n hn e
theorem one_told {A B : List Int} {k : Int} (h : LotJ A none) (k3 : 3 ≤ k) (hk : ∀ n ∈ B, 1 < n % k) : toldB A B [k] = true := by
  rw [toldB_iff]
  refine ⟨fun n hn => ?_, fun n hn => ?_⟩
  · rw [fit_iff]
    intro q hq
    have e : q = k := by simpa using hq
    rw [e]
    have := plain_mod (h.1 n hn) k3
    omega
  · rw [← Bool.not_eq_true, fit_iff]
    intro z
    have := z k (by simp)
    have := hk n hn
    omega
theorem pos_plain {A B : List Int} (h : LotJ A none) (p : posB A B = true) : ∀ n ∈ B, ¬ pln n := fun n hn => (due_none h.1).mp (of_decide_eq_true p n hn)
theorem sortI_le (l : List Int) : (l.mergeSort fun a b => decide (a ≤ b)).Pairwise (· ≤ ·) :=
  (List.pairwise_mergeSort (le := fun a b : Int => decide (a ≤ b)) (fun a b c h1 h2 => by simp only [decide_eq_true_eq] at *; omega) (fun a b => by simp only [Bool.or_eq_true, decide_eq_true_eq]; omega) l).imp fun h => of_decide_eq_true h
/-- a doubt may be seen by an integer -/
theorem due_isD {A : List Int} {n : Int} : due A n ↔ ∃ k, isD A n k := by
  have key : ∀ o, LotJ A o → (due A n ↔ ∃ k, isD A n k) := by
    intro o h
    cases o with
    | none =>
      rw [due_none h.1]
      constructor
      · intro hn
        exact ⟨_, isD_least h.1 (by have := hn; unfold pln at this; omega) (far_mod hn)⟩
      · rintro ⟨k, k3, _, e⟩ hp
        exact plain_mod hp k3 e
    | some L =>
      rw [due_some h.1]
      constructor
      · rintro ⟨q, hq, e⟩
        exact ⟨q, isD_lot h.1 hq e⟩
      · rintro ⟨k, k3, hc, e⟩
        obtain ⟨q, hq, d⟩ := (lotJ_ops h k3).mp hc
        refine ⟨q, hq, ?_⟩
        refine Classical.byContradiction fun z => ?_
        have g := lotJ_gt h q hq
        rcases open_dvd z (by omega) with y | y
        · exact open_mod (.inl (Int.dvd_trans d y)) k3 e
        · exact open_mod (.inr (Int.dvd_trans d y)) k3 e
  have ex : ∀ A : List Int, ∃ o, LotJ A o := by
    refine snoc_ind ⟨none, LotJ.nil⟩ fun l a ih => ?_
    obtain ⟨o, h⟩ := ih
    by_cases hp : pln a
    · exact ⟨o, h.pln hp⟩
    · cases o with
      | none => exact ⟨_, h.first hp (List.mergeSort_perm _ (fun a b => decide (a ≤ b))) (sortI_le _)⟩
      | some L => exact ⟨_, h.next (M := ones a) hp (List.Perm.refl _) (List.mergeSort_perm _ (fun a b => decide (a ≤ b))) (sortI_le _)⟩
  obtain ⟨o, h⟩ := ex A
  exact key o h
theorem due_more {A : List Int} {n m : Int} (h : ¬ due A n) : due (A ++ [n]) m ↔ due A m := by
  rw [due_isD, due_isD]
  constructor
  · rintro ⟨k, k3, hc, e⟩
    exact ⟨k, k3, fun c hc' => hc c (by simp [hc']), e⟩
  · rintro ⟨k, k3, hc, e⟩
    refine ⟨k, k3, fun c hc' => ?_, e⟩
    rcases List.mem_append.mp hc' with z | z
    · exact hc c z
    · rw [show c = n from by simpa using z]
      exact fun y => h (due_isD.mpr ⟨k, k3, hc, y⟩)
end KV

/-! the program: what is told -/
namespace KV
open PySem PySem.Spec PyProof.Rows L2 KM
theorem Ke.sqA {K : PySem.W.Frag} {H H' : Hp} {a : Addr} {xs : List V} (k : Ke K H H' a) (h : SqA K H a xs) : SqA K H' a xs := h.imp (fun z => (k xs).1 z) (fun z => (k xs).2 z)
section
variable {P : Program} {w : World} {K : PySem.W.Frag} {mg : Str → Option Value} {base : Heap} {C fI C2 fI2 : Addr}
def Tel (K : PySem.W.Frag) (C : Addr) (H : Hp) (v x : V) (E : XK) (q : List Int → List Int → Prop) : Prop := ∃ ms xs : Option (List V), ValA K H v ms ∧ ValA K H x xs ∧
  ((isIs ms = false ∧ BadA C 0 H E) ∨ (isIs ms = true ∧ isIs xs = false ∧ BadA C 1 H E) ∨ ∃ A B : List Int, ms = some (A.map V.int) ∧ xs = some (B.map V.int) ∧ q A B)
theorem Tel.next {H : Hp} {v x : V} {E : XK} {q q' : List Int → List Int → Prop} (h : Tel K C H v x E q) (g : ∀ A B, ValA K H v (some (A.map V.int)) → ValA K H x (some (B.map V.int)) → q A B → q' A B) : Tel K C H v x E q' := by
  obtain ⟨ms, xs, h1, h2, h3⟩ := h
  refine ⟨ms, xs, h1, h2, h3.imp id (Or.imp id ?_)⟩
  rintro ⟨A, B, rfl, rfl, z⟩
  exact ⟨A, B, rfl, rfl, g A B h1 h2 z⟩
theorem Tel.mk {H : Hp} {v x : V} {E : XK} {q : List Int → List Int → Prop} {A B : List Int} (hv : ValA K H v (some (A.map V.int))) (hx : ValA K H x (some (B.map V.int))) (h : q A B) : Tel K C H v x E q :=
  ⟨_, _, hv, hx, .inr (.inr ⟨A, B, rfl, rfl, h⟩)⟩
def spCT (K : PySem.W.Frag) (C : Addr) : Sp := fun vs H Q E => ∃ v x : V, vs = [v, x] ∧ Tel K C H v x E fun _ _ => ∀ H', Same H H' → Q .non H'
theorem sc19 : FnScope ["yes", "no"] ["yes", "no"] (defScope (top 19)) := ⟨rfl, rfl, rfl, by decide +kernel, rfl, by decide +kernel, by decide +kernel⟩
theorem ok_CT {f : Addr} {fd : FuncData} (CK : Cal P w K mg base (L2.CX P w) 2 "check_integers" ["value", "at"] (spChk K C)) (F : Fun K "_check_tellings" "_check_tellings" (top 19) f fd) : FnOk P w K mg base (L2.CX P w) 3 f fd ["yes", "no"] (spCT K C) := by
  refine F.okX sc19 (fun vs H Q E h => ?_) (fun cdv A outer s H vs Q E hr h => ⟨_,
    (pss_cons (ps_expr (by exact (pe_calX CK hr (by decide) (takes_of rfl rfl rfl rfl) (fun _ _ _ _ z => z) (pa_cons (pv 0) (pa_cons pe_int pa_nil)))))
    (pss_one (ps_expr (by exact (pe_calX CK hr (by decide) (takes_of rfl rfl rfl rfl) (fun _ _ _ _ z => z) (pa_cons (pv 1) (pa_cons pe_int pa_nil))))))), ?_⟩)
  · obtain ⟨v, x, rfl, _⟩ := h
    rfl
  obtain ⟨v, x, rfl, ms, xs, hv, hx, h⟩ := h
  refine ⟨_, rfl, v, 0, ms, rfl, hv, fun ht H1 s1 => ?_, fun hf => ?_⟩
  · refine ⟨_, rfl, x, 1, xs, rfl, hx.same s1, fun ht2 H2 s2 => ?_, fun hf => ?_⟩
    · rcases h with ⟨z, _⟩ | ⟨_, z, _⟩ | ⟨A, B, rfl, rfl, q⟩
      · rw [ht] at z
        cases z
      · rw [ht2] at z
        cases z
      · exact q _ (s1.trans s2)
    · rcases h with ⟨z, _⟩ | ⟨_, _, z⟩ | ⟨A, B, rfl, rfl, q⟩
      · rw [ht] at z
        cases z
      · exact fun H' d s hd => z H' d (s1.trans s) hd
      · rw [isIs_int] at hf
        cases hf
  · rcases h with ⟨_, z⟩ | ⟨z, _⟩ | ⟨A, B, rfl, rfl, q⟩
    · exact z
    · rw [hf] at z
      cases z
    · rw [isIs_int] at hf
      cases hf

def spPos (K : PySem.W.Frag) (C : Addr) : Sp := fun vs H Q E => ∃ v x : V, vs = [v, x] ∧ Tel K C H v x E fun A B => ∀ H', Same H H' → Q (.bl (posB A B)) H'
structure GoodL (A B L : List Int) : Prop where
  lot : Lot L
  len : L.length ≤ 2 ^ A.length
  told : toldB A B L = true
  sml : ∀ j : Nat, 1 ≤ j → (∀ n ∈ A, sm j n) → (∀ n ∈ B, sm j n) → ∀ q ∈ L, sm (j + 2) q
def spPL (K : PySem.W.Frag) (C : Addr) : Sp := fun vs H Q E => ∃ v x : V, vs = [v, x] ∧ Tel K C H v x E fun A B => ∃ j : Nat, 1 ≤ j ∧ (∀ n ∈ A, sm j n) ∧ (∀ n ∈ B, sm j n) ∧
  (posB A B = false → ∀ H', Same H H' → Q .non H') ∧ (posB A B = true → ∀ (p : Addr) (L : List Int) (H' : Hp), Same H H' → H' p = some (.tup (L.map V.int)) → Lot L → L.length ≤ 2 ^ A.length → toldB A B L = true → (∀ q ∈ L, sm (j + 2) q) → Q (.ref p) H')
def spFL (K : PySem.W.Frag) : Sp := fun vs H Q _ => ∃ (a : Addr) (L : List Int) (n : Int), vs = [.ref a, .int n] ∧ SqT K H a (L.map V.int) ∧ (∀ q ∈ L, 3 ≤ q) ∧ L.length ≤ 1000 ∧ ∀ H', Same H H' → Q (.bl (fit L n)) H'
theorem sc11 : FnScope ["lot", "count", "modulus"] ["lot", "count"] (defScope (top 11)) := ⟨rfl, rfl, rfl, by decide +kernel, rfl, by decide +kernel, by decide +kernel⟩
theorem ok_FL {f : Addr} {fd : FuncData} (Bm : Bl mg) (F : Fun K "fits_lot" "fits_lot" (top 11) f fd) : FnOk P w K mg base CX0 1 f fd ["lot", "count"] (spFL K) := by
  refine F.ok sc11 (fun vs H Q E h => ?_) (fun cdv A outer s H vs Q E hr h => ⟨_,
    (pss_one (ps_ret (pe_callB (cr_all rfl) (by rfl) Bm.all (by decide +kernel) (pa_cons (pe_lc (own := [("modulus", 2)]) (g := gName 2) (tt := tYes) rfl sc11.nd (pi_tup (pv 0)) (blkOk_by (N := ["lot", "count", "modulus"]) (sc := defScope (top 11)) (by decide +kernel))
        (fun _ _ _ _ _ => (pg_name (i := 2) sc11.nd rfl (Or.inl rfl))) (fun _ _ _ _ _ => pts_nil) (fun _ _ _ _ _ => (pe_cmpR op_lt (pe_op op_mod (pv 1) (pv 2)) pe_int (nomark _)))) pa_nil)))), ?_⟩)
  · obtain ⟨a, L, n, rfl, _⟩ := h
    rfl
  obtain ⟨a, L, n, rfl, hS, h3, hl, q⟩ := h
  refine ⟨_, rfl, a, rfl, ⟨_, hS⟩, fun D hD => lc_tup (xs := L.map V.int) (fun i H' => Same H H' ∧ H' D = some (.lst ((L.take i).map fun c => V.bl (decide (n % c < 2))))) ⟨Same.new hD, upd_same⟩ (fun i H' _ p => Same.seqT p.1 hS) ?_ ?_⟩
  · rintro i x H2 hx ⟨p1, p2⟩
    obtain ⟨c, hc, rfl⟩ := map_at hx
    have c3 := h3 c (List.mem_of_getElem? hc)
    refine ⟨rfl, _, rfl, _, rfl, _, _, rfl, rfl, (by show (0 : Int) < c; omega), _, _, rfl, rfl, _, p2, len_lt (by rw [List.length_map, List.length_take]; omega), Same.upd p1 hD, ?_⟩
    rw [upd_same, take_at hc, List.map_append]
    rfl
  · rintro H2 ⟨p1, p2⟩
    rw [List.length_map, List.take_length] at p2
    refine ⟨D, L.map fun c => decide (n % c < 2), rfl, SqL.of (by rw [p2, List.map_map]; rfl), ?_⟩
    have e : (L.map fun c => decide (n % c < 2)).all id = fit L n := by
      unfold fit
      rw [List.all_map]
      rfl
    rw [e]
    exact q _ p1

def spTd (K : PySem.W.Frag) : Sp := fun vs H Q _ => ∃ (l a b : Addr) (L A B : List Int), vs = [.ref l, .ref a, .ref b] ∧ SqT K H l (L.map V.int) ∧ SqA K H a (A.map V.int) ∧ SqA K H b (B.map V.int) ∧ (∀ q ∈ L, 3 ≤ q) ∧ L.length ≤ 1000 ∧ A.length ≤ 1000 ∧ B.length ≤ 1000 ∧ ∀ H', Same H H' → Q (.bl (toldB A B L)) H'
theorem sc20 : FnScope ["lot", "yes", "no", "count"] ["lot", "yes", "no"] (defScope (top 20)) := ⟨rfl, rfl, rfl, by decide +kernel, rfl, by decide +kernel, by decide +kernel⟩
theorem ok_Td {f : Addr} {fd : FuncData} (Bm : Bl mg) (CFl : Cal P w K mg base CX0 1 "fits_lot" ["lot", "count"] (spFL K)) (F : Fun K "_is_told" "_is_told" (top 20) f fd) : FnOk P w K mg base CX0 2 f fd ["lot", "yes", "no"] (spTd K) := by
  refine F.ok sc20 (fun vs H Q E h => ?_) (fun cdv A outer s H vs Q E hr h => ⟨_,
    (pss_one (ps_ret (pe_and (pe_callB (cr_all rfl) (by rfl) Bm.all (by decide +kernel) (pa_cons (pe_lc (own := [("count", 3)]) (g := gName 3) (tt := tYes) rfl sc20.nd (pi_sq (pv 1)) (blkOk_by (N := ["lot", "yes", "no", "count"]) (sc := defScope (top 20)) (by decide +kernel))
        (fun _ _ _ _ _ => (pg_name (i := 3) sc20.nd rfl (Or.inl rfl))) (fun _ _ _ _ _ => pts_nil) (fun _ _ _ _ _ => (pe_cal CFl hr (by decide) (pa_cons (pv 0) (pa_cons (pv 3) pa_nil))))) pa_nil)) (pe_one (pe_not (pe_callB (cr_any rfl) (by rfl) Bm.any (by decide +kernel) (pa_cons (pe_lc (own := [("count", 3)]) (g := gName 3) (tt := tYes) rfl sc20.nd (pi_sq (pv 2)) (blkOk_by (N := ["lot", "yes", "no", "count"]) (sc := defScope (top 20)) (by decide +kernel))
        (fun _ _ _ _ _ => (pg_name (i := 3) sc20.nd rfl (Or.inl rfl))) (fun _ _ _ _ _ => pts_nil) (fun _ _ _ _ _ => (pe_cal CFl hr (by decide) (pa_cons (pv 0) (pa_cons (pv 3) pa_nil))))) pa_nil))))))), ?_⟩)
  · obtain ⟨l, a, b, L, A, B, rfl, _⟩ := h
    rfl
  obtain ⟨l, a, b, L, A, B, rfl, hl, ha, hb, h3, hL, hA, hB, q⟩ := h
  refine ⟨_, rfl, a, rfl, lc_sq ha (fun D i H2 => Same H H2 ∧ H2 D = some (.lst ((A.take i).map fun c => V.bl (fit L c)))) (fun D hD => ⟨Same.new hD, upd_same⟩) (fun D i H2 p => Ke.of p.1) ?_ ?_⟩
  · rintro D i x H2 hD hx ⟨p1, p2⟩
    obtain ⟨c, hc, rfl⟩ := map_at hx
    refine ⟨rfl, _, rfl, _, rfl, l, L, c, rfl, Same.seqT (p1) hl, h3, hL, fun H3 s3 => ⟨_, s3 _ _ p2, len_lt (by rw [List.length_map, List.length_take]; omega), Same.upd (Same.trans p1 s3) hD, ?_⟩⟩
    rw [upd_same, take_at hc, List.map_append]
    rfl
  · rintro D H2 hD ⟨p1, p2⟩
    rw [List.length_map, List.take_length] at p2
    refine ⟨D, A.map fun c => fit L c, rfl, SqL.of (by rw [p2, List.map_map]; rfl), _, rfl, ?_⟩
    have e1 : (A.map fun c => fit L c).all id = A.all fun c => fit L c := by
      rw [List.all_map]
      rfl
    cases e2 : (A.map fun c => fit L c).all id with
    | false =>
      have e : toldB A B L = false := by
        unfold toldB
        rw [← e1, e2]
        rfl
      rw [e] at q
      exact iteN (by decide) (q _ p1)
    | true =>
      refine iteP rfl ?_
      have hb2 := Same.sqA p1 hb
      have hl2 := Same.seqT p1 hl
      refine ⟨_, rfl, b, rfl, lc_sq hb2 (fun D i H5 => Same H2 H5 ∧ H5 D = some (.lst ((B.take i).map fun c => V.bl (fit L c)))) (fun D hD => ⟨Same.new hD, upd_same⟩) (fun D i H2 p => Ke.of p.1) ?_ ?_⟩
      · rintro D i x H2 hD hx ⟨p1, p2⟩
        obtain ⟨c, hc, rfl⟩ := map_at hx
        refine ⟨rfl, _, rfl, _, rfl, l, L, c, rfl, Same.seqT p1 hl2, h3, hL, fun H3 s3 => ⟨_, s3 _ _ p2, len_lt (by rw [List.length_map, List.length_take]; omega), Same.upd (Same.trans p1 s3) hD, ?_⟩⟩
        rw [upd_same, take_at hc, List.map_append]
        rfl
      · rintro D3 H4 hD3 ⟨p3, p4⟩
        rw [List.length_map, List.take_length] at p4
        refine ⟨D3, B.map fun c => fit L c, rfl, SqL.of (by rw [p4, List.map_map]; rfl), _, rfl, ?_⟩
        have e : (!(B.map fun c => fit L c).any id) = toldB A B L := by
          unfold toldB
          rw [← e1, e2, List.any_map]
          rfl
        rw [e]
        exact q _ (p1.trans p3)

def spIPL (K : PySem.W.Frag) (C : Addr) : Sp := fun vs H Q E => ∃ (v x y : V) (zs : Option (List V)), vs = [v, x, y] ∧ ValT K H y zs ∧ Tel K C H v x E fun A B => (isL zs = false → ∀ H', Same H H' → Q (.bl false) H') ∧ ∀ L : List Int, zs = some (L.map V.int) → Lot L → ∀ H', Same H H' → Q (.bl (toldB A B L)) H'
theorem lotGo_ints : ∀ {xs : List V} {ns : List Int}, Lot ns → lotGo ns xs = true → ∃ ms : List Int, xs = ms.map V.int ∧ Lot (ns ++ ms)
  | [], ns, h, _ => ⟨[], rfl, by rw [List.append_nil]; exact h⟩
  | x :: r, ns, h, e => by
    cases x with
    | int q =>
      have key : lotGo ns (.int q :: r) = if okNext ns q = true then lotGo (ns ++ [q]) r else false := rfl
      rw [key] at e
      by_cases z : okNext ns q = true
      · rw [if_pos z] at e
        obtain ⟨ms, rfl, hL⟩ := lotGo_ints (Lot.snoc h z) e
        exact ⟨q :: ms, rfl, by rw [List.append_assoc] at hL; exact hL⟩
      · rw [if_neg z] at e
        cases e
    | _ => cases e
theorem isL_ints {zs : Option (List V)} (h : isL zs = true) : ∃ L : List Int, zs = some (L.map V.int) ∧ Lot L := by
  cases zs with
  | none => cases h
  | some xs =>
    obtain ⟨ms, rfl, hL⟩ := lotGo_ints Lot.nil h
    exact ⟨ms, rfl, hL⟩
def sureV (A B : List Int) (n : Int) : V := if due A n then if posB (A ++ [n]) B = true then .non else .bl false else .bl true
def spSu (K : PySem.W.Frag) (C C2 : Addr) : Sp := fun vs H Q E => ∃ (v x : V) (n : Int), vs = [v, x, .int n] ∧ sm 120 n ∧ Tel K C H v x E fun A B => A.length ≤ 7 ∧ (posB A B = false → BadA C2 1 H E) ∧ (posB A B = true → ∀ H', Same H H' → Q (sureV A B n) H')
def spLIsLot (K : PySem.W.Frag) : Sp := fun vs H Q _ => ∃ (v : V) (ms : Option (List V)), vs = [v] ∧ ValT K H v ms ∧ ∀ H', Same H H' → Q (.bl (isL ms)) H'
end
end KV

/-! coarser lots, number after number -/
namespace KM
def cop (M : List Int) (q : Int) : Bool := M.all fun p => decide (Int.gcd p q = 1)
def addQ (Ls : List (List Int)) (q : Int) : List (List Int) := Ls ++ (Ls.filter fun M => cop M q).map fun M => M ++ [q]
def hitQ (L : List Int) (q : Int) : Bool := L.any fun p => decide (p % q = 0)
def cst (L : List Int) (Ls : List (List Int)) (q : Int) : List (List Int) := if hitQ L q = true then addQ Ls q else Ls
def cl (L : List Int) : Nat → List (List Int)
  | 0 => [[]]
  | k + 1 => cst L (cl L k) (3 + (k : Int))
theorem hitQ_iff {L : List Int} {q : Int} : hitQ L q = true ↔ ∃ p ∈ L, p % q = 0 := by
  unfold hitQ
  simp only [List.any_eq_true, decide_eq_true_eq]
theorem cop_iff {M : List Int} {q : Int} : cop M q = true ↔ ∀ p ∈ M, Int.gcd p q = 1 := by
  unfold cop
  simp only [List.all_eq_true, decide_eq_true_eq]
theorem cop_prd {M : List Int} {q : Int} : cop M q = decide (Int.gcd q (prd M) = 1) := by
  rw [Bool.eq_iff_iff, cop_iff, decide_eq_true_eq]
  constructor
  · exact fun h => gcd_prd fun n hn => by rw [Int.gcd_comm]; exact h n hn
  · exact fun h p hp => by rw [Int.gcd_comm]; exact gcd_prd_inv h p hp
theorem mem_cst {L : List Int} {Ls : List (List Int)} {q : Int} {M : List Int} : M ∈ cst L Ls q ↔ M ∈ Ls ∨ (hitQ L q = true ∧ ∃ N ∈ Ls, cop N q = true ∧ M = N ++ [q]) := by
  unfold cst addQ
  by_cases h : hitQ L q = true
  · rw [if_pos h, List.mem_append, List.mem_map]
    constructor
    · rintro (z | ⟨N, hN, rfl⟩)
      · exact .inl z
      · obtain ⟨a, b⟩ := List.mem_filter.mp hN
        exact .inr ⟨h, N, a, b, rfl⟩
    · rintro (z | ⟨_, N, a, b, rfl⟩)
      · exact .inl z
      · exact .inr ⟨N, List.mem_filter.mpr ⟨a, b⟩, rfl⟩
  · rw [if_neg h]
    exact ⟨.inl, fun z => z.resolve_right fun y => h y.1⟩
theorem cl_lot {L : List Int} : ∀ {k : Nat} {M : List Int}, M ∈ cl L k → Lot M ∧ (∀ q ∈ M, q < 3 + (k : Int)) ∧ ∀ q ∈ M, ∃ p ∈ L, q ∣ p
  | 0, M, h => by
    rw [show cl L 0 = [[]] from rfl, List.mem_singleton] at h
    subst h
    exact ⟨Lot.nil, fun q hq => by simp at hq, fun q hq => by simp at hq⟩
  | k + 1, M, h => by
    rcases mem_cst.mp h with z | ⟨hq, N, hN, hc, rfl⟩
    · obtain ⟨a, b, c⟩ := cl_lot z
      exact ⟨a, fun q hq => by have := b q hq; omega, c⟩
    · obtain ⟨a, b, c⟩ := cl_lot hN
      obtain ⟨p, hp, d⟩ := hitQ_iff.mp hq
      refine ⟨⟨fun n hn => ?_, ?_, ?_⟩, fun q hq => ?_, fun q hq => ?_⟩
      · rcases List.mem_append.mp hn with y | y
        · exact a.ge n y
        · rw [List.mem_singleton] at y
          omega
      · refine List.pairwise_append.mpr ⟨a.lt, List.pairwise_singleton .., fun x hx y hy => ?_⟩
        rw [List.mem_singleton] at hy
        have := b x hx
        omega
      · refine List.pairwise_append.mpr ⟨a.co, List.pairwise_singleton .., fun x hx y hy => ?_⟩
        rw [List.mem_singleton] at hy
        subst hy
        exact cop_iff.mp hc x hx
      · rcases List.mem_append.mp hq with y | y
        · have := b q y
          omega
        · rw [List.mem_singleton] at y
          omega
      · rcases List.mem_append.mp hq with y | y
        · exact c q y
        · rw [List.mem_singleton] at y
          subst y
          exact ⟨p, hp, Int.dvd_of_emod_eq_zero d⟩
theorem filt_next : ∀ {M : List Int} {k : Int}, M.Pairwise (fun a b => a < b) → M.filter (fun q => decide (q < k + 1)) = M.filter (fun q => decide (q < k)) ++ if k ∈ M then [k] else []
  | [], k, _ => by simp
  | m :: r, k, h => by
    obtain ⟨h1, h2⟩ := List.pairwise_cons.mp h
    have ih := filt_next (k := k) h2
    have none_of : ∀ j : Int, (∀ x ∈ r, j ≤ x) → r.filter (fun q => decide (q < j)) = [] := fun j hj => List.filter_eq_nil_iff.mpr fun x hx => by
      have := hj x hx
      simp; omega
    rcases Int.lt_trichotomy m k with z | z | z
    · rw [List.filter_cons_of_pos (by simp; omega), List.filter_cons_of_pos (by simp; omega), ih, List.cons_append]
      have e : (k ∈ m :: r) ↔ k ∈ r := by
        rw [List.mem_cons]
        exact ⟨fun y => y.resolve_left (by omega), .inr⟩
      by_cases y : k ∈ r
      · rw [if_pos y, if_pos (e.mpr y)]
      · rw [if_neg y, if_neg (fun x => y (e.mp x))]
    · subst z
      rw [List.filter_cons_of_pos (by simp; omega), List.filter_cons_of_neg (by simp), none_of _ (fun x hx => by have := h1 x hx; omega), none_of _ (fun x hx => by have := h1 x hx; omega), if_pos (by simp)]
      rfl
    · rw [List.filter_cons_of_neg (by simp; omega), List.filter_cons_of_neg (by simp; omega), none_of _ (fun x hx => by have := h1 x hx; omega), none_of _ (fun x hx => by have := h1 x hx; omega), if_neg]
      · rfl
      · intro y
        rcases List.mem_cons.mp y with y | y
        · omega
        · have := h1 k y
          omega
theorem cl_mem {L M : List Int} (hM : Lot M) (hc : ∀ q ∈ M, ∃ p ∈ L, q ∣ p) : ∀ k : Nat, M.filter (fun q => decide (q < 3 + (k : Int))) ∈ cl L k
  | 0 => by
    rw [List.filter_eq_nil_iff.mpr fun q hq => by have := hM.ge q hq; simp; omega]
    exact List.mem_singleton.mpr rfl
  | k + 1 => by
    have ih := cl_mem hM hc k
    have e : (3 + ((k + 1 : Nat) : Int)) = 3 + (k : Int) + 1 := by omega
    rw [e, filt_next hM.lt]
    by_cases y : 3 + (k : Int) ∈ M
    · rw [if_pos y]
      obtain ⟨p, hp, d⟩ := hc _ y
      refine mem_cst.mpr (.inr ⟨hitQ_iff.mpr ⟨p, hp, Int.emod_eq_zero_of_dvd d⟩, _, ih, cop_iff.mpr fun x hx => ?_, rfl⟩)
      obtain ⟨hx, lx⟩ := List.mem_filter.mp hx
      have lx : x < 3 + (k : Int) := of_decide_eq_true lx
      obtain ⟨i, hi, ei⟩ := List.mem_iff_getElem.mp hx
      obtain ⟨j, hj, ej⟩ := List.mem_iff_getElem.mp y
      rcases Nat.lt_trichotomy i j with z | z | z
      · have := List.pairwise_iff_getElem.mp hM.co i j hi hj z
        rw [ei, ej] at this
        exact this
      · subst z
        rw [ei] at ej
        omega
      · have := List.pairwise_iff_getElem.mp hM.lt j i hj hi z
        rw [ei, ej] at this
        omega
    · rw [if_neg y, List.append_nil]
      exact mem_cst.mpr (.inl ih)
theorem cl_all {L M : List Int} {k : Nat} (hM : Lot M) (hc : ∀ q ∈ M, ∃ p ∈ L, q ∣ p) (hk : ∀ p ∈ L, 0 < p ∧ p < 3 + (k : Int)) : M ∈ cl L k := by
  have := cl_mem hM hc k
  rw [List.filter_eq_self.mpr fun q hq => by
    obtain ⟨p, hp, d⟩ := hc q hq
    obtain ⟨p0, p1⟩ := hk p hp
    have := Int.le_of_dvd p0 d
    simp; omega] at this
  exact this
theorem cl_stab {L : List Int} {k : Nat} (hk : ∀ p ∈ L, 0 < p ∧ p < 3 + (k : Int)) : ∀ i, cl L (k + i) = cl L k
  | 0 => rfl
  | i + 1 => by
    show cst L (cl L (k + i)) (3 + ((k + i : Nat) : Int)) = _
    rw [cl_stab hk i]
    unfold cst
    rw [if_neg]
    intro z
    obtain ⟨p, hp, e⟩ := hitQ_iff.mp z
    obtain ⟨p0, p1⟩ := hk p hp
    rw [Int.emod_eq_of_lt (by omega) (by omega)] at e
    omega
theorem cl_same {L : List Int} {k j : Nat} (hk : ∀ p ∈ L, 0 < p ∧ p < 3 + (k : Int)) (hj : ∀ p ∈ L, 0 < p ∧ p < 3 + (j : Int)) : cl L k = cl L j := by
  rcases Nat.le_total k j with z | z
  · obtain ⟨i, rfl⟩ := Nat.le.dest z
    exact (cl_stab hk i).symm
  · obtain ⟨i, rfl⟩ := Nat.le.dest z
    exact cl_stab hj i
theorem cst_len {L : List Int} {Ls : List (List Int)} {q : Int} : Ls.length ≤ (cst L Ls q).length := by
  unfold cst addQ
  split
  · rw [List.length_append]; omega
  · exact Nat.le_refl _
theorem cl_le {L : List Int} (k : Nat) : ∀ i, (cl L k).length ≤ (cl L (k + i)).length
  | 0 => Nat.le_refl _
  | i + 1 => Nat.le_trans (cl_le k i) cst_len
theorem cl_head (L : List Int) : ∀ k, ∃ r, cl L k = [] :: r ∧ ∀ M ∈ r, M ≠ []
  | 0 => ⟨[], rfl, fun M h => by simp at h⟩
  | k + 1 => by
    obtain ⟨r, e, h⟩ := cl_head L k
    by_cases z : hitQ L (3 + (k : Int)) = true
    · refine ⟨r ++ ((cl L k).filter fun M => cop M (3 + (k : Int))).map fun M => M ++ [3 + (k : Int)], ?_, fun M hM => ?_⟩
      · show cst L (cl L k) _ = _
        unfold cst addQ
        rw [if_pos z, ← List.cons_append, ← e]
      · rcases List.mem_append.mp hM with y | y
        · exact h M y
        · obtain ⟨N, _, rfl⟩ := List.mem_map.mp y
          simp
    · refine ⟨r, ?_, h⟩
      show cst L (cl L k) _ = _
      unfold cst
      rw [if_neg z, e]
/-- the divisors alone -/
theorem cl_fold (L : List Int) : ∀ k, cl L k = ((List.range k).filter fun (i : Nat) => hitQ L (3 + (i : Int))).foldl (fun Ls (i : Nat) => addQ Ls (3 + (i : Int))) [[]]
  | 0 => rfl
  | k + 1 => by
    rw [List.range_succ, List.filter_append, List.foldl_append, ← cl_fold L k]
    show cst L (cl L k) (3 + (k : Int)) = _
    unfold cst
    by_cases z : hitQ L (3 + (k : Int)) = true
    · rw [if_pos z, List.filter_cons_of_pos (p := fun (i : Nat) => hitQ L (3 + (i : Int))) z]
      rfl
    · rw [if_neg z, List.filter_cons_of_neg (p := fun (i : Nat) => hitQ L (3 + (i : Int))) z]
      rfl
theorem addQ_len {Ls : List (List Int)} {q : Int} : (addQ Ls q).length ≤ 2 * Ls.length := by
  unfold addQ
  rw [List.length_append, List.length_map]
  have := List.length_filter_le (fun M => cop M q) Ls
  omega
theorem fold_len : ∀ (is : List Nat) (Ls : List (List Int)), (is.foldl (fun Ls (i : Nat) => addQ Ls (3 + (i : Int))) Ls).length ≤ 2 ^ is.length * Ls.length
  | [], Ls => by simp
  | i :: r, Ls => by
    rw [List.foldl_cons, List.length_cons]
    refine Nat.le_trans (fold_len r _) ?_
    have h : 2 ^ r.length * (addQ Ls (3 + (i : Int))).length ≤ 2 ^ r.length * (2 * Ls.length) := Nat.mul_le_mul_left _ addQ_len
    rw [Nat.pow_succ, Nat.mul_assoc]
    exact h
theorem few_div : ∀ W : Fin 90, 0 < W.val → ((List.range 88).filter fun i => decide (W.val % (3 + i) = 0)).length ≤ 10 := by decide +kernel
theorem cl_few {L : List Int} {W : Nat} (h0 : 0 < W) (h1 : W < 90) (hd : ∀ p ∈ L, p ∣ (W : Int)) : (cl L 88).length ≤ 1024 := by
  rw [cl_fold]
  refine Nat.le_trans (fold_len _ _) ?_
  have e : ((List.range 88).filter fun (i : Nat) => hitQ L (3 + (i : Int))).length ≤ ((List.range 88).filter fun i => decide (W % (3 + i) = 0)).length := by
    rw [← List.countP_eq_length_filter, ← List.countP_eq_length_filter]
    refine List.countP_mono_left fun i _ hi => ?_
    obtain ⟨p, hp, z⟩ := hitQ_iff.mp hi
    have d : (3 + (i : Int)) ∣ (W : Int) := Int.dvd_trans (Int.dvd_of_emod_eq_zero z) (hd p hp)
    have e : (3 + (i : Int)) = ((3 + i : Nat) : Int) := by omega
    rw [e] at d
    exact decide_eq_true (Nat.mod_eq_zero_of_dvd (Int.natCast_dvd_natCast.mp d))
  have f := few_div ⟨W, h1⟩ h0
  have g : ((List.range 88).filter fun (i : Nat) => hitQ L (3 + (i : Int))).length ≤ 10 := Nat.le_trans e f
  have := Nat.pow_le_pow_right (show 0 < 2 by decide) g
  show 2 ^ _ * 1 ≤ 1024
  omega
/-! the order of lists -/
theorem lex_anti : ∀ a b : List Int, HT.lexLt a b = false → HT.lexLt b a = false → a = b
  | [], [], _, _ => rfl
  | [], y :: ys, h, _ => by rw [HT.lexLt_nil_cons] at h; cases h
  | x :: xs, [], _, h => by rw [HT.lexLt_nil_cons] at h; cases h
  | x :: xs, y :: ys, h1, h2 => by
    rw [HT.lexLt_cons] at h1 h2
    by_cases e : x = y
    · subst e
      rw [if_pos rfl] at h1 h2
      rw [lex_anti xs ys h1 h2]
    · rw [if_neg e] at h1
      rw [if_neg (Ne.symm e)] at h2
      have := of_decide_eq_false h1
      have := of_decide_eq_false h2
      omega
def LexS (l : List (List Int)) : Prop := l.Pairwise fun a b => HT.lexLt b a = false
theorem lexS_eq {A B : List (List Int)} (p : A.Perm B) (ha : LexS A) (hb : LexS B) : A = B := p.eq_of_pairwise (fun a b _ _ h1 h2 => lex_anti a b h2 h1) ha hb
/-! what the coarser lots tell -/
def freeB (B : List Int) (M : List Int) : Bool := B.all fun n => !fit M n
theorem freeB_iff {B M : List Int} : freeB B M = true ↔ ∀ n ∈ B, fit M n = false := by
  unfold freeB
  simp only [List.all_eq_true, Bool.not_eq_true']
theorem fit_not {M : List Int} {n : Int} : fit M n = false ↔ ∃ q ∈ M, 1 < n % q := by
  rw [← Bool.not_eq_true, fit_iff]
  constructor
  · intro h
    refine Classical.byContradiction fun z => h fun q hq => ?_
    refine Classical.byContradiction fun y => z ⟨q, hq, by omega⟩
  · rintro ⟨q, hq, z⟩ h
    have := h q hq
    omega
section
open KV
variable {A L M : List Int} {k : Nat}
theorem cl_op (h : LotJ A (some L)) (hM : M ∈ cl L k) : ∀ q ∈ M, 3 ≤ q ∧ Op A q := fun q hq => by
  obtain ⟨a, _, c⟩ := cl_lot hM
  exact ⟨a.ge q hq, (lotJ_ops h (a.ge q hq)).mpr (c q hq)⟩
theorem cl_fitA (h : LotJ A (some L)) (hM : M ∈ cl L k) : ∀ n ∈ A, fit M n = true := fun n hn => fit_iff.mpr fun q hq => by
  have := (cl_op h hM q hq).2 n hn
  omega
theorem cl_self (hL : Lot L) (hk : ∀ p ∈ L, 0 < p ∧ p < 3 + (k : Int)) : L ∈ cl L k := cl_all hL (fun q hq => ⟨q, hq, Int.dvd_refl q⟩) hk
theorem cl_fitL {n : Int} (hM : M ∈ cl L k) (hf : fit L n = true) (h : LotJ A (some L)) : fit M n = true := by
  refine Classical.byContradiction fun z => ?_
  obtain ⟨q, hq, z⟩ := fit_not.mp (Bool.not_eq_true _ ▸ z)
  obtain ⟨a, b⟩ := cl_op h hM q hq
  have := (lotJ_due h).mp (due_isD.mpr ⟨q, a, b, z⟩)
  rw [hf] at this
  cases this
theorem cl_pos {B : List Int} (h : LotJ A (some L)) (hk : ∀ p ∈ L, 0 < p ∧ p < 3 + (k : Int)) : posB A B = true ↔ ∃ M ∈ cl L k, freeB B M = true := by
  unfold posB
  rw [decide_eq_true_eq]
  constructor
  · exact fun z => ⟨L, cl_self (lotJ_lot h) hk, freeB_iff.mpr fun n hn => (lotJ_due h).mp (z n hn)⟩
  · rintro ⟨M, hM, z⟩ n hn
    obtain ⟨q, hq, y⟩ := fit_not.mp (freeB_iff.mp z n hn)
    obtain ⟨a, b⟩ := cl_op h hM q hq
    exact due_isD.mpr ⟨q, a, b, y⟩
theorem cl_told {B : List Int} (h : LotJ A (some L)) (hM : M ∈ cl L k) : toldB A B M = freeB B M := by
  rw [Bool.eq_iff_iff, toldB_iff, freeB_iff]
  exact ⟨fun z => z.2, fun z => ⟨cl_fitA h hM, z⟩⟩
theorem cl_sure {n : Int} {B : List Int} (h : LotJ A (some L)) (hk : ∀ p ∈ L, 0 < p ∧ p < 3 + (k : Int)) (hp : posB A B = true) : ¬ due A n ↔ ∀ M ∈ cl L k, freeB B M = true → fit M n = true := by
  rw [lotJ_due h, Bool.not_eq_false]
  constructor
  · exact fun z M hM _ => cl_fitL hM z h
  · exact fun z => z L (cl_self (lotJ_lot h) hk) (freeB_iff.mpr fun m hm => (lotJ_due h).mp (of_decide_eq_true hp m hm))
theorem cl_maybe {n : Int} {B : List Int} (h : LotJ A (some L)) (hk : ∀ p ∈ L, 0 < p ∧ p < 3 + (k : Int)) (hd : due A n) : posB (A ++ [n]) B = true ↔ ∃ M ∈ cl L k, freeB B M = true ∧ fit M n = true := by
  have np : ¬ pln n := fun z => due_plain z hd
  constructor
  · intro hp
    have hR := LotJ.next (R := (comF L (ones n)).mergeSort fun a b => decide (a ≤ b)) h np (List.Perm.refl _) (List.mergeSort_perm _ _) (sortI_le _)
    have lR := lotJ_lot hR
    have o : ∀ q ∈ (comF L (ones n)).mergeSort fun a b => decide (a ≤ b), Op (A ++ [n]) q := fun q hq => (lotJ_ops hR (lR.ge q hq)).mpr ⟨q, hq, Int.dvd_refl q⟩
    refine ⟨_, cl_all lR (fun q hq => (lotJ_ops h (lR.ge q hq)).mp (op_app.mp (o q hq)).1) hk, freeB_iff.mpr fun m hm => (lotJ_due hR).mp (of_decide_eq_true hp m hm), fit_iff.mpr fun q hq => ?_⟩
    have := (op_app.mp (o q hq)).2 n (List.mem_singleton.mpr rfl)
    omega
  · rintro ⟨M, hM, z, f⟩
    refine decide_eq_true fun m hm => ?_
    obtain ⟨q, hq, y⟩ := fit_not.mp (freeB_iff.mp z m hm)
    obtain ⟨a, b⟩ := cl_op h hM q hq
    refine due_isD.mpr ⟨q, a, op_app.mpr ⟨b, fun x hx => ?_⟩, y⟩
    rw [List.mem_singleton] at hx
    subst hx
    have := fit_iff.mp f q hq
    omega
end
end KM

/-! the first question that divides lots best -/
namespace KM
open KV
def manyQ (Ls : List (List Int)) (n : Int) : Nat := (Ls.filter fun M => fit M n).length
def leftQ (Ls : List (List Int)) (n : Int) : Nat := max (manyQ Ls n) (Ls.length - manyQ Ls n)
def bst (Ls : List (List Int)) : Nat → Option Int × Nat
  | 0 => (none, Ls.length)
  | k + 1 => if leftQ Ls (k : Int) < (bst Ls k).2 then (some (k : Int), leftQ Ls (k : Int)) else bst Ls k
theorem leftQ_half (Ls : List (List Int)) (n : Int) : Ls.length ≤ 2 * leftQ Ls n := by
  have := List.length_filter_le (fun M => fit M n) Ls
  unfold leftQ manyQ
  omega
theorem bst_next (Ls : List (List Int)) (k : Nat) : (bst Ls (k + 1)).2 ≤ (bst Ls k).2 ∧ (bst Ls (k + 1)).2 ≤ leftQ Ls (k : Int) := by
  show (if leftQ Ls (k : Int) < (bst Ls k).2 then (some (k : Int), leftQ Ls (k : Int)) else bst Ls k).2 ≤ _ ∧ _
  by_cases h : leftQ Ls (k : Int) < (bst Ls k).2
  · rw [if_pos h]
    exact ⟨Nat.le_of_lt h, by show (if _ then _ else _ : Option Int × Nat).2 ≤ _; rw [if_pos h]; exact Nat.le_refl _⟩
  · rw [if_neg h]
    exact ⟨Nat.le_refl _, by show (if _ then _ else _ : Option Int × Nat).2 ≤ _; rw [if_neg h]; omega⟩
theorem bst_le (Ls : List (List Int)) : ∀ k i : Nat, i < k → (bst Ls k).2 ≤ leftQ Ls (i : Int)
  | k + 1, i, h => by
    obtain ⟨a, b⟩ := bst_next Ls k
    by_cases e : i = k
    · rw [e]
      exact b
    · have := bst_le Ls k i (by omega)
      omega
theorem bst_none (Ls : List (List Int)) : ∀ k, (bst Ls k).1 = none → (bst Ls k).2 = Ls.length
  | 0, _ => rfl
  | k + 1, h => by
    change (if leftQ Ls (k : Int) < (bst Ls k).2 then (some (k : Int), leftQ Ls (k : Int)) else bst Ls k).1 = none at h
    show (if leftQ Ls (k : Int) < (bst Ls k).2 then (some (k : Int), leftQ Ls (k : Int)) else bst Ls k).2 = _
    by_cases z : leftQ Ls (k : Int) < (bst Ls k).2
    · rw [if_pos z] at h
      cases h
    · rw [if_neg z] at h ⊢
      exact bst_none Ls k h
theorem bst_stop {Ls : List (List Int)} {k : Nat} (h : ∀ i : Nat, k ≤ i → (bst Ls k).2 ≤ leftQ Ls (i : Int)) : ∀ j, bst Ls (k + j) = bst Ls k
  | 0 => rfl
  | j + 1 => by
    have ih := bst_stop h j
    show (if leftQ Ls ((k + j : Nat) : Int) < (bst Ls (k + j)).2 then (some ((k + j : Nat) : Int), leftQ Ls ((k + j : Nat) : Int)) else bst Ls (k + j)) = _
    rw [ih, if_neg]
    have := h (k + j) (by omega)
    omega
/-- who halves the lots is best -/
theorem bst_half {Ls : List (List Int)} {k : Nat} (h : (bst Ls k).2 * 2 ≤ Ls.length + 1) (j : Nat) : bst Ls (k + j) = bst Ls k := bst_stop (fun i _ => by
  have := leftQ_half Ls (i : Int)
  omega) j
theorem fit_per {M : List Int} {P n : Int} (h : ∀ q ∈ M, q ∣ P) : fit M (n % P) = fit M n := by
  rw [Bool.eq_iff_iff, fit_iff, fit_iff]
  constructor
  · intro z q hq
    have := z q hq
    rw [Int.emod_emod_of_dvd _ (h q hq)] at this
    exact this
  · intro z q hq
    rw [Int.emod_emod_of_dvd _ (h q hq)]
    exact z q hq
theorem leftQ_per {Ls : List (List Int)} {P n : Int} (h : ∀ M ∈ Ls, ∀ q ∈ M, q ∣ P) : leftQ Ls (n % P) = leftQ Ls n := by
  have e : manyQ Ls (n % P) = manyQ Ls n := by
    unfold manyQ
    rw [List.filter_congr fun M hM => fit_per (h M hM)]
  unfold leftQ
  rw [e]
/-- it hangs on what is left by any common multiple -/
theorem bst_per {Ls : List (List Int)} {P : Nat} (hP : 0 < P) (h : ∀ M ∈ Ls, ∀ q ∈ M, q ∣ (P : Int)) (j : Nat) : bst Ls (P + j) = bst Ls P := bst_stop (fun i _ => by
  have a := bst_le Ls P (i % P) (Nat.mod_lt _ hP)
  have b := leftQ_per (n := (i : Int)) h
  rw [Int.natCast_emod] at a
  rw [b] at a
  exact a) j
/-! two lots that the same integers fit -/
theorem bez (a b : Nat) : ∃ x y : Int, x * (a : Int) + y * (b : Int) = (Nat.gcd a b : Int) := by
  induction a, b using Nat.gcd.induction with
  | H0 n => exact ⟨0, 1, by simp⟩
  | H1 m n h ih =>
    obtain ⟨x, y, e⟩ := ih
    refine ⟨y - x * ((n / m : Nat) : Int), x, ?_⟩
    rw [Nat.gcd_rec m n, ← e]
    have d : ((n % m : Nat) : Int) = (n : Int) - (m : Int) * ((n / m : Nat) : Int) := by
      have := Nat.mod_add_div n m
      have e2 : ((n % m + m * (n / m) : Nat) : Int) = (n : Int) := by rw [this]
      rw [Int.natCast_add, Int.natCast_mul] at e2
      omega
    rw [d, Int.sub_mul, Int.mul_sub]
    have c1 : x * ((n / m : Nat) : Int) * (m : Int) = x * ((m : Int) * ((n / m : Nat) : Int)) := by rw [Int.mul_assoc, Int.mul_comm ((n / m : Nat) : Int)]
    rw [c1]
    omega
theorem lot_sep {M : List Int} (hM : Lot M) {i : Nat} (hi : i < M.length) : ∃ e : Int, M[i] ∣ e - 1 ∧ ∀ j (hj : j < M.length), j ≠ i → M[j] ∣ e := by
  have nth : ∀ j (hj : j < M.length), j ≠ i → Int.gcd M[i] M[j] = 1 := fun j hj ne => by
    rcases Nat.lt_trichotomy i j with z | z | z
    · exact List.pairwise_iff_getElem.mp hM.co i j hi hj z
    · exact absurd z.symm ne
    · rw [Int.gcd_comm]
      exact List.pairwise_iff_getElem.mp hM.co j i hj hi z
  have g1 : Int.gcd M[i] (prd (M.take i)) = 1 := gcd_prd fun n hn => by
    obtain ⟨j, hj, rfl⟩ := List.mem_iff_getElem.mp hn
    rw [List.length_take] at hj
    rw [List.getElem_take]
    exact nth j (by omega) (by omega)
  have g2 : Int.gcd M[i] (prd (M.drop (i + 1))) = 1 := gcd_prd fun n hn => by
    obtain ⟨j, hj, rfl⟩ := List.mem_iff_getElem.mp hn
    rw [List.length_drop] at hj
    rw [List.getElem_drop]
    exact nth _ (by omega) (by omega)
  have g := gcd_mul_one g1 g2
  obtain ⟨x, y, e⟩ := bez M[i].natAbs (prd (M.take i) * prd (M.drop (i + 1))).natAbs
  have e0 : (Nat.gcd M[i].natAbs (prd (M.take i) * prd (M.drop (i + 1))).natAbs : Int) = 1 := by
    have : Nat.gcd M[i].natAbs (prd (M.take i) * prd (M.drop (i + 1))).natAbs = 1 := g
    rw [this]
    rfl
  rw [e0] at e
  refine ⟨y * ((prd (M.take i) * prd (M.drop (i + 1))).natAbs : Int), ?_, fun j hj ne => ?_⟩
  · have d : y * ((prd (M.take i) * prd (M.drop (i + 1))).natAbs : Int) - 1 = -(x * (M[i].natAbs : Int)) := by omega
    rw [d]
    exact Int.dvd_neg.mpr (Int.dvd_trans (Int.dvd_natAbs.mpr (Int.dvd_refl _)) (Int.dvd_mul_left _ _))
  · refine Int.dvd_trans (Int.dvd_natAbs.mpr ?_) (Int.dvd_mul_left _ _)
    by_cases z : j < i
    · refine Int.dvd_trans (dvd_prd ?_) (Int.dvd_mul_right _ _)
      exact List.mem_iff_getElem.mpr ⟨j, by rw [List.length_take]; omega, by rw [List.getElem_take]⟩
    · refine Int.dvd_trans (dvd_prd ?_) (Int.dvd_mul_left _ _)
      refine List.mem_iff_getElem.mpr ⟨j - (i + 1), by rw [List.length_drop]; omega, ?_⟩
      rw [List.getElem_drop]
      congr 1
      omega
theorem fits_coarser {M N : List Int} (hM : Lot M) (hN : Lot N) (h : ∀ n, fit M n = true → fit N n = true) : ∀ q ∈ N, ∃ m ∈ M, q ∣ m := by
  obtain ⟨f, hf⟩ := Classical.axiomOfChoice (r := fun (i : Nat) (e : Int) => ∀ hi : i < M.length, M[i] ∣ e - 1 ∧ ∀ j (hj : j < M.length), j ≠ i → M[j] ∣ e) fun i => by
    by_cases hi : i < M.length
    · obtain ⟨e, he⟩ := lot_sep hM hi
      exact ⟨e, fun _ => he⟩
    · exact ⟨0, fun z => absurd z hi⟩
  have all : ∀ c ∈ prd M :: (prd M + 1) :: (List.range M.length).map f, ∀ m ∈ M, m ∣ c ∨ m ∣ c - 1 := by
    intro c hc m hm
    rcases List.mem_cons.mp hc with rfl | hc
    · exact .inl (dvd_prd hm)
    rcases List.mem_cons.mp hc with rfl | hc
    · refine .inr ?_
      rw [Int.add_sub_cancel]
      exact dvd_prd hm
    obtain ⟨i, hi, rfl⟩ := List.mem_map.mp hc
    have hi := List.mem_range.mp hi
    obtain ⟨j, hj, rfl⟩ := List.mem_iff_getElem.mp hm
    obtain ⟨a, b⟩ := hf i hi
    by_cases z : j = i
    · subst z
      exact .inr a
    · exact .inl (b j hj z)
  have t : Tells (prd M :: (prd M + 1) :: (List.range M.length).map f) M := tells_mk hM (by simp) (by simp) all fun i j hi hj ne => by
    obtain ⟨a, b⟩ := hf i hi
    exact ⟨f i, List.mem_cons_of_mem _ (List.mem_cons_of_mem _ (List.mem_map.mpr ⟨i, List.mem_range.mpr hi, rfl⟩)), .inl ⟨a, b j hj (Ne.symm ne)⟩⟩
  intro q hq
  refine (t.2 q (hN.ge q hq)).mp fun c hc => ?_
  have := fit_iff.mp (h c (fit_iff.mpr fun m hm => by
    have := open_mod (all c hc m hm) (hM.ge m hm)
    omega)) q hq
  omega
theorem fits_eq {M N : List Int} (hM : Lot M) (hN : Lot N) (h : ∀ n, fit M n = true ↔ fit N n = true) : M = N := by
  refine lot_eq hM.co hN.co (fun a ha => by have := hM.ge a ha; omega) (fun a ha => by have := hN.ge a ha; omega) (hM.lt.imp fun z => Int.le_of_lt z) (hN.lt.imp fun z => Int.le_of_lt z) fun k hk => ⟨?_, ?_⟩
  · rintro ⟨a, ha, d⟩
    obtain ⟨b, hb, e⟩ := fits_coarser hN hM (fun n => (h n).mpr) a ha
    exact ⟨b, hb, Int.dvd_trans d e⟩
  · rintro ⟨a, ha, d⟩
    obtain ⟨b, hb, e⟩ := fits_coarser hM hN (fun n => (h n).mp) a ha
    exact ⟨b, hb, Int.dvd_trans d e⟩
/-- where there are two lots, some question divides them -/
theorem bst_some {Ls : List (List Int)} {M N : List Int} (hM : M ∈ Ls) (hN : N ∈ Ls) (ne : M ≠ N) (hL : ∀ L ∈ Ls, Lot L) {P : Nat} (hP : 0 < P) (h : ∀ M ∈ Ls, ∀ q ∈ M, q ∣ (P : Int)) : (bst Ls P).1 ≠ none := by
  intro z
  have e := bst_none Ls P z
  have l0 : 0 < Ls.length := List.length_pos_of_mem hM
  have two : ∀ n : Int, manyQ Ls n = 0 ∨ manyQ Ls n = Ls.length := fun n => by
    have i0 : 0 ≤ n % (P : Int) := Int.emod_nonneg _ (by omega)
    have i1 : n % (P : Int) < (P : Int) := Int.emod_lt_of_pos _ (by omega)
    have a := bst_le Ls P (n % (P : Int)).toNat (by omega)
    have e2 : (((n % (P : Int)).toNat : Nat) : Int) = n % (P : Int) := by omega
    rw [e2, leftQ_per h, e] at a
    have := List.length_filter_le (fun M => fit M n) Ls
    unfold leftQ at a
    unfold manyQ at a ⊢
    omega
  have one : ∀ {M N : List Int}, M ∈ Ls → N ∈ Ls → ∀ n, fit M n = true → fit N n = true := fun {M N} hM hN n hf => by
    have m1 : M ∈ Ls.filter fun M => fit M n := List.mem_filter.mpr ⟨hM, hf⟩
    have m2 : 0 < manyQ Ls n := List.length_pos_of_mem m1
    have m3 : (Ls.filter fun M => fit M n).length = Ls.length := (two n).resolve_left (by omega)
    exact List.length_filter_eq_length_iff.mp m3 N hN
  exact ne (fits_eq (hL M hM) (hL N hN) fun n => ⟨one hM hN n, one hN hM n⟩)
end KM

/-! the law: its own lots, parts, coarser, what tells -/
namespace KV
open PySem PySem.Spec PyProof.Rows L2 KM
theorem lfs_take_len {ns : List Int} (hl : ns.length ≤ 10) (i : Nat) : (lfs (ns.take i)).length ≤ 1024 :=
  Nat.le_trans (lfs_len _) (Nat.pow_le_pow_right (show 0 < 2 by decide) (show (ns.take i).length ≤ 10 from Nat.le_trans (List.length_take_le' i ns) hl))
section
variable {P : Program} {w : World} {K : PySem.W.Frag} {mg : Str → Option Value} {base : Heap}
def spPa (K : PySem.W.Frag) : Sp := fun vs H Q _ => ∃ (a : Addr) (ns : List Int), vs = [.ref a] ∧ SqA K H a (ns.map V.int) ∧ ns.length ≤ 10 ∧ ∀ (p : Addr) (s : List Int) (H' : Hp), Same H H' → H p = none → H' p = some (.lst (s.map V.int)) → s.Perm (lfs ns) → s.Pairwise (· ≤ ·) → Q (.ref p) H'
theorem sc34 : FnScope ["_law_counts", "_law_found", "_law_n", "_law_longer", "_law_one"] ["_law_counts"] (defScope (top 34)) := ⟨rfl, rfl, rfl, by decide +kernel, rfl, by decide +kernel, by decide +kernel⟩
theorem ok_pa {f : Addr} {fd : FuncData} (B : Bl mg) (CD : Cal P w K mg base CX0 1 "_law_divisor" ["_law_one", "_law_other"] spDiv) (F : Fun K "_law_parts" "_law_parts" (top 34) f fd) : FnOk P w K mg base CX0 2 f fd ["_law_counts"] (spPa K) := by
  refine F.ok sc34 (fun vs H Q E h => ?_) (fun cdv A outer s H vs Q E hr h => ⟨_,
    (pss_cons (ps_set (i := 1) sc34.nd rfl (.inl rfl) (pe_lst (pa_cons pe_int pa_nil)))
    (pss_cons (ps_for PassesOwn.never rfl (pi_sq (pv 0)) (pg_name (i := 2) sc34.nd rfl (.inl rfl)) (pss_cons (ps_set (i := 3) sc34.nd rfl (.inl rfl) (pe_lst pa_nil))
    (pss_cons (ps_for PassesOwn.never rfl (pi_list (pv 1)) (pg_name (i := 4) sc34.nd rfl (.inl rfl)) (pss_one (ps_set (i := 3) sc34.nd rfl (.inl rfl) (pe_op op_cat (pv 3) (pe_lst (pa_cons (by exact (pe_cal (X := L2.Cx.nox _) CD hr (by decide) (pa_cons (pe_callB call_abs (by rfl) B.abs (by decide +kernel) (pa_cons (pv 2) pa_nil)) (pa_cons (pv 4) pa_nil)))) (pa_cons (by exact (pe_cal (X := L2.Cx.nox _) CD hr (by decide) (pa_cons (pe_callB call_abs (by rfl) B.abs (by decide +kernel) (pa_cons (pe_op op_sub (pv 2) pe_int) pa_nil)) (pa_cons (pv 4) pa_nil)))) pa_nil)))))))
    (pss_one (ps_setLc (i := 1) (own := [("_law_one", 4)]) (g := gName 4) rfl sc34.nd rfl rfl (sw_true rfl rfl rfl (by decide +kernel)) (pi_list (pv 3)) (blkOk_by (N := ["_law_counts", "_law_found", "_law_n", "_law_longer", "_law_one"]) (sc := defScope (top 34)) (by decide +kernel))
        (fun _ _ _ _ _ => (pg_name (i := 4) sc34.nd rfl (Or.inl rfl))) (fun _ _ _ _ _ => (pts_one (PW.pt (pw_or (pt_cmpR op_eq (pv 4) pe_int (nomark _)) (pw_or1 (pt_cmpR op_gt (pv 4) pe_int (nomark _))))))) (fun _ _ _ _ _ => (pv 4)))))))
    (pss_one (ps_ret (pe_callB cr_sortedI (by rfl) B.sorted (by decide +kernel) (pa_cons (pv 1) pa_nil)))))), ?_⟩)
  · obtain ⟨a, ns, rfl, _⟩ := h
    rfl
  obtain ⟨a, ns, rfl, hS, hl, q⟩ := h
  refine ⟨(by show 1 ≤ sizeLine; decide), fun fl hf => ?_⟩
  have f1 : upd H fl (.lst [.int 0]) fl = some (.lst ((lfs []).map V.int)) := upd_same
  have s1 : Same H (upd H fl (.lst [.int 0])) := Same.new hf
  dsimp only [gName]
  generalize upd H fl (.lst [.int 0]) = H1 at f1 s1
  have hS1 := Same.sqA s1 hS
  refine ⟨_, rfl, a, rfl, for_sq hS1 (fun i σ H' => Same H1 H' ∧ ∃ (fl : Addr) (v2 v3 v4 : Option V), σ = [some (.ref a), some (.ref fl), v2, v3, v4] ∧ H' fl = some (.lst ((lfs (ns.take i)).map V.int))) ⟨Same.refl H1, fl, none, none, none, rfl, f1⟩ (fun i σ H' _ p => Ke.of p.1) ?_ ?_⟩
  · rintro i x σ H2 hx ⟨s2, fl, v2, v3, v4, rfl, f2⟩
    obtain ⟨n, hn, rfl⟩ := map_at hx
    have len := lfs_take_len hl i
    have nng := lfs_nonneg (ns.take i)
    have en : lfs (ns.take (i + 1)) = (stepF n (lfs (ns.take i))).filter pF := by rw [take_at hn, lfs_snoc]
    generalize lfs (ns.take i) = L at f2 len nng en
    refine ⟨(by show 0 ≤ sizeLine; decide), fun ll hll => ?_⟩
    dsimp only [gName]
    have g1 : upd H2 ll (.lst []) ll = some (.lst ((stepF n (L.take 0)).map V.int)) := upd_same
    have g2 : upd H2 ll (.lst []) fl = some (.lst (L.map V.int)) := by rw [upd_ne (ne_of_none f2 hll)]; exact f2
    have s3 : Same H2 (upd H2 ll (.lst [])) := Same.new hll
    generalize upd H2 ll (.lst []) = H3 at g1 g2 s3
    refine ⟨_, rfl, fl, rfl, ⟨_, SqL.of g2⟩, for_list (xs := L.map V.int) (fun j σ H' => Same H3 H' ∧ ∃ (ll : Addr) (v4 : Option V), σ = [some (.ref a), some (.ref fl), some (.int n), some (.ref ll), v4] ∧ H' ll = some (.lst ((stepF n (L.take j)).map V.int))) ⟨Same.refl H3, ll, v4, rfl, g1⟩ (fun j σ H' _ p => p.1.seq (SqL.of g2)) ?_ ?_⟩
    · rintro j x σ H4 hx ⟨s4, ll, v4, rfl, g4⟩
      obtain ⟨o, ho, rfl⟩ := map_at hx
      have o0 := nng o (List.mem_of_getElem? ho)
      have e1 : (if n < 0 then -n else n) = (n.natAbs : Int) := abs_e n
      have e2 : (if n - 1 < 0 then -(n - 1) else n - 1) = ((n - 1).natAbs : Int) := abs_e (n - 1)
      have ll4 : (stepF n (L.take j)).length ≤ 4000 := by
        rw [stepF_len]
        have := List.length_take_le' j L
        omega
      refine ⟨_, rfl, _, rfl, n, rfl, _, rfl, _, _, rfl, by rw [e1]; omega, o0, _, rfl, _, _, rfl, rfl, n - 1, rfl, _, rfl, _, _, rfl, by rw [e2]; omega, o0, (by show 2 ≤ sizeLine; decide), fun D hD => ?_⟩
      have e3 : ((if n < 0 then -n else n).gcd o : Int) = (Int.gcd n o : Int) := by rw [e1, gcd_abs]
      have e4 : ((if n - 1 < 0 then -(n - 1) else n - 1).gcd o : Int) = (Int.gcd (n - 1) o : Int) := by rw [e2, gcd_abs]
      rw [e3, e4]
      refine ⟨ll, D, _, _, rfl, rfl, (by rw [upd_ne (ne_of_none g4 hD)]; exact g4), upd_same, ?_, fun p hp => ⟨Same.upd (s4.trans (Same.new hD)) ((s4.trans (Same.new hD)).free hp), p, _, rfl, ?_⟩⟩
      · rw [List.length_map]
        exact Nat.le_of_lt (len_lt (by simp only [List.length_cons, List.length_nil]; omega))
      · rw [upd_same, take_at ho]
        unfold KM.stepF
        rw [List.flatMap_append, List.map_append]
        rfl
    · rintro σ H4 ⟨s4, ll, v4, rfl, g4⟩
      rw [List.length_map, List.take_length] at g4
      have sl := stepF_len n L
      refine ⟨_, rfl, ll, rfl, ⟨_, SqL.of g4⟩, fun D hD => lc_list (xs := (stepF n L).map V.int) (fun j H' => Same H4 H' ∧ H' D = some (.lst ((((stepF n L).take j).filter pF).map V.int))) ⟨Same.new hD, upd_same⟩ (fun j H' _ p => p.1.seq (SqL.of g4)) ?_ ?_⟩
      · rintro j x H5 hx ⟨p3, p4⟩
        obtain ⟨o, ho, rfl⟩ := map_at hx
        have keep : pF o = true → H5 D = some (.lst ((((stepF n L).take j).filter pF).map V.int)) ∧ ((((stepF n L).take j).filter pF).map V.int).length < sizeLine ∧
            (Same H4 (upd H5 D (.lst (((((stepF n L).take j).filter pF).map V.int) ++ [V.int o]))) ∧ (upd H5 D (.lst (((((stepF n L).take j).filter pF).map V.int) ++ [V.int o]))) D = some (.lst ((((stepF n L).take (j + 1)).filter pF).map V.int))) := by
          intro e
          refine ⟨p4, len_lt ?_, Same.upd p3 hD, ?_⟩
          · rw [List.length_map]
            have x := List.length_filter_le pF ((stepF n L).take j)
            have y := List.length_take_le' j (stepF n L)
            omega
          · rw [upd_same, filt_at ho, if_pos e, List.map_append]
            rfl
        refine ⟨rfl, _, rfl, rfl, _, rfl, ?_⟩
        by_cases e0 : o = 0
        · obtain ⟨a1, a2, a3⟩ := keep (by simp [pF, e0])
          exact iteP (by simp [e0]) (iteT ⟨_, rfl, _, a1, a2, a3⟩)
        refine iteN (by simp [e0]) ⟨_, rfl, _, _, rfl, rfl, _, rfl, ?_⟩
        by_cases e1 : 2 < o
        · obtain ⟨a1, a2, a3⟩ := keep (by simp [pF, e1])
          exact iteP (by simp [e1]) ⟨_, rfl, _, a1, a2, a3⟩
        · refine iteN (by simp [e1]) ⟨p3, ?_⟩
          rw [filt_at ho, if_neg (by simp [pF, e0, e1]), List.append_nil]
          exact p4
      · rintro H5 ⟨p3, p4⟩
        rw [List.length_map, List.take_length, ← en] at p4
        exact ⟨s2.trans ((s3.trans s4).trans p3), D, _, _, _, rfl, p4⟩
  · rintro σ H2 ⟨s2, fl, v2, v3, v4, rfl, f2⟩
    rw [List.length_map, List.take_length] at f2
    refine ⟨_, rfl, fl, _, rfl, SqL.of f2, fun s p pe so hp => ?_⟩
    have s3 := s1.trans s2
    exact q p s _ (s3.trans (Same.new hp)) (s3.free hp) upd_same pe so

end
end KV

/-! the law: fits, follows, is a possible lot -/
namespace KV
open PySem PySem.Spec PyProof.Rows L2 KM
theorem inV_int (x : Int) : ∀ qs : List Int, inV (.int x) (qs.map V.int) = decide (x ∈ qs)
  | [] => rfl
  | q :: r => by
    have ih := inV_int x r
    have e : inV (.int x) ((q :: r).map V.int) = (decide (q = x) || inV (.int x) (r.map V.int)) := rfl
    rw [e, ih]
    by_cases z : q = x
    · simp [z]
    · simp [z, Ne.symm z]
theorem flat_ints (qs : List Int) : (qs.map V.int).all flatV = true := by
  rw [List.all_eq_true]
  intro x hx
  obtain ⟨n, _, rfl⟩ := List.mem_map.mp hx
  rfl

theorem due_lfs {A s : List Int} {n : Int} (pe : s.Perm (lfs A)) : due A n ↔ if (0 : Int) ∈ s then ¬ pln n else fit s n = false := by
  have z0 : (0 : Int) ∈ s ↔ (0 : Int) ∈ fnd A := by
    rw [pe.mem_iff]
    unfold lfs
    rw [List.mem_filter]
    exact ⟨fun z => z.1, fun z => ⟨z, rfl⟩⟩
  have key : ∀ q, 2 < q → (q ∈ s ↔ q ∈ fnd A) := fun q hq => by
    rw [pe.mem_iff]
    unfold lfs
    rw [List.mem_filter]
    exact ⟨fun z => z.1, fun z => ⟨z, by unfold pF; simp [hq]⟩⟩
  have ge : ∀ q ∈ s, q = 0 ∨ 2 < q := fun q hq => by
    have := (List.mem_filter.mp (pe.mem_iff.mp hq)).2
    unfold pF at this
    simpa using this
  by_cases z : (0 : Int) ∈ s
  · rw [if_pos z]
    unfold due
    constructor
    · rintro (⟨q, hq, q2, e⟩ | ⟨_, h⟩)
      · intro hp
        exact plain_mod hp (by omega) e
      · exact h
    · exact fun h => .inr ⟨z0.mp z, h⟩
  · rw [if_neg z, ← Bool.not_eq_true, fit_mod (fun q hq => by
      rcases ge q hq with e | e
      · rw [e] at hq
        exact absurd hq z
      · omega), Classical.not_not]
    unfold due
    constructor
    · rintro (⟨q, hq, q2, e⟩ | ⟨h, _⟩)
      · exact ⟨q, (key q q2).mpr hq, e⟩
      · exact absurd (z0.mpr h) z
    · rintro ⟨q, hq, e⟩
      rcases ge q hq with e0 | e0
      · rw [e0] at hq
        exact absurd hq z
      · exact .inl ⟨q, (key q e0).mp hq, e0, e⟩
section
variable {P : Program} {w : World} {K : PySem.W.Frag} {mg : Str → Option Value} {base : Heap}
def spLF (K : PySem.W.Frag) : Sp := fun vs H Q _ => ∃ (a : Addr) (L : List Int) (n : Int), vs = [.ref a, .int n] ∧ SqA K H a (L.map V.int) ∧ (∀ q ∈ L, 0 < q) ∧ L.length ≤ 1000 ∧ ∀ H', Same H H' → Q (.bl (fit L n)) H'
theorem sc35 : FnScope ["_law_lot", "_law_n", "_law_q"] ["_law_lot", "_law_n"] (defScope (top 35)) := ⟨rfl, rfl, rfl, by decide +kernel, rfl, by decide +kernel, by decide +kernel⟩
theorem ok_LF {f : Addr} {fd : FuncData} (B : Bl mg) (F : Fun K "_law_fits" "_law_fits" (top 35) f fd) : FnOk P w K mg base CX0 1 f fd ["_law_lot", "_law_n"] (spLF K) := by
  refine F.ok sc35 (fun vs H Q E h => ?_) (fun cdv A outer s H vs Q E hr h => ⟨_,
    (pss_one (ps_ret (pe_cmpR (op_eqD hr.units) (pe_lc (own := [("_law_q", 2)]) (g := gName 2) rfl sc35.nd (pi_sq (pv 0)) (blkOk_by (N := ["_law_lot", "_law_n", "_law_q"]) (sc := defScope (top 35)) (by decide +kernel))
        (fun _ _ _ _ _ => (pg_name (i := 2) sc35.nd rfl (Or.inl rfl))) (fun _ _ _ _ _ => (pts_one (pt_cmpR op_gt (pe_op op_mod (pe_callTy call_int1 (by rfl) B.int PyProof.Rows.boot_int (pa_cons (pv 1) pa_nil)) (pv 2)) pe_int (nomark _)))) (fun _ _ _ _ _ => (pv 2))) (pe_lst pa_nil) (nomark _)))), ?_⟩)
  · obtain ⟨a, L, n, rfl, _⟩ := h
    rfl
  obtain ⟨a, L, n, rfl, hS, h3, hl, q⟩ := h
  refine ⟨_, rfl, a, rfl, lc_sq hS (fun D i H' => Same H H' ∧ H' D = some (.lst (((L.take i).filter fun q => decide (1 < n % q)).map V.int))) (fun D hD => ⟨Same.new hD, upd_same⟩) (fun D i H' p => Ke.of p.1) ?_ ?_⟩
  · rintro D i x H' hD hx ⟨p1, p2⟩
    obtain ⟨m, hm, rfl⟩ := map_at hx
    have m3 := h3 m (List.mem_of_getElem? hm)
    refine ⟨rfl, _, rfl, .inl ⟨_, rfl, _, rfl, _, _, rfl, rfl, m3, _, _, rfl, rfl, _, rfl, ?_⟩⟩
    cases e : decide (1 < n % m) with
    | true =>
      refine iteT ⟨_, rfl, _, p2, len_lt ?_, Same.upd p1 hD, ?_⟩
      · rw [List.length_map]
        have x := List.length_filter_le (fun q => decide (1 < n % q)) (L.take i)
        have y := List.length_take_le' i L
        omega
      · rw [upd_same, filt_at hm, if_pos e, List.map_append]
        rfl
    | false =>
      refine iteF ⟨p1, ?_⟩
      rw [filt_at hm, if_neg (by rw [e]; decide), List.append_nil]
      exact p2
  · rintro D H' hD ⟨p1, p2⟩
    rw [List.length_map, List.take_length] at p2
    refine ⟨(by show 0 ≤ sizeLine; decide), fun E hE => eqL (ms := []) (SqL.of (by rw [upd_ne (ne_of_none p2 hE)]; exact p2)) (SqL.of upd_same) ?_⟩
    have e : decide (List.filter (fun q => decide (1 < n % q)) L = []) = fit L n := by
      rw [Bool.eq_iff_iff, decide_eq_true_eq, fit_iff, List.filter_eq_nil_iff]
      constructor
      · intro h q hq
        have := h q hq
        simp only [decide_eq_true_eq] at this
        omega
      · intro h q hq
        have := h q hq
        simp only [decide_eq_true_eq]
        omega
    rw [e]
    exact q _ (Same.upd p1 (p1.free hE))

def spLFo (K : PySem.W.Frag) : Sp := fun vs H Q _ => ∃ (a : Addr) (A s : List Int) (n : Int), vs = [.ref a, .int n] ∧ H a = some (.lst (s.map V.int)) ∧ s.Perm (lfs A) ∧ s.length ≤ 1000 ∧ ∀ H', Same H H' → Q (.bl (decide (¬ due A n))) H'
def spLIPL (K : PySem.W.Frag) : Sp := fun vs H Q _ => ∃ (a b : Addr) (A B : List Int) (y : V) (zs : Option (List V)), vs = [.ref a, .ref b, y] ∧ SqA K H a (A.map V.int) ∧ SqA K H b (B.map V.int) ∧ A.length ≤ 1000 ∧ B.length ≤ 1000 ∧ ValT K H y zs ∧
  (isL zs = false → ∀ H', Same H H' → Q (.bl false) H') ∧ ∀ L : List Int, zs = some (L.map V.int) → Lot L → ∀ H', Same H H' → Q (.bl (toldB A B L)) H'
def spOfS (K : PySem.W.Frag) : Sp := fun vs H Q _ => ∃ (d c a : Addr) (ns : List Int), vs = [.ref d, .ref a] ∧ Dl H d c ∧ a ≠ d ∧ a ≠ c ∧ SqA K H a (ns.map V.int) ∧ 0 < ns.length ∧ ns.length ≤ 1000 ∧ ∀ x H', x ∈ ns → Dl H' d c → Kp d c H H' → Q (.int x) H'
theorem ok_ofS {f : Addr} {fd : FuncData} (B : Bl mg) (CA : Cal P w K mg base CX0 1 "_law_any" ["_law_deal", "_law_bound"] spAny) (F : Fun K "_law_of" "_law_of" (top 29) f fd) : FnOk P w K mg base CX0 2 f fd ["_law_deal", "_law_some"] (spOfS K) := by
  refine F.ok sc29 (fun vs H Q E h => ?_) (fun cdv A outer s H vs Q E hr h => ⟨_,
    pss_one (ps_ret (pe_ix ix_seq (pv 1) (pe_cal (X := L2.Cx.nox _) CA hr (by decide) (pa_cons (pv 0) (pa_cons (pe_callB call_len_seq (by rfl) B.len PySem.boot_len (pa_cons (pv 1) pa_nil)) pa_nil))) (fun _ _ => rfl))), ?_⟩)
  · obtain ⟨d, c, a, xs, rfl, _⟩ := h
    rfl
  obtain ⟨d, c, a, ns, rfl, hD, ad, ac, hS, l0, l1, q⟩ := h
  have lm : (ns.map V.int).length = ns.length := List.length_map ..
  refine ⟨_, rfl, _, rfl, _, rfl, a, _, rfl, hS, d, c, _, rfl, hD, by omega, ?_, fun r H' r0 r1 hD' hk => ?_⟩
  · exact sm_of (by omega) (Int.lt_of_le_of_lt (show (((ns.map V.int).length : Nat) : Int) ≤ 1000 by omega) (by decide))
  · rw [lm] at r1
    have hj : r.toNat < ns.length := by omega
    have e1 : atI (ns.map V.int) r = some (V.int ns[r.toNat]) := by
      unfold atI L2.ixN
      rw [if_pos r0, if_pos (by omega)]
      show (ns.map V.int)[r.toNat]? = _
      rw [List.getElem?_map, List.getElem?_eq_getElem hj]
      rfl
    have qq := q _ H' (List.getElem_mem hj) hD' hk
    rcases hk.sqA ad ac hS with z | z
    · exact .inl ⟨a, _, r, _, rfl, rfl, z, e1, qq⟩
    · exact .inr (.inl ⟨a, _, r, _, rfl, rfl, z, e1, qq⟩)
end
end KV

/-! repr of a list or of a tuple of ints, of a truth value -/
namespace KV
open PySem PySem.Spec PyProof.Rows L2 KM
/-- a list (true) or a tuple -/
def SqO (b : Bool) (ns : List Int) : HO := if b = true then .lst (ns.map V.int) else .tup (ns.map V.int)
def SqD (b : Bool) (ns : List Int) : PyData := if b = true then .list (ns.map PyData.int) else .tuple (ns.map PyData.int)
def rReprA (K : PySem.W.Frag) : List V → Hp → VK → Prop := fun xs H Q =>
  (∃ b : Bool, xs = [.bl b] ∧ Q (.str (if b then "True" else "False")) H) ∨
  ∃ (a : Addr) (ns : List Int) (b : Bool), xs = [.ref a] ∧ H a = some (SqO b ns) ∧ (∀ n ∈ ns, n.natAbs.log2 < 1920) ∧ ns.length ≤ 1000 ∧ Q (.str (SqD b ns).shown) H
theorem shownAll_ints : ∀ ns : List Int, PyData.shownAll (ns.map PyData.int) = ns.map fun n => Str.ofString (toString n)
  | [] => rfl
  | n :: r => by
    show (PyData.int n).shown :: PyData.shownAll (r.map PyData.int) = _
    rw [shownAll_ints r]
    rfl
theorem piled_le : ∀ ts : List Str, (∀ t ∈ ts, t.length ≤ 1921) → piled ts ≤ 1923 * ts.length
  | [], _ => Nat.le_refl _
  | t :: r, h => by
    have h1 := h t (by simp)
    have h2 := piled_le r fun x hx => h x (by simp [hx])
    rw [piled_cons, List.length_cons]
    omega
theorem textFrom_le : ∀ (ts : List Str) (k : Nat) (acc : Str), (textFrom k acc ts).length ≤ acc.length + piled ts
  | [], _, _ => Nat.le_add_right ..
  | t :: ts, k, acc => by
    have h := textFrom_le ts (k + 1) (acc ++ (if k > 0 then ", " else "" : String) ++ t)
    rw [strLen_append, strLen_append] at h
    rw [piled_cons]
    have e : ((if k > 0 then ", " else "" : String) : Str).length ≤ 2 := by
      split <;> decide
    show (textFrom (k + 1) (acc ++ (if k > 0 then ", " else "" : String) ++ t) ts).length ≤ _
    omega
theorem shown_len {ns : List Int} (b : Bool) (hb : ∀ n ∈ ns, n.natAbs.log2 < 1920) (hl : ns.length ≤ 1000) : (SqD b ns).shown.length ≤ sizeLine := by
  have hp := piled_le (ns.map fun n => Str.ofString (toString n)) fun t ht => by
    obtain ⟨n, hn, rfl⟩ := List.mem_map.mp ht
    exact int_text_len_1921 (hb n hn)
  rw [List.length_map] at hp
  have hj : (Str.join ", " (ns.map fun n => Str.ofString (toString n))).length ≤ 1923 * 1000 := by
    cases e : ns with
    | nil => show 0 ≤ _; omega
    | cons n r =>
      have := join_length_add (ns.map fun n => Str.ofString (toString n)) (by rw [e]; simp)
      rw [e] at this hp hl
      omega
  have e3 : 1923 * 1000 + 3 ≤ sizeLine := by decide
  cases b with
  | false =>
    show (tupleText (PyData.shownAll (ns.map PyData.int))).length ≤ sizeLine
    rw [shownAll_ints]
    unfold tupleText
    rw [strLen_append, strLen_append]
    have e1 : (("(" : String) : Str).length = 1 := rfl
    have e2 : (((if ((ns.map fun n => Str.ofString (toString n)).length == 1) = true then ",)" else ")" : String)) : Str).length ≤ 2 := by
      split <;> decide
    omega
  | true =>
    show (listText (PyData.shownAll (ns.map PyData.int))).length ≤ sizeLine
    rw [shownAll_ints]
    unfold listText
    rw [strLen_append]
    have e2 : (("]" : String) : Str).length = 1 := rfl
    have e4 := textFrom_le (ns.map fun n => Str.ofString (toString n)) 0 ("[" : String)
    have e1 : (("[" : String) : Str).length = 1 := rfl
    omega
theorem log_sm {k : Nat} {n : Int} (h : sm k n) (hk : k ≤ 1920) (h0 : 0 < k) : n.natAbs.log2 < 1920 := by
  by_cases z : n.natAbs = 0
  · rw [z]
    show Nat.log2 0 < 1920
    decide
  · exact Nat.lt_of_lt_of_le ((Nat.log2_lt z).mpr h) hk
theorem call_reprA {X : Cx} (hg : X.A.guards = some []) (hu : X.A.units + 64 < cLine) : CallR X (.builtin "repr") (rReprA X.K) := by
  intro pins s σ H xs us Q I r h
  rcases h with ⟨b, rfl, q⟩ | ⟨a, ns, b, rfl, hs, hb, hl, q⟩
  · obtain ⟨u, rfl, r1⟩ := vals1 r
    cases r1
    exact PySem.P.repr_of_bool ⟨.str _, H, I.tok _, ⟨_, rfl⟩, q⟩
  · obtain ⟨u, rfl, r1⟩ := vals1 r
    have r2 : RelV (.ref a) u := r1
    have hz := shown_len b hb hl
    cases b with
    | false =>
      obtain ⟨as, rd⟩ := Dp.reads I (.tuple (ns.map PyData.int)) (.ref a) u (.tup (SqT.of hs) (dp_ints ns)) r2
      cases r1
      refine repr_of_reads' rd (by simp only [PyData.showable]; exact showAll_ints ns hb) (fun z => ?_) hg (by simp only [PyData.depth, depth_ints]; omega) (fun _ _ z => z) (fun h' u tk kk => ?_) hz
      · simp only [PyData.hasDict, noDict_ints] at z
        exact absurd z Bool.false_ne_true
      · exact ⟨.str _, H, I.kept kk, ⟨_, rfl⟩, q⟩
    | true =>
      obtain ⟨as, rd⟩ := Dp.reads I (.list (ns.map PyData.int)) (.ref a) u (.lst (SqL.of hs) (dp_ints ns)) r2
      cases r1
      refine repr_of_reads' rd (by simp only [PyData.showable]; exact showAll_ints ns hb) (fun z => ?_) hg (by simp only [PyData.depth, depth_ints]; omega) (fun _ _ z => z) (fun h' u tk kk => ?_) hz
      · simp only [PyData.hasDict, noDict_ints] at z
        exact absurd z Bool.false_ne_true
      · exact ⟨.str _, H, I.kept kk, ⟨_, rfl⟩, q⟩
end KV

/-! several except clauses, each with a name -/
namespace KV
open PySem PySem.Spec L2 PyProof.Rows
/-- what named clauses wish of an exception of the body, one behind the other -/
def wAll (K : PySem.W.Frag) (Wz : WX) (D : Ends) : List (Value × Nat × (Addr → Value → Option Addr → TS)) → WX
  | [] => Wz
  | (k, j, ts) :: r => fun cl dd τ G => ∃ b, PySem.W.exmOne K cl k = some b ∧
    (b = true → ∀ z, G z = none → ts z cl dd { nx := fun τ' G' => D.nx (τ'.set j none) G', rt := D.rt, bk := fun τ' G' => D.bk (τ'.set j none) G', ct := fun τ' G' => D.ct (τ'.set j none) G' } (τ.set j (some (.ref z))) G) ∧
    (b = false → wAll K Wz D r cl dd τ G)
inductive HdsAs (X : Cx) : List ExceptHandler → List (Value × Nat × (Addr → Value → Option Addr → TS)) → Prop
  | nil : HdsAs X [] []
  | cons {y m : Str} {k : Value} {j : Nat} {ts : Addr → Value → Option Addr → TS} {b₁ : Stmt} {su : List Stmt} {q1 q2 : Pos} {hs : List ExceptHandler} {l : List (Value × Nat × (Addr → Value → Option Addr → TS))}
      (hj : X.N[j]? = some m) (hk : X.env.kindOf m = some .local) (hc : Names X y k)
      (hv : ∀ (z : Addr) (oz : Obj) (cl : Value) (dd : Option Addr) (pz : List (Addr × Obj)), Zc cl dd oz → (∃ fs, oz.data = .fields fs) → PSs (X.suite z ((z, oz) :: pz)) (b₁ :: su) (ts z cl dd)) (r : HdsAs X hs l) :
      HdsAs X (.ExceptHandler (some (.Name y q1)) (some m) (b₁ :: su) q2 :: hs) ((k, j, ts) :: l)
section
variable {X : Cx} {body : List Stmt} {h₁ : ExceptHandler} {hds : List ExceptHandler} {l : List (Value × Nat × (Addr → Value → Option Addr → TS))} {pos : Pos} {tb : WX → TS} {Wz : WX}
theorem ps_try_all (hs : X.stack = X.env :: X.outer) (hf : X.env.frame = some X.env.locals) (hN : X.N.Nodup) (tk : Takes X Wz)
    (hb : ∀ (W : WX) (qn : List (Addr × Obj)) (xe : Value → Shared → Prop), Takes (X.tr qn xe) W → PassesOwn (model X.prog X.w) X.A X.env xe → PSs (X.tr qn xe) body (tb W))
    (hh : HdsAs X (h₁ :: hds) l) : PS X (.Try body (h₁ :: hds) [] [] pos) (fun D τ G => tb (wAll X.K Wz D l) D τ G) := by
  refine ⟨fun pz s σ H D I h => ?_⟩
  have oK := I.ok
  have hzf : X.A.frames = some (X.env :: X.outer) := by rw [oK.frames, hs]
  refine wpAny_Try_except ?_
  refine wpAny_mono ((hb (wAll X.K Wz D l) (X.pn ++ pz) (fun e s₁ => wpAny (model X.prog X.w) X.A (noteFrame e X.env) (fun _ s₂ => wpAny (model X.prog X.w) X.A (setFlight e none) (fun _ s₃ =>
    wpAny (model X.prog X.w) X.A (handleBy e X.env (h₁ :: hds)) (SP X pz D) X.xe s₃) X.xe s₂) X.xe s₁) (fun u s' xx => ?_) PassesOwn.looking).run [] s σ H D (I.toTry _) h) (fun f s1 hzp => ?_) (fun e s1 hye => hye)
  · -- the catch
    obtain ⟨ax, B, sI, pz', σ', H', cl, d, rfl, Y', nb, pu, sk, na, oss, agr, w⟩ := xx
    have Y0 : Inv X pz σ' H' sI := Y'.ofTry oK
    have sk2 : Sky B (X.env :: X.outer) ax (Zc cl d) X.env.locals s'.heap := by rw [← hs]; exact sk
    show wpAny (model X.prog X.w) X.A (noteFrame (.ref ax) X.env) _ _ _
    refine Sky.land Zc.steady hzf hf sk2 fun g3 lf3 pu3 => ?_
    have Y3 : Inv X pz σ' H' { s' with heap := g3 } := Y0.landed nb lf3.1 (pu.trans pu3) oss agr
    obtain ⟨oz3, vs3, hy3, hw3, hq3⟩ := lf3.there
    have nFr : ∀ {h : Heap} {o : Obj} {vs : Array Value}, h.FunFrames B (X.env :: X.outer) → h.get? ax = some o → o.data = .fields vs → ax ∉ frs (X.env :: X.outer) := fun {h o vs} ff e dd hmm => by
      obtain ⟨_, o2, e2, hnn2⟩ := ff.mem hmm
      rw [e] at e2; cases e2
      exact hnn2 _ dd
    have nrf := nFr lf3.2.2.1 hy3 hq3
    have nLo : ax ≠ X.env.locals := fun z => nrf (List.mem_filterMap.mpr ⟨X.env, List.mem_cons_self, by rw [hf, z]⟩)
    have nFs : ax ∉ X.fs := fun hmm => by
      obtain ⟨e, hye, qz⟩ := List.mem_filterMap.mp hmm
      exact nrf (List.mem_filterMap.mpr ⟨e, List.mem_cons_of_mem _ hye, qz⟩)
    have T3 := Y3.suite hy3 hq3 na nLo nFs
    have go : ∀ {hl : List ExceptHandler} {ll : List (Value × Nat × (Addr → Value → Option Addr → TS))}, HdsAs X hl ll → wAll X.K Wz D ll cl d σ' H' →
        wpAny (model X.prog X.w) X.A (handleBy (.ref ax) X.env hl) (SP X pz D) X.xe { s' with heap := g3 } := by
      intro hl ll hk
      induction hk with
      | nil =>
        intro w
        refine wpAny_handleBy_nil ?_
        obtain ⟨k1, k2, k3, oz, vs, Tz, oT, ts', hye, hz, hdd, h1x, hr⟩ := id lf3
        unfold PySem.passOn
        refine wpAny_bind (wpAny_field hye hdd h1x ?_)
        rw [if_neg (show ¬ ((Value.ref Tz == Value.none) = true) from by simp)]
        have fnn : wpAny (model X.prog X.w) X.A (setFlight (.ref ax) X.env.frame) (fun _ s4 => wpAny (model X.prog X.w) X.A (throw (.ref ax) : Sem Flow) (SP X pz D) X.xe s4) X.xe { s' with heap := g3 } := by
          rw [hf]
          refine HandSPX.setFlight_upZ lf3 fun g4 hh4 pu4 => wpAny_throw (tk _ _ ?_)
          exact ⟨ax, B, sI, pz, σ', H', cl, d, rfl, Y0, nb, (pu.trans pu3).trans pu4, .inr (.inr (by rw [hs]; exact hh4)), na, oss, agr, w⟩
        first
          | exact wpAny_bind (wpAny_pure (wpAny_bind fnn))
          | exact wpAny_bind fnn
      | @cons x n c i ts b₀ suite np pos' hd2 l2 hi hln hcc hSu r ih =>
        intro w
        have hlo2 : Loc X.env.scope n := .inl hln
        obtain ⟨b, hb1, hY, hNo⟩ := w
        refine wpAny_handleBy_cons (codeAny_handlers_test ?_) (by intro qz; cases qz)
        have LZ : PySem.W.Looks (model X.prog X.w) g3 (typeOf (.ref ax)) cl := fun A Q E s k qz => wpAny_typeOf_ref (k _ _ hy3) (by rw [hw3.1]; exact qz)
        have LQ := PySem.W.exm_one (M := model X.prog X.w) (Y3.kIn) LZ hb1
        have tst : ∀ {Q : Value → Shared → Prop} {E : Value → Shared → Prop}, Q c { s' with heap := g3 } → wpAny (model X.prog X.w) (X.A.mark (some (.ref ax))) (eval (.Name x np) X.env) Q E { s' with heap := g3 } := fun {Q E} qz => by
          obtain ⟨hg, hdb9, hmm | ⟨hmm, hvv, hnn⟩⟩ := hcc
          · exact ld_glob (X := X.suite ax ((ax, oz3) :: (X.pn ++ pz))) T3 hg hmm qz hdb9
          · exact ld_blt (X := X.suite ax ((ax, oz3) :: (X.pn ++ pz))) T3 hg hmm hvv qz hnn hdb9
        refine tst (LQ.here ?_)
        cases b with
        | true =>
          refine (codeAny_handlers_suite_as ?_)
          refine HandSPX.lands_againZ lf3 fun g4 lf4 pu4 => ?_
          have Y4 : Inv X pz σ' H' { s' with heap := g4 } := Y0.landed nb lf4.1 ((pu.trans pu3).trans pu4) oss agr
          obtain ⟨oz4, vs4, hy4, hw4, hq4⟩ := lf4.there
          have T4 := Y4.suite hy4 hq4 na nLo nFs
          refine store_ok (X := X.suite ax ((ax, oz4) :: (X.pn ++ pz))) (v := .ref ax) T4 hN hi hlo2 rfl (fun s5 T5 => ?_) (.inr hln)
          refine wpAny_mono ((hSu ax oz4 cl d (X.pn ++ pz) hw4 ⟨_, hq4⟩).run [] s5 _ H' _ T5 (hY rfl ax na)) (fun f s6 hzp => ?_) (fun _ _ z => False.elim z)
          have fin6 : ∀ {σ6 : L2.St} {H6 : Hp} {Q : Shared → Prop}, Inv (X.suite ax ((ax, oz4) :: (X.pn ++ pz))) [] σ6 H6 s6 → (∀ s7, Inv X pz (σ6.set i none) H6 s7 → Q s7) →
              wpAny (model X.prog X.w) X.A (do bindName X.env n .none; unbindBehindTheSuite X.env n pos') (fun _ s7 => Q s7) X.xe s6 := fun {σ6 H6 Q} T6 hq => gone_ok (T6.unsuite oK) hN hi hln hq
          cases f with
          | next =>
            obtain ⟨σ6, H6, T6, q6⟩ := hzp
            exact fin6 T6 fun s7 Y7 => ⟨_, _, Y7, q6⟩
          | brk =>
            obtain ⟨σ6, H6, T6, q6⟩ := hzp
            exact fin6 T6 fun s7 Y7 => ⟨_, _, Y7, q6⟩
          | cont =>
            obtain ⟨σ6, H6, T6, q6⟩ := hzp
            exact fin6 T6 fun s7 Y7 => ⟨_, _, Y7, q6⟩
          | ret u =>
            obtain ⟨v6, σ6, H6, T6, r6, q6⟩ := hzp
            exact fin6 T6 fun s7 Y7 => ⟨_, _, _, Y7, r6, q6⟩
        | false =>
          show wpAny _ X.A (handleBy (.ref ax) X.env hd2) _ _ _
          exact ih (hNo rfl)
    exact go hh w
  · cases f with
    | next =>
      obtain ⟨σ', H', Y', qz⟩ := hzp
      exact wpAny_execs_nil ⟨σ', H', Y'.ofTry oK, qz⟩
    | brk =>
      obtain ⟨σ', H', Y', qz⟩ := hzp
      exact ⟨σ', H', Y'.ofTry oK, qz⟩
    | cont =>
      obtain ⟨σ', H', Y', qz⟩ := hzp
      exact ⟨σ', H', Y'.ofTry oK, qz⟩
    | ret u =>
      obtain ⟨v, σ', H', Y', r, qz⟩ := hzp
      exact ⟨v, σ', H', Y'.ofTry oK, r, qz⟩
/-- try: ax first statement that may raise, and what stands behind it -/
def tTryC (K : PySem.W.Frag) (Wz : WX) (l : List (Value × Nat × (Addr → Value → Option Addr → TS))) (t1 : WX → TS) (u : TS) : TS := fun D τ G => tSeq (t1 (wAll K Wz D l)) u D τ G
theorem ps_try_cons {b₁ : Stmt} {rest : List Stmt} {t1 : WX → TS} {u : TS} (hs : X.stack = X.env :: X.outer) (hf : X.env.frame = some X.env.locals) (hN : X.N.Nodup) (tk : Takes X Wz)
    (ha : ∀ (W : WX) (qn : List (Addr × Obj)) (xe : Value → Shared → Prop), Takes (X.tr qn xe) W → PassesOwn (model X.prog X.w) X.A X.env xe → PS (X.tr qn xe) b₁ (t1 W))
    (hb : ∀ (qn : List (Addr × Obj)) (xe : Value → Shared → Prop), PSs (X.tr qn xe) rest u)
    (hh : HdsAs X (h₁ :: hds) l) : PS X (.Try (b₁ :: rest) (h₁ :: hds) [] [] pos) (tTryC X.K Wz l t1 u) :=
  ps_try_all (tb := fun W => tSeq (t1 W) u) hs hf hN tk (fun W qn xe ax b => pss_cons (ha W qn xe ax b) (hb qn xe)) hh
end
end KV

/-! what refusals tell -/
namespace KV
open PySem PySem.Spec PyProof.Rows L2 KM
mutual
theorem Dp.same {K : PySem.W.Frag} {H H' : Hp} (s : Same H H') : ∀ (t : PyData) (v : V), Dp K H v t → Dp K H' v t
  | .none, _, h => by cases h; exact .non
  | .bool b, _, h => by cases h; exact .bl b
  | .int i, _, h => by cases h; exact .int i
  | .str x, _, h => by cases h; exact .str x
  | .list ds, _, h => by
    cases h with
    | lst a b => exact .lst (s.seq a) (DpAll.same s ds _ b)
  | .tuple ds, _, h => by
    cases h with
    | tup a b => exact .tup (Same.seqT s a) (DpAll.same s ds _ b)
  | .dict _, _, h => by cases h
theorem DpAll.same {K : PySem.W.Frag} {H H' : Hp} (s : Same H H') : ∀ (ts : List PyData) (vs : List V), DpAll K H vs ts → DpAll K H' vs ts
  | [], _, h => by cases h; exact .nil
  | t :: ts, _, h => by
    cases h with
    | cons a b => exact .cons (Dp.same s t _ a) (DpAll.same s ts _ b)
end
/-- a note, or None -/
def NoteV (H : Hp) (y : V) (t : PyData) : Prop := (y = .non ∧ t = .none) ∨ ∃ (p : Addr) (x : Str) (i : Int), y = .ref p ∧ t = .tuple [.str x, .int i] ∧ H p = some (.tup [.str x, .int i])
theorem NoteV.same {H H' : Hp} {y : V} {t : PyData} (s : Same H H') (h : NoteV H y t) : NoteV H' y t := by
  rcases h with h | ⟨p, x, i, h1, h2, h3⟩
  · exact .inl h
  · exact .inr ⟨p, x, i, h1, h2, s _ _ h3⟩
theorem NoteV.upd {H : Hp} {l : Addr} {us : List V} {o : HO} {y : V} {t : PyData} (hl : H l = some (.lst us)) (h : NoteV H y t) : NoteV (L2.upd H l o) y t := by
  rcases h with h | ⟨p, x, i, h1, h2, h3⟩
  · exact .inl h
  · refine .inr ⟨p, x, i, h1, h2, ?_⟩
    rw [upd_ne (fun e => by rw [e, hl] at h3; cases h3)]
    exact h3
theorem NoteV.dp {K : PySem.W.Frag} {H : Hp} {y : V} {t : PyData} (h : NoteV H y t) : Dp K H y t := by
  rcases h with ⟨rfl, rfl⟩ | ⟨p, x, i, rfl, rfl, h3⟩
  · exact .non
  · exact .tup (SqT.of h3) (.cons (.str x) (.cons (.int i) .nil))
theorem notes_dp {K : PySem.W.Frag} {H : Hp} : ∀ {us : List V} {R : List PyData}, us.length = R.length → (∀ (j : Nat) (y : V), us[j]? = some y → ∃ t, R[j]? = some t ∧ NoteV H y t) → DpAll K H us R
  | [], [], _, _ => .nil
  | [], _ :: _, e, _ => by simp at e
  | _ :: _, [], e, _ => by simp at e
  | y :: us, t :: R, e, h => by
    refine .cons ?_ (notes_dp (by simpa using e) fun j z hz => ?_)
    · obtain ⟨t', h1, h2⟩ := h 0 y rfl
      rw [show t = t' from Option.some.inj h1]
      exact h2.dp
    · exact h (j + 1) z hz
section
variable {P : Program} {w : World} {K : PySem.W.Frag} {mg : Str → Option Value} {base : Heap} {C fI C2 fI2 : Addr}
def noteQ (i : Int) : PyData := .tuple [.str "question", .int i]
def noteR (i : Int) : PyData := .tuple [.str "refused", .int i]
/-- what is asked, and what comes of it -/
def AskV (K : PySem.W.Frag) (H : Hp) (v x : V) (R : List PyData) : Prop := ∃ ms xs : Option (List V), ValA K H v ms ∧ ValA K H x xs ∧
  ((isIs ms = false ∧ R = [noteQ 0, noteQ 0, noteQ 0]) ∨ (isIs ms = true ∧ isIs xs = false ∧ R = [noteQ 1, noteQ 1, noteQ 1]) ∨ ∃ A B : List Int, ms = some (A.map V.int) ∧ xs = some (B.map V.int) ∧ A.length ≤ 7 ∧ posB A B = false ∧ R = [.none, .none, noteR 1])
theorem AskV.same {H H' : Hp} {v x : V} {R : List PyData} (s : Same H H') (h : AskV K H v x R) : AskV K H' v x R := by
  obtain ⟨ms, xs, h1, h2, h3⟩ := h
  exact ⟨ms, xs, h1.same s, h2.same s, h3⟩
theorem ints_sm {H : Hp} {v : V} {A : List Int} (h : ValA K H v (some (A.map V.int))) : ∀ n ∈ A, sm 120 n := (valA_ints h).choose_spec.2.2.2
end
end KV

/-! the law's own def -/
namespace KV
open PySem PySem.Spec PyProof.Rows L2 KM
theorem tyx_kp {K : PySem.W.Frag} {d c : Addr} {H H' : Hp} (D : Dl H d c) (D' : Dl H' d c) (k : Kp d c H H') {x : V} {t : Value} (h : TyX K H x t) : TyX K H' x t := by
  obtain ⟨_, cs, b, h1, h2, _⟩ := D
  have ne : ∀ {a : Addr} {o : HO}, H a = some o → (∀ xs, o ≠ .lst xs) → H' a = some o := fun {a o} e z => k a o (fun y => z _ (by rw [y, h1] at e; exact (Option.some.inj e).symm)) (fun y => z _ (by rw [y, h2] at e; exact (Option.some.inj e).symm)) e
  cases h with
  | base b =>
    refine .base ?_
    cases b with
    | non => exact .non
    | bl y => exact .bl y
    | int i => exact .int i
    | str y => exact .str y
    | flt y => exact .flt y
    | @lst a xs e =>
      obtain ⟨_, cs', b', g1, g2, _⟩ := D'
      by_cases y : a = d
      · rw [y]
        exact .lst g1
      · by_cases y2 : a = c
        · rw [y2]
          exact .lst g2
        · exact .lst (k _ _ y y2 e)
    | frz e => exact .frz (ne e fun _ z => by cases z)
    | tup e => exact .tup (ne e fun _ z => by cases z)
    | dK e => exact .dK (ne e fun _ z => by cases z)
    | dT e => exact .dT (ne e fun _ z => by cases z)
    | ins e a b c d f => exact .ins (ne e fun _ z => by cases z) a b c d f
  | byt b => exact .byt b
  | set e => exact .set (ne e fun _ z => by cases z)
  | kList e c => exact .kList e c
  | kTuple e c => exact .kTuple e c
  | kDict e c => exact .kDict e c
  | fTuple e => exact .fTuple (ne e fun _ z => by cases z)
  | fDict e => exact .fDict (ne e fun _ z => by cases z)
theorem Itm.kp {K : PySem.W.Frag} {d c : Addr} {H H' : Hp} (D : Dl H d c) (D' : Dl H' d c) (k : Kp d c H H') {x : V} (h : Itm K H x) : Itm K H' x := by
  rcases h with z | ⟨z1, T, z2, z3⟩
  · exact .inl z
  · exact .inr ⟨z1, T, tyx_kp D D' k z2, z3⟩
theorem ValA.kp {K : PySem.W.Frag} {d c : Addr} {H H' : Hp} (D : Dl H d c) (D' : Dl H' d c) (k : Kp d c H H') {v : V} {ms : Option (List V)} (hn : ∀ b, v = .ref b → b ≠ d ∧ b ≠ c) (h : ValA K H v ms) : ValA K H' v ms := by
  cases ms with
  | none =>
    obtain ⟨T, h1, h2⟩ := h
    exact ⟨T, tyx_kp D D' k h1, h2⟩
  | some xs =>
    obtain ⟨a, h1, h2, ⟨T, h3, h3'⟩, h4, h5⟩ := h
    obtain ⟨n1, n2⟩ := hn a h1
    exact ⟨a, h1, k.sqA n1 n2 h2, ⟨T, tyx_kp D D' k h3, h3'⟩, fun x hx => (h4 x hx).kp D D' k, h5⟩
theorem map_int_inj : ∀ {a b : List Int}, a.map V.int = b.map V.int → a = b
  | [], [], _ => rfl
  | [], _ :: _, h => by simp at h
  | _ :: _, [], h => by simp at h
  | x :: a, y :: b, h => by
    have h1 := List.cons.inj h
    rw [V.int.inj h1.1, map_int_inj h1.2]
theorem isSq_O {H : Hp} {a : Addr} {ns : List Int} (h : IsSq H a ns) : ∃ b, H a = some (SqO b ns) := by
  rcases h with h | h
  · exact ⟨true, h⟩
  · exact ⟨false, h⟩
theorem O_isSq {H : Hp} {a : Addr} {b : Bool} {ns : List Int} (h : H a = some (SqO b ns)) : IsSq H a ns := by
  cases b with
  | true => exact .inl h
  | false => exact .inr h
theorem O_sqA {K : PySem.W.Frag} {H : Hp} {a : Addr} {b : Bool} {ns : List Int} (h : H a = some (SqO b ns)) : SqA K H a (ns.map V.int) := (O_isSq h).imp SqL.of SqT.of

theorem O_val {K : PySem.W.Frag} {H : Hp} {a : Addr} {b : Bool} {ns : List Int} (h : H a = some (SqO b ns)) (hl : ns.length ≤ 4) (hb : ∀ n ∈ ns, sm 107 n) : ValA K H (.ref a) (some (ns.map V.int)) := by
  refine ⟨a, rfl, O_sqA h, ?_, fun x hx => ?_, by rw [List.length_map]; omega⟩
  · rcases O_isSq h with h | h
    · exact ⟨_, .base (.lst h), .inl rfl⟩
    · exact ⟨_, .base (.tup h), .inr rfl⟩
  · obtain ⟨n, hn, rfl⟩ := List.mem_map.mp hx
    exact .inl ⟨n, rfl, sm_mono (hb n hn) (by decide)⟩
/-- repr of a truth value, of None, of nested sequences -/
def rReprG (K : PySem.W.Frag) : List V → Hp → VK → Prop := fun xs H Q =>
  (∃ b : Bool, xs = [.bl b] ∧ Q (.str (if b then "True" else "False")) H) ∨ (xs = [.non] ∧ Q (.str "None") H) ∨
  ∃ (a : Addr) (t : PyData), xs = [.ref a] ∧ Dp K H (.ref a) t ∧ t.showable = true ∧ t.hasDict = false ∧ t.depth ≤ 30 ∧ t.shown.length ≤ sizeLine ∧ Q (.str t.shown) H
theorem call_reprG {X : Cx} (hg : X.A.guards = some []) (hu : X.A.units + 64 < cLine) : CallR X (.builtin "repr") (rReprG X.K) := by
  intro pins s σ H xs us Q I r h
  rcases h with ⟨b, rfl, q⟩ | ⟨rfl, q⟩ | ⟨a, t, rfl, hd, h1, h2, h3, h4, q⟩
  · obtain ⟨u, rfl, r1⟩ := vals1 r
    cases r1
    exact PySem.P.repr_of_bool ⟨.str _, H, I.tok _, ⟨_, rfl⟩, q⟩
  · obtain ⟨u, rfl, r1⟩ := vals1 r
    cases r1
    exact PySem.P.repr_of_none ⟨.str _, H, I.tok _, ⟨_, rfl⟩, q⟩
  · obtain ⟨u, rfl, r1⟩ := vals1 r
    have r2 : RelV (.ref a) u := r1
    obtain ⟨as, rd⟩ := Dp.reads I t (.ref a) u hd r2
    cases r1
    refine repr_of_reads' rd h1 (fun z => ?_) hg (by omega) (fun _ _ z => z) (fun h' u tk kk => ?_) h4
    · rw [h2] at z
      cases z
    · exact ⟨.str _, H, I.kept kk, ⟨_, rfl⟩, q⟩
def pairD (x y : Bool) (A B : List Int) : PyData := .tuple [SqD x A, SqD y B]
theorem sqD_show {x : Bool} {A : List Int} (h : ∀ n ∈ A, n.natAbs.log2 < 1920) : (SqD x A).showable = true := by
  cases x <;> (simp only [SqD, PyData.showable]; exact showAll_ints A h)
theorem sqD_dict {x : Bool} {A : List Int} : (SqD x A).hasDict = false := by
  cases x <;> (simp only [SqD, PyData.hasDict]; exact noDict_ints A)
theorem sqD_depth {x : Bool} {A : List Int} : (SqD x A).depth ≤ 5 := by
  cases x <;> simp [SqD, PyData.depth, depth_ints]
theorem sqD_len {x : Bool} {A : List Int} (h : ∀ n ∈ A, n.natAbs.log2 < 1920) (hl : A.length ≤ 4) : (SqD x A).shown.length ≤ 10000 := by
  have hp := piled_le (A.map fun n => Str.ofString (toString n)) fun t ht => by
    obtain ⟨n, hn, rfl⟩ := List.mem_map.mp ht
    exact int_text_len_1921 (h n hn)
  rw [List.length_map] at hp
  cases x with
  | false =>
    show (tupleText (PyData.shownAll (A.map PyData.int))).length ≤ 10000
    rw [shownAll_ints]
    unfold tupleText
    rw [strLen_append, strLen_append]
    have e1 : (("(" : String) : Str).length = 1 := rfl
    have e2 : (((if ((A.map fun n => Str.ofString (toString n)).length == 1) = true then ",)" else ")" : String)) : Str).length ≤ 2 := by
      split <;> decide
    have hj : (Str.join ", " (A.map fun n => Str.ofString (toString n))).length ≤ 1923 * 4 := by
      cases e : A with
      | nil => show 0 ≤ _; omega
      | cons n r =>
        have := join_length_add (A.map fun n => Str.ofString (toString n)) (by rw [e]; simp)
        rw [e] at this hp hl
        omega
    omega
  | true =>
    show (listText (PyData.shownAll (A.map PyData.int))).length ≤ 10000
    rw [shownAll_ints]
    unfold listText
    rw [strLen_append]
    have e2 : (("]" : String) : Str).length = 1 := rfl
    have e4 := textFrom_le (A.map fun n => Str.ofString (toString n)) 0 ("[" : String)
    have e1 : (("[" : String) : Str).length = 1 := rfl
    omega
theorem pair_len {x y : Bool} {A B : List Int} (hA : ∀ n ∈ A, n.natAbs.log2 < 1920) (lA : A.length ≤ 4) (hB : ∀ n ∈ B, n.natAbs.log2 < 1920) (lB : B.length ≤ 4) : (pairD x y A B).shown.length ≤ sizeLine := by
  have a := sqD_len (x := x) hA lA
  have b := sqD_len (x := y) hB lB
  show (tupleText (PyData.shownAll [SqD x A, SqD y B])).length ≤ sizeLine
  have e : PyData.shownAll [SqD x A, SqD y B] = [(SqD x A).shown, (SqD y B).shown] := rfl
  rw [e]
  unfold tupleText
  rw [strLen_append, strLen_append]
  have e1 : (("(" : String) : Str).length = 1 := rfl
  have e2 : (((if (([(SqD x A).shown, (SqD y B).shown] : List Str).length == 1) = true then ",)" else ")" : String)) : Str).length ≤ 2 := by
    split <;> decide
  have hj := join_length_add [(SqD x A).shown, (SqD y B).shown] (by simp)
  have e3 : piled [(SqD x A).shown, (SqD y B).shown] ≤ 20010 := by
    rw [piled_cons, piled_cons]
    show _ + (_ + 0) ≤ _
    omega
  have e5 : 30000 ≤ sizeLine := by decide
  omega
end KV

/-! tuples of ints, side by side -/
namespace KV
open PySem PySem.Spec PyProof.Rows L2 KM
def TL (H : Hp) : List Addr → List (List Int) → Prop
  | [], [] => True
  | t :: ts, M :: Ls => H t = some (.tup (M.map V.int)) ∧ TL H ts Ls
  | [], _ :: _ => False
  | _ :: _, [] => False
theorem TL.len {H : Hp} : ∀ {ts : List Addr} {Ls : List (List Int)}, TL H ts Ls → ts.length = Ls.length
  | [], [], _ => rfl
  | _ :: _, _ :: _, h => congrArg (· + 1) (TL.len h.2)
  | [], _ :: _, h => h.elim
  | _ :: _, [], h => h.elim
theorem TL.mono {H H' : Hp} : ∀ {ts : List Addr} {Ls : List (List Int)}, (∀ t ∈ ts, ∀ xs, H t = some (.tup xs) → H' t = some (.tup xs)) → TL H ts Ls → TL H' ts Ls
  | [], [], _, _ => trivial
  | t :: _, _ :: _, k, h => ⟨k t List.mem_cons_self _ h.1, TL.mono (fun t ht => k t (List.mem_cons_of_mem _ ht)) h.2⟩
  | [], _ :: _, _, h => h.elim
  | _ :: _, [], _, h => h.elim
theorem TL.same {H H' : Hp} {ts : List Addr} {Ls : List (List Int)} (s : Same H H') (h : TL H ts Ls) : TL H' ts Ls := h.mono fun _ _ _ e => s _ _ e
theorem TL.upd {H : Hp} {ts : List Addr} {Ls : List (List Int)} {l : Addr} {us : List V} {o : HO} (hl : H l = some (.lst us)) (h : TL H ts Ls) : TL (L2.upd H l o) ts Ls := h.mono fun t _ xs e => by
  rw [upd_ne (fun z => by rw [z, hl] at e; cases e)]
  exact e
theorem TL.kp {d c : Addr} {H H' : Hp} {ts : List Addr} {Ls : List (List Int)} (D : Dl H d c) (k : Kp d c H H') (h : TL H ts Ls) : TL H' ts Ls := h.mono fun t _ xs e => by
  obtain ⟨_, cs, b, e1, e2, _⟩ := D
  exact k _ _ (fun z => by rw [z, e1] at e; cases e) (fun z => by rw [z, e2] at e; cases e) e
theorem TL.app {H : Hp} : ∀ {ts us : List Addr} {Ls Ms : List (List Int)}, TL H ts Ls → TL H us Ms → TL H (ts ++ us) (Ls ++ Ms)
  | [], _, [], _, _, g => g
  | _ :: _, _, _ :: _, _, h, g => ⟨h.1, TL.app h.2 g⟩
  | [], _, _ :: _, _, h, _ => h.elim
  | _ :: _, _, [], _, h, _ => h.elim
theorem TL.one {H : Hp} {t : Addr} {M : List Int} (h : H t = some (.tup (M.map V.int))) : TL H [t] [M] := ⟨h, trivial⟩
theorem TL.at {H : Hp} : ∀ {ts : List Addr} {Ls : List (List Int)} {i : Nat} {t : Addr}, TL H ts Ls → ts[i]? = some t → ∃ M, Ls[i]? = some M ∧ H t = some (.tup (M.map V.int))
  | t :: _, M :: _, 0, _, h, e => by
    cases e
    exact ⟨M, rfl, h.1⟩
  | _ :: _, _ :: _, i + 1, _, h, e => TL.at (i := i) h.2 e
  | [], [], _, _, _, e => by simp at e
  | [], _ :: _, _, _, h, _ => h.elim
  | _ :: _, [], _, _, h, _ => h.elim
theorem TL.take {H : Hp} : ∀ {ts : List Addr} {Ls : List (List Int)} (i : Nat), TL H ts Ls → TL H (ts.take i) (Ls.take i)
  | _, _, 0, _ => trivial
  | t :: _, M :: _, i + 1, h => ⟨h.1, TL.take i h.2⟩
  | [], [], _ + 1, _ => trivial
  | [], _ :: _, _ + 1, h => h.elim
  | _ :: _, [], _ + 1, h => h.elim
theorem tyAt_map {ts : List Addr} {i : Nat} {x : V} (h : (ts.map V.ref)[i]? = some x) : ∃ t, ts[i]? = some t ∧ x = .ref t := by
  rw [List.getElem?_map] at h
  cases e : ts[i]? with
  | none => rw [e] at h; cases h
  | some t =>
    rw [e] at h
    exact ⟨t, rfl, (Option.some.inj h).symm⟩
/-- the ints of a tuple that stands there -/
def vI : V → Int
  | .int i => i
  | _ => 0
def kT (H : Hp) (t : Addr) : List Int := match H t with
  | some (.tup xs) => xs.map vI
  | _ => []
theorem vI_map (M : List Int) : (M.map V.int).map vI = M := by
  rw [List.map_map]
  exact List.map_id'' (fun _ => rfl) M
theorem kT_at {H : Hp} {t : Addr} {M : List Int} (h : H t = some (.tup (M.map V.int))) : kT H t = M := by
  unfold kT
  rw [h]
  exact vI_map M
theorem TL.key {H : Hp} : ∀ {ts : List Addr} {Ls : List (List Int)}, TL H ts Ls → Ls = ts.map (kT H) ∧ ∀ t ∈ ts, H t = some (.tup ((kT H t).map V.int))
  | [], [], _ => ⟨rfl, fun t h => by simp at h⟩
  | t :: ts, M :: Ls, h => by
    obtain ⟨a, b⟩ := TL.key h.2
    have e := kT_at h.1
    refine ⟨by rw [List.map_cons, e, ← a], fun u hu => ?_⟩
    rcases List.mem_cons.mp hu with rfl | hu
    · rw [e]
      exact h.1
    · exact b u hu
  | [], _ :: _, h => h.elim
  | _ :: _, [], h => h.elim
theorem TL.of_key {H : Hp} {k : Addr → List Int} : ∀ {ts : List Addr}, (∀ t ∈ ts, H t = some (.tup ((k t).map V.int))) → TL H ts (ts.map k)
  | [], _ => trivial
  | t :: _, h => ⟨h t List.mem_cons_self, TL.of_key fun u hu => h u (List.mem_cons_of_mem _ hu)⟩
/-! as data -/
def lotsD (b : Bool) (Ls : List (List Int)) : PyData := if b = true then .list (Ls.map (SqD false)) else .tuple (Ls.map (SqD false))
theorem TL.dp {K : PySem.W.Frag} {H : Hp} : ∀ {ts : List Addr} {Ls : List (List Int)}, TL H ts Ls → DpAll K H (ts.map V.ref) (Ls.map (SqD false))
  | [], [], _ => .nil
  | _ :: _, _ :: _, h => .cons (.tup (SqT.of h.1) (dp_ints _)) (TL.dp h.2)
  | [], _ :: _, h => h.elim
  | _ :: _, [], h => h.elim
theorem eqv_lot (M N : List Int) : PyData.eqv (SqD false M) (SqD false N) = decide (M = N) := eqv_ints M N
theorem eqv_lots : ∀ Ls Ms : List (List Int), PyData.eqvAll (Ls.map (SqD false)) (Ms.map (SqD false)) = decide (Ls = Ms)
  | [], [] => rfl
  | [], _ :: _ => rfl
  | _ :: _, [] => rfl
  | n :: r, m :: s => by
    show (PyData.eqv (SqD false n) (SqD false m) && PyData.eqvAll (r.map (SqD false)) (s.map (SqD false))) = _
    rw [eqv_lots r s, eqv_lot]
    by_cases z : n = m <;> by_cases y : r = s <;> simp [z, y]
theorem canLay_lots : ∀ Ls : List (List Int), PyData.canLayAll0 (Ls.map (SqD false)) = true
  | [] => rfl
  | M :: r => by
    show (PyData.canLayAll0 (M.map PyData.int) && PyData.canLayAll0 (r.map (SqD false))) = true
    rw [canLay_ints, canLay_lots r]
    rfl
theorem depth_lots : ∀ Ls : List (List Int), PyData.depthAll (Ls.map (SqD false)) ≤ 5
  | [] => by decide
  | M :: r => by
    have h1 := sqD_depth (x := false) (A := M)
    have h2 := depth_lots r
    show max (SqD false M).depth (PyData.depthAll (r.map (SqD false))) ≤ 5
    omega
theorem shaped_lots (b : Bool) (Ls : List (List Int)) : SeqAt.shaped (lotsD b Ls) = true := by
  have h := depth_lots Ls
  cases b with
  | false =>
    show (PyData.canLayAll0 (Ls.map (SqD false)) && decide (PyData.depth (.tuple (Ls.map (SqD false))) ≤ 64)) = true
    rw [canLay_lots, Bool.true_and, decide_eq_true_eq]
    simp only [PyData.depth]
    omega
  | true =>
    show (PyData.canLayAll0 (Ls.map (SqD false)) && decide (PyData.depth (.list (Ls.map (SqD false))) ≤ 64)) = true
    rw [canLay_lots, Bool.true_and, decide_eq_true_eq]
    simp only [PyData.depth]
    omega
end KV

/-! max of a tuple of ints, with default= too -/
namespace KV
open PySem PySem.Spec PyProof.Rows L2
section
variable {prog : Program} {w : World} {A : Around} {s : Shared} {E : Value → Shared → Prop} {Q : Value → Shared → Prop} {l : Addr} {its : List Value} {ns : List Int}
theorem maxT_raw (hh : A.handled = none) (hl : s.heap.IsTuple l its.toArray) (hi : IntsAre its ns) (hne : 0 < ns.length)
    (h : ∀ hp tk m t, (∀ b o, s.heap.get? b = some o → hp.get? b = some o) → m ∈ ns → (∀ y, y ∈ ns → y ≤ m) → Q (.int m t) { s with heap := hp, toks := tk }) : wpAny (model prog w) A (call (.builtin "max") [.ref l]) Q E s := by
  obtain ⟨xs, e⟩ := hi.allInts.items
  have hn : numsOf (intItems xs).toList = ns := by rw [← e]; exact hi.numsOf
  rw [nums_intItems] at hn
  subst hn
  rw [e] at hl
  have hsz : 0 < xs.size := by simpa using hne
  refine PySem.call_max_walkH (PySem.W.iter_tupleW (A := A.in1) hh hl fun s₂ es W st hfp hw hk => ?_)
  refine ⟨_, _, _, _, _, _, _, s.heap, _, rfl, W, st, hfp, by simpa [intItems] using hsz, hw, hk, fun i j vi vj s' Q' E' _ hi' hj' q => CmpOf.ints_gt (numAt xs) (fun _ _ => intItems_at) i j vi vj s' Q' E' hi' hj' q, fun v s' hP mv => ?_⟩
  obtain ⟨hp, tk, rfl, kk⟩ := PySem.W.moved_old es rfl mv
  have hs : (intItems xs).toList.toArray.size = xs.size := by simp [intItems]
  rw [hs] at hP
  have hP' : (intItems xs)[argBest (fun i j => decide (numAt xs i > numAt xs j)) (xs.size - 1)]? = some v := by simpa using hP
  obtain ⟨t, rfl⟩ := intItems_at hP'
  obtain ⟨h1, h2⟩ := argBest_gt (numAt xs) (xs.size - 1)
  refine h hp tk _ t kk ?_ fun a ha => ?_
  · rw [numAt_eq]
    exact PySem.getD_mem (by rw [List.length_map, Array.length_toList]; omega)
  · obtain ⟨j, hj, rfl⟩ := mem_getD ha
    rw [List.length_map, Array.length_toList] at hj
    rw [← numAt_eq]
    exact h2 j (by omega)
theorem maxTD_raw {d : Value} (hh : A.handled = none) (hl : s.heap.IsTuple l its.toArray) (hi : IntsAre its ns)
    (h0 : ns = [] → ∀ hp tk, (∀ b o, s.heap.get? b = some o → hp.get? b = some o) → Q d { s with heap := hp, toks := tk })
    (h : ∀ hp tk m t, (∀ b o, s.heap.get? b = some o → hp.get? b = some o) → m ∈ ns → (∀ y, y ∈ ns → y ≤ m) → Q (.int m t) { s with heap := hp, toks := tk }) : wpAny (model prog w) A (call (.builtin "max") [.ref l] [(Str.ofString "default", d)]) Q E s := by
  obtain ⟨xs, e⟩ := hi.allInts.items
  have hn : numsOf (intItems xs).toList = ns := by rw [← e]; exact hi.numsOf
  rw [nums_intItems] at hn
  subst hn
  rw [e] at hl
  have hs : (intItems xs).toList.toArray.size = xs.size := by simp [intItems]
  refine PySem.call_max_walkD (PySem.W.iter_tupleW (A := A.in1) hh hl fun s₂ es W st hfp hw hk => ?_)
  refine ⟨_, _, _, _, _, _, _, s.heap, _, rfl, W, st, hfp, hw, hk, fun z s' mv => ?_, fun hsz => ⟨fun i j vi vj s' Q' E' _ hi' hj' q => CmpOf.ints_gt (numAt xs) (fun _ _ => intItems_at) i j vi vj s' Q' E' hi' hj' q, fun v s' hP mv => ?_⟩⟩
  · obtain ⟨hp, tk, rfl, kk⟩ := PySem.W.moved_old es rfl mv
    rw [hs] at z
    refine h0 (List.eq_nil_of_length_eq_zero ?_) hp tk kk
    rw [List.length_map, Array.length_toList]
    exact z
  · obtain ⟨hp, tk, rfl, kk⟩ := PySem.W.moved_old es rfl mv
    rw [hs] at hP hsz
    have hP' : (intItems xs)[argBest (fun i j => decide (numAt xs i > numAt xs j)) (xs.size - 1)]? = some v := by simpa using hP
    obtain ⟨t, rfl⟩ := intItems_at hP'
    obtain ⟨h1, h2⟩ := argBest_gt (numAt xs) (xs.size - 1)
    refine h hp tk _ t kk ?_ fun a ha => ?_
    · rw [numAt_eq]
      exact PySem.getD_mem (by rw [List.length_map, Array.length_toList]; omega)
    · obtain ⟨j, hj, rfl⟩ := mem_getD ha
      rw [List.length_map, Array.length_toList] at hj
      rw [← numAt_eq]
      exact h2 j (by omega)
end
def rMaxT (K : PySem.W.Frag) : List V → Hp → VK → Prop := fun vs H Q => ∃ (a : Addr) (ns : List Int), vs = [.ref a] ∧ SqT K H a (ns.map V.int) ∧ 0 < ns.length ∧ ∀ m, m ∈ ns → (∀ y, y ∈ ns → y ≤ m) → Q (.int m) H
theorem cr_maxT {X : Cx} (hc : X.calm = true) : CallR X (.builtin "max") (rMaxT X.K) := by
  intro pins s σ H vs us Q I r h
  obtain ⟨a, ns, rfl, hs, hne, q⟩ := h
  obtain ⟨its, rv, hl, _⟩ := I.tuple hs
  rw [Vals.ref1 r]
  exact maxT_raw (I.ok.hd hc) hl rv.ints hne fun h' tk m t' hk h1 h2 => ⟨.int _, H, I.kept hk, ⟨_, rfl⟩, q m h1 h2⟩
/-- the greatest, or what is told for none -/
def TopM (d : Int) (L : List Int) (m : Int) : Prop := (L = [] ∧ m = d) ∨ (m ∈ L ∧ ∀ y ∈ L, y ≤ m)
def rMaxTD (K : PySem.W.Frag) : List V → List V → Hp → VK → Prop := fun vs zs H Q => ∃ (a : Addr) (ns : List Int) (d : Int), vs = [.ref a] ∧ zs = [.int d] ∧ SqT K H a (ns.map V.int) ∧ ∀ m, TopM d ns m → Q (.int m) H
theorem cr_maxTD {X : Cx} (hc : X.calm = true) : CallRK X (.builtin "max") [Str.ofString "default"] (rMaxTD X.K) := by
  intro pins s σ H vs zs us ws Q I r rz h
  obtain ⟨a, ns, d, rfl, rfl, hs, q⟩ := h
  obtain ⟨its, rv, hl, _⟩ := I.tuple hs
  rw [Vals.ref1 r]
  obtain ⟨w1, rfl, r1⟩ := vals1 rz
  exact maxTD_raw (I.ok.hd hc) hl rv.ints (fun z h' tk hk => ⟨.int _, H, I.kept hk, r1, q d (.inl ⟨z, rfl⟩)⟩) fun h' tk m t' hk h1 h2 => ⟨.int _, H, I.kept hk, ⟨_, rfl⟩, q m (.inr ⟨h1, h2⟩)⟩
end KV

/-! the program: products, coarser lots -/
namespace KV
open PySem PySem.Spec PyProof.Rows L2 KM
section
variable {P : Program} {w : World} {K : PySem.W.Frag} {mg : Str → Option Value} {base : Heap} {C C2 : Addr}
def spPrd (K : PySem.W.Frag) : Sp := fun vs H Q _ => ∃ (a : Addr) (ns : List Int), vs = [.ref a] ∧ SqT K H a (ns.map V.int) ∧ (∀ i, sm 100 (prd (ns.take i))) ∧ (∀ n ∈ ns, sm 100 n) ∧ Q (.int (prd ns)) H

theorem sc9 : FnScope ["numbers", "whole", "number"] ["numbers"] (defScope (top 9)) := ⟨rfl, rfl, rfl, by decide +kernel, rfl, by decide +kernel, by decide +kernel⟩
theorem ok_prd {f : Addr} {fd : FuncData}  (F : Fun K "product_of" "product_of" (top 9) f fd) : FnOk P w K mg base CX0 1 f fd ["numbers"] (spPrd K) := by
  refine F.ok sc9 (fun vs H Q E h => ?_) (fun cdv A outer s H vs Q E hr h => ⟨_,
    (pss_cons (ps_set (i := 1) sc9.nd rfl (.inl rfl) pe_int)
    (pss_cons (ps_for PassesOwn.never rfl (pi_tup (pv 0)) (pg_name (i := 2) sc9.nd rfl (.inl rfl)) (pss_one (ps_aug (i := 1) sc9.nd rfl (.inl rfl) (pv 2) iop_mulW)))
    (pss_one (ps_ret (pv 1))))), ?_⟩)
  · obtain ⟨a, ns, rfl, _⟩ := h
    rfl
  obtain ⟨a, ns, rfl, hS, hp, hn, q⟩ := h
  refine ⟨_, rfl, a, rfl, ⟨_, hS⟩, for_tup (xs := ns.map V.int) (fun i σ H' => (∃ v : Option V, σ = [some (.ref a), some (.int (prd (ns.take i))), v]) ∧ H' = H) ⟨⟨none, rfl⟩, rfl⟩ ?_ ?_ ?_⟩
  · rintro i σ H' _ ⟨_, rfl⟩
    exact hS
  · rintro i x σ H' hx ⟨⟨v, rfl⟩, rfl⟩
    obtain ⟨n, hn', rfl⟩ := map_at hx
    refine ⟨_, rfl, _, rfl, _, _, rfl, rfl, mulW (hp i) (hn n (List.mem_of_getElem? hn')) (by decide) (by decide) (by decide), ⟨some (.int n), ?_⟩, rfl⟩
    rw [prd_at hn']
    rfl
  · rintro σ H' ⟨⟨v, rfl⟩, rfl⟩
    rw [List.length_map, List.take_length]
    exact ⟨_, rfl, q⟩


theorem dvi {a b : Int} : decide (V.int a = V.int b) = decide (a = b) := by simp
/-- a lot of a small product -/
structure SmL (L : List Int) : Prop where
  lot : Lot L
  sml : prd L ≤ 2000
  few : ∀ k, (cl L k).length ≤ 1024
theorem SmL.prd_le {L M : List Int} {k : Nat} (h : SmL L) (hM : M ∈ cl L k) : prd M ≤ 2000 := by
  obtain ⟨a, _, c⟩ := cl_lot hM
  have d : prd M ∣ prd L := prd_dvd a.co fun q hq => by
    obtain ⟨p, hp, e⟩ := c q hq
    exact Int.dvd_trans e (dvd_prd hp)
  have := Int.le_of_dvd (prd_pos h.lot.ge) d
  have := h.sml
  omega
theorem le_prd {M : List Int} (h : ∀ n ∈ M, 3 ≤ n) {q : Int} (hq : q ∈ M) : q ≤ prd M := Int.le_of_dvd (prd_pos h) (dvd_prd hq)
theorem lot_len : ∀ {M : List Int} {j : Int}, 3 ≤ j → (∀ n ∈ M, j ≤ n) → M.Pairwise (fun a b => a < b) → j ^ M.length ≤ prd M
  | [], j, _, _, _ => by show j ^ 0 ≤ 1; rw [Int.pow_zero]; exact Int.le_refl 1
  | m :: r, j, hj, h, p => by
    obtain ⟨p1, p2⟩ := List.pairwise_cons.mp p
    have ih := lot_len hj (fun n hn => h n (List.mem_cons_of_mem _ hn)) p2
    have hm := h m List.mem_cons_self
    rw [List.length_cons, Int.pow_succ, Int.mul_comm]
    show j * j ^ r.length ≤ m * prd r
    have p0 : (0 : Int) ≤ j ^ r.length := Int.pow_nonneg (by omega)
    exact Int.mul_le_mul hm ih p0 (by omega)
theorem SmL.len {L M : List Int} {k : Nat} (h : SmL L) (hM : M ∈ cl L k) : M.length ≤ 6 := by
  obtain ⟨a, _, _⟩ := cl_lot hM
  have h1 := lot_len (j := 3) (by decide) a.ge a.lt
  have h2 := h.prd_le hM
  refine Classical.byContradiction fun z => ?_
  have h3 : (3 : Int) ^ 7 ≤ 3 ^ M.length := by
    have z := Nat.pow_le_pow_right (show 0 < 3 by decide) (show 7 ≤ M.length by omega)
    have e : ((3 ^ M.length : Nat) : Int) = (3 : Int) ^ M.length := by rw [Int.natCast_pow]; rfl
    omega
  have h4 : (3 : Int) ^ 7 = 2187 := by decide
  omega
theorem SmL.fitL {L M : List Int} {k : Nat} (h : SmL L) (hM : M ∈ cl L k) : FitL M := by
  obtain ⟨a, _, _⟩ := cl_lot hM
  exact ⟨a.ge, a.co, Int.lt_of_le_of_lt (h.prd_le hM) (by decide), by have := h.len hM; omega⟩
theorem SmL.takes {L M : List Int} {k : Nat} (h : SmL L) (hM : M ∈ cl L k) (i : Nat) : sm 100 (prd (M.take i)) := by
  obtain ⟨a, _, _⟩ := cl_lot hM
  have d : prd (M.take i) ∣ prd M := prd_dvd ((a.take i).co) fun q hq => dvd_prd (List.mem_of_mem_take hq)
  have := Int.le_of_dvd (prd_pos a.ge) d
  have := h.prd_le hM
  have := prd_pos (a.take i).ge
  exact sm_of (by omega) (Int.lt_of_le_of_lt (show prd (M.take i) ≤ 2000 by omega) (by decide))
theorem SmL.sms {L M : List Int} {k : Nat} (h : SmL L) (hM : M ∈ cl L k) : ∀ n ∈ M, sm 100 n := fun n hn => by
  obtain ⟨a, _, _⟩ := cl_lot hM
  have := le_prd a.ge hn
  have := h.prd_le hM
  have := a.ge n hn
  exact sm_of (by omega) (Int.lt_of_le_of_lt (show n ≤ 2000 by omega) (by decide))
def spCoL (K : PySem.W.Frag) : Sp := fun vs H Q _ => ∃ (a : Addr) (L : List Int), vs = [.ref a] ∧ SqT K H a (L.map V.int) ∧ SmL L ∧ ∀ (l : Addr) (ts : List Addr) (k : Nat) (H' : Hp), Same H H' → H' l = some (.lst (ts.map V.ref)) → TL H' ts (cl L k) → (∀ p ∈ L, 0 < p ∧ p < 3 + (k : Int)) → Q (.ref l) H'

theorem sc22 : FnScope ["lot", "lots", "divisor", "modulus", "coarser"] ["lot"] (defScope (top 22)) := ⟨rfl, rfl, rfl, by decide +kernel, rfl, by decide +kernel, by decide +kernel⟩
theorem ok_coL {f : Addr} {fd : FuncData} (B : Bl mg) (CPr : Cal P w K mg base CX0 1 "product_of" ["numbers"] (spPrd K)) (F : Fun K "_coarser_lots" "_coarser_lots" (top 22) f fd) : FnOk P w K mg base CX0 2 f fd ["lot"] (spCoL K) := by
  refine F.ok sc22 (fun vs H Q E h => ?_) (fun cdv A outer s H vs Q E hr h => ⟨_,
    (pss_cons (ps_set (i := 1) sc22.nd rfl (.inl rfl) (pe_lst (pa_cons (pe_tup pa_nil) pa_nil)))
    (pss_cons (ps_for PassesOwn.never rfl (pi_range2 (by rfl) B.range (pa_cons pe_int (pa_cons (pe_op op_add (pe_callBK (cr_maxTD rfl) (by rfl) B.max (by decide +kernel) (pa_cons (pv 0) pa_nil) (pk_cons pe_int pk_nil)) pe_int) pa_nil))) (pg_name (i := 2) sc22.nd rfl (.inr rfl)) (pss_one (ps_if (pt_val (pe_callB (cr_any rfl) (by rfl) B.any (by decide +kernel) (pa_cons (pe_lc (own := [("modulus", 3)]) (g := gName 3) (tt := tYes) rfl sc22.nd (pi_tup (pv 0)) (blkOk_by (N := ["lot", "lots", "divisor", "modulus", "coarser"]) (sc := defScope (top 22)) (by decide +kernel))
        (fun _ _ _ _ _ => (pg_name (i := 3) sc22.nd rfl (Or.inl rfl))) (fun _ _ _ _ _ => pts_nil) (fun _ _ _ _ _ => (pe_cmpR op_eq (pe_op op_mod (pv 3) (pv 2)) pe_int (nomark _)))) pa_nil))) (pss_one (ps_set (i := 1) sc22.nd rfl (.inl rfl) (pe_op op_cat (pv 1) (pe_lc (own := [("coarser", 4)]) (g := gName 4) rfl sc22.nd (pi_list (pv 1)) (blkOk_by (N := ["lot", "lots", "divisor", "modulus", "coarser"]) (sc := defScope (top 22)) (by decide +kernel))
        (fun _ _ _ _ _ => (pg_name (i := 4) sc22.nd rfl (Or.inl rfl))) (fun _ _ _ _ _ => (pts_one (pt_cmpR op_eq (pe_callBfun cr_gcd (by rfl) B.gcd (pa_cons (pv 2) (pa_cons (pe_cal CPr hr (by decide) (pa_cons (pv 4) pa_nil)) pa_nil))) pe_int (nomark _)))) (fun _ _ _ _ _ => (pe_op (r := rCatA K) op_catA (pv 4) (pe_tup (pa_cons (pv 2) pa_nil)))))))) pss_nil)))
    (pss_one (ps_ret (pv 1))))), ?_⟩)
  · obtain ⟨a, L, rfl, _⟩ := h
    rfl
  obtain ⟨a, L, rfl, hS, hL, q⟩ := h
  refine ⟨(by show 0 ≤ sizeLine; decide), fun t0 ht0 => ⟨(by show 1 ≤ sizeLine; decide), fun l0 hl0 => ?_⟩⟩
  have sa : Same H (upd H t0 (.tup [])) := Same.new ht0
  have sb : Same (upd H t0 (.tup [])) (upd (upd H t0 (.tup [])) l0 (.lst [.ref t0])) := Same.new hl0
  have f1 : upd (upd H t0 (.tup [])) l0 (.lst [.ref t0]) l0 = some (.lst ([t0].map V.ref)) := upd_same
  have g1 : TL (upd (upd H t0 (.tup [])) l0 (.lst [.ref t0])) [t0] (cl L 0) := TL.one (sb _ _ upd_same)
  have s1 := sa.trans sb
  dsimp only [gName]
  generalize upd (upd H t0 (.tup [])) l0 (.lst [.ref t0]) = H1 at f1 g1 s1
  have hS1 := Same.seqT s1 hS
  refine ⟨_, rfl, a, L, 0, rfl, rfl, hS1, fun m hm => ?_⟩
  have hk : ∀ p ∈ L, 0 < p ∧ p < 3 + ((m + 1 - 3).toNat : Int) := fun p hp => by
    have := hL.lot.ge p hp
    rcases hm with ⟨e, _⟩ | ⟨_, hx⟩
    · rw [e] at hp
      cases hp
    · have := hx p hp
      omega
  have hm2 : -1 ≤ m ∧ m ≤ 2000 := by
    rcases hm with ⟨_, e⟩ | ⟨hi, _⟩
    · omega
    · have := le_prd hL.lot.ge hi
      have := hL.lot.ge m hi
      have := hL.sml
      omega
  refine ⟨m, 1, rfl, rfl, 3, m + 1, rfl, ⟨by omega, by omega, by omega, by omega⟩, for_range (n := (m + 1 - 3).toNat) (fun i σ H' => ∃ (l : Addr) (ts : List Addr) (v2 : Option V), σ = [some (.ref a), some (.ref l), v2, none, none] ∧ Same H1 H' ∧ H' l = some (.lst (ts.map V.ref)) ∧ TL H' ts (cl L i)) ⟨l0, [t0], none, rfl, Same.refl H1, f1, g1⟩ ?_ ?_⟩
  · rintro i σ H2 hi ⟨l, ts, v2, rfl, s2, f2, g2⟩
    dsimp only [gName]
    have hS2 := Same.seqT s2 hS1
    have hq : (3 : Int) + (i : Int) ≤ 2000 := by omega
    refine ⟨_, rfl, a, rfl, ⟨_, hS2⟩, fun D hD => lc_tup (xs := L.map V.int) (fun j H' => Same H2 H' ∧ H' D = some (.lst ((L.take j).map fun p => V.bl (decide (V.int (p % (3 + (i : Int))) = V.int 0))))) ⟨Same.new hD, upd_same⟩ (fun j H' _ p => Same.seqT p.1 hS2) ?_ ?_⟩
    · rintro j x H3 hx ⟨p1, p2⟩
      obtain ⟨p, hp, rfl⟩ := map_at hx
      refine ⟨rfl, _, rfl, _, rfl, _, _, rfl, rfl, (by omega), rfl, _, p2, len_lt ?_, Same.upd p1 hD, ?_⟩
      · rw [List.length_map]
        have := List.length_take_le' j L
        have := hL.len (cl_self hL.lot hk)
        omega
      · rw [upd_same, take_at hp, List.map_append]
        rfl
    · rintro H3 ⟨p1, p2⟩
      rw [List.length_map, List.take_length] at p2
      refine ⟨D, L.map fun p => decide (V.int (p % (3 + (i : Int))) = V.int 0), rfl, SqL.of (by rw [p2, List.map_map]; rfl), ?_⟩
      have e : (L.map fun p => decide (V.int (p % (3 + (i : Int))) = V.int 0)).any id = hitQ L (3 + (i : Int)) := by
        unfold hitQ
        rw [List.any_map]
        exact congrArg (List.any L) (funext fun p => dvi)
      rw [e]
      have f3 := p1 _ _ f2
      have g3 := g2.same p1
      refine ⟨_, rfl, ?_⟩
      by_cases z : hitQ L (3 + (i : Int)) = true
      · refine iteP z ⟨_, rfl, _, rfl, l, rfl, ⟨_, SqL.of f3⟩, fun D2 hD2 => ?_⟩
        refine lc_list (xs := ts.map V.ref) (fun j H' => Same H3 H' ∧ ∃ us : List Addr, H' D2 = some (.lst (us.map V.ref)) ∧ TL H' us ((((cl L i).take j).filter fun M => cop M (3 + (i : Int))).map fun M => M ++ [3 + (i : Int)])) ⟨Same.new hD2, [], upd_same, trivial⟩ (fun j H' _ p => SqL.of (p.1 _ _ f3)) ?_ ?_
        · rintro j x H4 hx ⟨p3, us, p4, p5⟩
          obtain ⟨t, ht, rfl⟩ := tyAt_map hx
          obtain ⟨M, hM, hT⟩ := g3.at ht
          have hT4 := p3 _ _ hT
          have hMc := List.mem_of_getElem? hM
          refine ⟨rfl, _, rfl, _, rfl, t, M, rfl, SqT.of hT4, hL.takes hMc, hL.sms hMc, _, _, rfl, rfl, _, rfl, ?_⟩
          have ec : decide (V.int (((3 + (i : Int)).natAbs.gcd (prd M).natAbs : Nat) : Int) = V.int 1) = cop M (3 + (i : Int)) := by
            rw [dvi, cop_prd]
            exact decide_eq_decide.mpr ⟨fun y => Int.ofNat.inj y, fun y => congrArg Int.ofNat y⟩
          rw [ec]
          have ll : (((cl L i).take j).filter fun M => cop M (3 + (i : Int))).length ≤ 1024 := by
            have := List.length_filter_le (fun M => cop M (3 + (i : Int))) ((cl L i).take j)
            have := List.length_take_le' j (cl L i)
            have := hL.few i
            omega
          have lu := p5.len
          rw [List.length_map] at lu
          have et : (cl L i).take (j + 1) = (cl L i).take j ++ [M] := take_at hM
          by_cases y : cop M (3 + (i : Int)) = true
          · refine iteP y ⟨_, rfl, _, rfl, (by show 1 ≤ sizeLine; decide), fun r hr2 => ?_⟩
            have sr : Same H4 (upd H4 r (.tup [.int (3 + (i : Int))])) := Same.new hr2
            have fr : upd H4 r (.tup [.int (3 + (i : Int))]) r = some (.tup ([3 + (i : Int)].map V.int)) := upd_same
            have done : ∀ (t2 : Addr) (H5 : Hp), Same H4 H5 → H5 t2 = some (.tup ((M ++ [3 + (i : Int)]).map V.int)) → ∃ acc, H5 D2 = some (.lst acc) ∧ acc.length < sizeLine ∧ Same H3 (upd H5 D2 (.lst (acc ++ [.ref t2]))) ∧ ∃ us : List Addr, upd H5 D2 (.lst (acc ++ [.ref t2])) D2 = some (.lst (us.map V.ref)) ∧ TL (upd H5 D2 (.lst (acc ++ [.ref t2]))) us ((((cl L i).take (j + 1)).filter fun M => cop M (3 + (i : Int))).map fun M => M ++ [3 + (i : Int)]) := fun t2 H5 s5 f5 => by
              refine ⟨_, s5 _ _ p4, len_lt (by rw [List.length_map]; omega), Same.upd (p3.trans s5) hD2, us ++ [t2], ?_, ?_⟩
              · rw [upd_same, List.map_append]
                rfl
              · rw [et, List.filter_append, List.filter_cons_of_pos (by exact y), List.map_append]
                exact TL.upd (s5 _ _ p4) ((p5.same s5).app (TL.one f5))
            generalize upd H4 r (.tup [.int (3 + (i : Int))]) = H5 at sr fr done
            refine ⟨t, r, M.map V.int, [3 + (i : Int)].map V.int, rfl, rfl, SqT.of (sr _ _ hT4), SqT.of fr, ?_, fun em => done r H5 sr ?_, fun _ ne => absurd ne (by simp), fun _ _ t2 ht2 => done t2 _ (sr.trans (Same.new ht2)) ?_⟩
            · rw [List.length_map, List.length_map]
              have := hL.len hMc
              have e5 : 30000 ≤ sizeLine := by decide
              simp only [List.length_cons, List.length_nil]
              omega
            · have em2 : M = [] := List.map_eq_nil_iff.mp em
              rw [em2]
              exact fr
            · rw [upd_same, List.map_append]
          · refine iteN y ⟨p3, us, p4, ?_⟩
            rw [et, List.filter_append, List.filter_cons_of_neg (by exact y)]
            simpa using p5
        · rintro H4 ⟨p3, us, p4, p5⟩
          rw [List.length_map, g3.len, List.take_length] at p5
          have f4 := p3 _ _ f3
          have g4 := g3.same p3
          have n1 := g4.len
          have n2 := p5.len
          have n3 := hL.few (i + 1)
          have n4 : (cl L (i + 1)).length = (cl L i).length + (((cl L i).filter fun M => cop M (3 + (i : Int))).map fun M => M ++ [3 + (i : Int)]).length := by
            show (cst L (cl L i) (3 + (i : Int))).length = _
            unfold cst addQ
            rw [if_pos z, List.length_append]
          refine ⟨l, D2, _, _, rfl, rfl, f4, p4, ?_, fun b hb => ?_⟩
          · rw [List.length_map, List.length_map]
            have e5 : 30000 ≤ sizeLine := by decide
            omega
          · refine ⟨b, ts ++ us, _, rfl, (s2.trans p1).trans (p3.trans (Same.new hb)), ?_, ?_⟩
            · rw [upd_same, List.map_append]
            · have g5 := (g4.app p5).same (Same.new hb (o := .lst (ts.map V.ref ++ us.map V.ref)))
              show TL _ (ts ++ us) (cst L (cl L i) (3 + (i : Int)))
              unfold cst addQ
              rw [if_pos z]
              exact g5
      · refine iteN z ⟨l, ts, _, rfl, s2.trans p1, f3, ?_⟩
        show TL H3 ts (cst L (cl L i) (3 + (i : Int)))
        unfold cst
        rw [if_neg z]
        exact g3
  · rintro σ H2 ⟨l, ts, v2, rfl, s2, f2, g2⟩
    exact ⟨_, rfl, q l ts _ H2 (s1.trans s2) f2 g2 hk⟩


end
end KV

/-! sorted of a list of tuples of ints of any lengths, none of them empty but perhaps the first; however many -/
namespace KV
open PySem PySem.Spec L2 PyProof.Rows
/-- a tuple of these ints stands there -/
def TpAt (g : Heap) (v : Value) (ns : List Int) : Prop := ∃ (p : Addr) (its : Array Value), v = .ref p ∧ IsTup g p its ∧ IntsAre its.toList ns
theorem TpAt.stay {g g' : Heap} {v : Value} {ns : List Int} (x : TpAt g v ns) (k : ∀ b o, g.get? b = some o → o.cls = .type "tuple" → g'.get? b = some o) : TpAt g' v ns := by
  obtain ⟨p, its, rfl, ⟨ob, h1, h2, m, h3⟩, h4⟩ := x
  exact ⟨p, its, rfl, ⟨ob, k _ _ h1 h2, h2, m, h3⟩, h4⟩
section
variable {prog : Program} {w : World} {A : Around} {s : Shared} {E : Value → Shared → Prop}
/-- one item behind the other, the shorter first where one ends -/
theorem lex_any {c fin : Bool} {Q : Bool → Shared → Prop} : ∀ {xs ys : List Value} {ns ms : List Int} (i : Nat), IntsAre xs ns → IntsAre ys ms → fin = decide (ns.length < ms.length) → Q (HT.lexLt ns ms) s → PySem.W.KatLex prog w A c fin Q (xs.zip ys) i s
  | [], _, _, _, _, .nil, .nil, hf, h => by
    subst hf
    exact PySem.W.kat_nil h
  | [], _, _, _, _, .nil, .cons n t r, hf, h => by
    subst hf
    exact PySem.W.kat_nil (by rw [show decide (([] : List Int).length < (n :: _ : List Int).length) = true from decide_eq_true (by simp)]; exact h)
  | _, [], _, _, _, .cons n t r, .nil, hf, h => by
    subst hf
    rw [List.zip_nil_right]
    exact PySem.W.kat_nil (by rw [show decide ((n :: _ : List Int).length < ([] : List Int).length) = false from decide_eq_false (by simp)]; exact h)
  | _ :: xs, _ :: ys, _, _, i, .cons n t r, .cons m u r', hf, h => by
    rw [List.zip_cons_cons]
    refine PySem.W.kat_cons (wpAny_eqBool_int ?_)
    by_cases z : n = m
    · subst z
      rw [beq_self_eq_true]
      refine PySem.W.kat_yes (lex_any (i + 1) r r' (by rw [hf]; simp) ?_)
      rw [HT.lexLt_cons, if_pos rfl] at h
      exact h
    · rw [show (n == m) = false from beq_eq_false_iff_ne.mpr z]
      refine PySem.W.kat_no (TS.oneLt_ints _ ?_)
      rw [HT.lexLt_cons, if_neg z] at h
      exact h
theorem tp_lt1 {b : Bool} {v u : Value} {ns ms : List Int} {Q : Bool → Shared → Prop} (hv : TpAt s.heap v ns) (hu : TpAt s.heap u ms) (h : Q (HT.lexLt ns ms) s) : wpAny (model prog w) A (keyLt' (tuples' b) v u) Q E s := by
  obtain ⟨p, xs, rfl, ⟨o1, a1, a2, m1, a3⟩, a4⟩ := hv
  obtain ⟨q, ys, rfl, ⟨o2, b1, b2, m2, b3⟩, b4⟩ := hu
  refine PySem.W.kat_lt a1 a3 b1 b3 (lex_any 0 a4 b4 ?_ h)
  rw [← a4.length, ← b4.length, Array.length_toList, Array.length_toList]
theorem tp_type {M : Model} {v : Value} {ns : List Int} (hv : TpAt s.heap v ns) : PySem.W.Looks M s.heap (typeOf v) (.type "tuple") := by
  obtain ⟨p, xs, rfl, ⟨o1, a1, a2, m1, a3⟩, a4⟩ := hv
  rw [← a2]
  exact (PySem.W.Looks.ld a1).andThen .now
theorem tp_lt0 {v u : Value} {ns ms : List Int} {Q : Bool → Shared → Prop} (hc : A.units < cLine) (hv : TpAt s.heap v ns) (hu : TpAt s.heap u ms) (h : Q (HT.lexLt ns ms) s) : wpAny (model prog w) A (keyLt' oneType' v u) Q E s := by
  have tv : PySem.W.Looks (model prog w) s.heap (typeOf v) (.type "tuple") := tp_type hv
  have sp : PySem.W.Looks (model prog w) s.heap (specialOf v "__lt__") (some (.builtin "tuple.__lt__")) := tv.andThen (PySem.W.Looks.of_pure PySem.F.slot_tuple_lt.lookup)
  have iv : PySem.W.Looks (model prog w) s.heap (isInstance v (.type "tuple")) true := tv.andThen (PySem.W.Looks.of_pure AutoSeq1.sub_tuple_tuple)
  obtain ⟨p, xs, rfl, ⟨⟨cls, dd, data, sl⟩, a1, a2, m1, a3⟩, a4⟩ := hv
  obtain ⟨q, ys, rfl, ⟨⟨cls2, dd2, data2, sl2⟩, b1, b2, m2, b3⟩, b4⟩ := hu
  simp only at a2 a3 b2 b3
  subst a2 a3 b2 b3
  rw [keyLt'_oneType, oneLt'_eq]
  simp only [if_true]
  refine wpAny_bind (wpAny_cRoomFor hc (wpAny_bind (NtL.csib (E := E) sp (PySem.F.slot_tuple_lt.bind _) ?_)))
  exact call_meets PySem.F.slot_tuple_lt ⟨_, a1, rfl⟩ PySem.F.entry_tuple_lt (PySem.F.args_tuple_lt_2 _ _) (HT.tuple_lt_ints p q xs ys m1 m2 dd dd2 sl sl2 ns ms a4 b4) ⟨a1, b1, wpAny_truthy_bool h⟩
/-- the first items that are told, None for an empty tuple -/
theorem tp_firsts {M : Model} : ∀ {vs : List Value} {k : Value → List Int} {R : List (Option Value) → Shared → Prop}, (∀ v ∈ vs, TpAt s.heap v (k v)) → (∀ fs : List (Option Value), fs.length = vs.length → (∀ (i : Nat) (v : Value), vs[i]? = some v → k v = [] → fs[i]? = some none) → R fs s) → wpAny M A (vs.mapM firstOfTuple') R E s
  | [], _, _, _, h => by
    rw [List.mapM_nil]
    exact wpAny_pure (h [] rfl fun i v e _ => by simp at e)
  | v :: vs, k, R, hv, h => by
    rw [List.mapM_cons]
    refine wpAny_bind ?_
    have hx := hv v List.mem_cons_self
    have tv : PySem.W.Looks M s.heap (typeOf v) (.type "tuple") := tp_type hx
    obtain ⟨p, xs, rfl, ⟨ob, a1, a2, m1, a3⟩, a4⟩ := hx
    rw [PySem.W.kas_first_eq]
    refine wpAny_bind (tv.here ?_)
    rw [if_neg (by first | decide | simp)]
    refine wpAny_bind (listItems_at a1 a3 (wpAny_pure ?_))
    refine wpAny_bind (tp_firsts (vs := vs) (k := k) (fun u hu => hv u (List.mem_cons_of_mem _ hu)) fun fs e1 e2 => wpAny_pure (h _ (by simp [e1]) fun i u hi hk => ?_))
    cases i with
    | zero =>
      have eu : Value.ref p = u := Option.some.inj hi
      rw [← eu] at hk
      rw [hk] at a4
      have z := a4.length
      rw [Array.length_toList] at z
      have e0 : xs[0]? = none := Array.getElem?_eq_none (by rw [z]; exact Nat.le_refl _)
      show some (xs[0]?) = some none
      rw [e0]
    | succ i => exact e2 i u hi hk
theorem tp_kind0 {M : Model} {vs : List Value} {k : Value → List Int} {Q : SortKind → Shared → Prop} (h2 : 2 ≤ vs.length) (hv : ∀ v ∈ vs, TpAt s.heap v (k v)) (h0 : ∀ v, vs[0]? = some v → k v = []) (h : Q oneType' s) : wpAny M A (keyKind' vs.toArray) Q E s := by
  obtain ⟨v0, rest, rfl⟩ : ∃ v0 rest, vs = v0 :: rest := by
    match vs, h2 with
    | v :: r, _ => exact ⟨v, r, rfl⟩
  rw [keyKind'_eq, List.mapM_toArray, map_eq_pure_bind]
  refine wpAny_bind (wpAny_bind (tp_firsts hv fun fs e1 e2 => wpAny_pure ?_))
  obtain ⟨fr, rfl⟩ : ∃ fr, fs = none :: fr := by
    have z := e2 0 v0 rfl (h0 v0 rfl)
    match fs, z with
    | f :: fr, z => exact ⟨fr, by rw [show f = none from Option.some.inj z]⟩
  rw [if_neg (by simp), if_neg (by simp)]
  rw [oneTypeOnly'_eq, List.mapM_toArray, map_eq_pure_bind]
  refine wpAny_bind (wpAny_bind (wpAny_bind (PySem.W.kas_mapM (r := Value.type "tuple") _ (fun v hm Q' hq => (tp_type (hv v hm)).here hq) (wpAny_pure ?_))))
  have ha : ((List.map (fun _ => Value.type "tuple") (v0 :: rest)).toArray.all fun x => x == Value.type "tuple") = true := by
    simp only [List.all_toArray, List.all_map, List.all_eq_true]
    exact fun _ _ => rfl
  have hb : (List.map (fun _ => Value.type "tuple") (v0 :: rest)).toArray[0]? = some (Value.type "tuple") := by simp
  rw [hb]
  simp only [ha, if_true]
  exact wpAny_pure (wpAny_pure h)
theorem tp_tups {g : Heap} {k : Value → List Int} : ∀ {vs : List Value}, (∀ v ∈ vs, TpAt g v (k v) ∧ k v ≠ []) → ∃ fs, PySem.W.KatTups g vs fs ∧ fs.length = vs.length ∧ ∀ f ∈ fs, ∃ n t, f = Value.int n t
  | [], _ => ⟨[], PySem.W.KatTups.nil, rfl, fun f hf => by simp at hf⟩
  | v :: vs, hv => by
    obtain ⟨fs, h1, h2, h3⟩ := tp_tups fun u hu => hv u (List.mem_cons_of_mem _ hu)
    obtain ⟨⟨p, xs, rfl, ⟨ob, a1, a2, m1, a3⟩, a4⟩, ne⟩ := hv v List.mem_cons_self
    obtain ⟨y, ys, e⟩ : ∃ y ys, xs.toList = y :: ys := by
      cases z : xs.toList with
      | nil =>
        rw [z] at a4
        have l := a4.length
        exact absurd (List.length_eq_zero_iff.mp l.symm) ne
      | cons y ys => exact ⟨y, ys, rfl⟩
    obtain ⟨n, t, hy⟩ := a4.all y (by rw [e]; exact List.mem_cons_self ..)
    refine ⟨y :: fs, PySem.W.KatTups.cons a1 a2 a3 ?_ h1, by simp [h2], fun f hf => ?_⟩
    · have z := congrArg (fun l : List Value => l[0]?) e
      simpa using z
    · rcases List.mem_cons.mp hf with rfl | hf
      · exact ⟨n, t, hy⟩
      · exact h3 f hf
theorem tp_sortable {a : Addr} {vs : List Value} {k : Value → List Int} (hc : A.units < cLine) (h2 : 2 ≤ vs.length) (hv : ∀ v ∈ vs, TpAt s.heap v (k v)) (hn : (∀ v ∈ vs, k v ≠ []) ∨ ∀ v, vs[0]? = some v → k v = []) (ha : ∀ o, s.heap.get? a = some o → o.cls ≠ .type "tuple") :
    SrtO.SortableO prog w A s a vs fun v u => HT.lexLt (k v) (k u) := by
  intro g keep
  have hv' : ∀ v ∈ vs, TpAt g v (k v) := fun v hm => (hv v hm).stay fun b o e c => keep b o (fun z => by subst z; exact ha o e c) e
  rcases hn with hn | hn
  · obtain ⟨fs, f1, f2, f3⟩ := tp_tups fun v hm => ⟨hv' v hm, hn v hm⟩
    refine ⟨tuples' true, fun Q E hq => ?_, fun p q hp hq => tp_lt1 (hv' p.1 hp) (hv' q.1 hq) ⟨rfl, rfl⟩⟩
    refine PySem.W.kat_kind (T := .type "int") f1 (by omega) (fun f hm => ?_) (by rfl) ?_
    · obtain ⟨n, t, rfl⟩ := f3 f hm
      exact PySem.W.Looks.now
    · rw [show (Value.type "int" != Value.type "tuple") = true by first | decide +kernel | rfl | decide]
      exact hq
  · exact ⟨oneType', fun Q E hq => tp_kind0 (s := { s with heap := g }) h2 hv' hn hq, fun p q hp hq => tp_lt0 (s := { s with heap := g }) hc (hv' p.1 hp) (hv' q.1 hq) ⟨rfl, rfl⟩⟩
end
/-- sorted(xs), xs a list of tuples of ints -/
def rSortedTL (K : PySem.W.Frag) : List V → Hp → VK → Prop := fun vs H Q => ∃ (a : Addr) (ts : List Addr) (k : Addr → List Int), vs = [.ref a] ∧ SqL K H a (ts.map V.ref) ∧ (∀ t ∈ ts, H t = some (.tup ((k t).map V.int))) ∧ ((∀ t ∈ ts, k t ≠ []) ∨ ∀ t, ts[0]? = some t → k t = []) ∧
  ∀ (ts' : List Addr) (p : Addr), ts'.Perm ts → ts'.Pairwise (fun p q => HT.lexLt (k q) (k p) = false) → H p = none → Q (.ref p) (upd H p (.lst (ts'.map V.ref)))
theorem cr_sortedTL {X : Cx} (hu : X.A.units + 64 < cLine) : CallR X (.builtin "sorted") (rSortedTL X.K) := by
  intro pins s σ H vs us Q I r h
  obtain ⟨a, ts, k, rfl, hs, ht, hn, q⟩ := h
  obtain ⟨its, rv, hl, hz⟩ := I.list hs
  rw [Vals.ref1 r]
  have ei := nts_of rv
  have hv : ∀ u ∈ its, TpAt s.heap u (k (adO u)) := fun u hm => by
    rw [ei] at hm
    obtain ⟨t, hmt, rfl⟩ := List.mem_map.mp hm
    obtain ⟨_, its2, r2, o, ho, hc, n, hd⟩ := I.hok _ _ (ht t hmt)
    exact ⟨t, _, rfl, ⟨o, ho, hc, n, hd⟩, ints_of_vals r2⟩
  have hn' : (∀ v ∈ its, k (adO v) ≠ []) ∨ ∀ v, its[0]? = some v → k (adO v) = [] := by
    rw [ei]
    rcases hn with hn | hn
    · refine .inl fun v hm => ?_
      obtain ⟨t, hmt, rfl⟩ := List.mem_map.mp hm
      exact hn t hmt
    · refine .inr fun v hm => ?_
      rw [List.getElem?_map] at hm
      cases e : ts[0]? with
      | none =>
        rw [e] at hm
        cases hm
      | some t =>
        rw [e] at hm
        rw [← Option.some.inj hm]
        exact hn t e
  refine SrtO.sorted_ord (NtL.swo_lexL fun u => k (adO u)) hl.isList (by rw [← rv.length]; exact hz) (fun h2 g c hg kk => ?_) fun out h1 h2 => ?_
  · refine tp_sortable (s := { s with heap := g }) (by show X.A.units + 1 + 1 < cLine; omega) h2 (fun v hm => (hv v hm).stay fun b o e _ => (kk b o e).2) hn' fun o e => ?_
    have e' : some o = some (seqObj "list" its.toArray 0) := e.symm.trans hg
    cases e'
    intro z
    exact absurd (Value.type.inj z) (by decide)
  · have eo : out = (out.map adO).map Value.ref := ref_map fun u hm => by
      have hm' : u ∈ its := h2.perm.mem_iff.mp hm
      rw [ei] at hm'
      obtain ⟨t, _, e⟩ := List.mem_map.mp hm'
      exact ⟨t, e.symm⟩
    have hp : (out.map adO).Perm ts := by
      have p1 := h2.perm.map adO
      rw [ei, ad_map] at p1
      exact p1
    have hs2 : (out.map adO).Pairwise (fun p q => HT.lexLt (k q) (k p) = false) := List.pairwise_map.mpr (h1.imp fun {x y} z => z)
    obtain ⟨ep, he'⟩ := PyProof.Rows.sortedAll_at s.heap its out.toArray
    have hlen : ((out.map adO).map V.ref).length ≤ sizeLine := by
      rw [List.length_map, hp.length_eq]
      rw [List.length_map] at hz
      exact hz
    have rvo : Vals ((out.map adO).map V.ref) out := by
      have z := of_nts (out.map adO)
      rw [← eo] at z
      exact z
    exact ⟨.ref _, upd H (s.heap.objs.size + 1) (.lst ((out.map adO).map V.ref)), I.laid (t' := s.toks) (fun _ _ => PyProof.Rows.sortedAll_old) (Nat.le_succ _) ⟨hlen, out, ep, rvo, he'⟩, rfl, q _ _ hp hs2 (I.hok.fresh (Nat.le_succ _))⟩
end KV

/-! the program: all possible lots -/
namespace KV
open PySem PySem.Spec PyProof.Rows L2 KM
section
variable {P : Program} {w : World} {K : PySem.W.Frag} {mg : Str → Option Value} {base : Heap} {C C2 fI2 : Addr}
theorem cl_firsts {L : List Int} {k : Nat} {f : List Int → Bool} : (∀ M ∈ (cl L k).filter f, M ≠ []) ∨ ∃ r, (cl L k).filter f = [] :: r := by
  obtain ⟨r, e, h⟩ := cl_head L k
  rw [e]
  by_cases z : f [] = true
  · rw [List.filter_cons_of_pos z]
    exact .inr ⟨_, rfl⟩
  · rw [List.filter_cons_of_neg z]
    exact .inl fun M hM => h M (List.mem_filter.mp hM).1
/-- what sorted wants and tells of tuples that stand there -/
theorem sortTL {K : PySem.W.Frag} {H : Hp} {a : Addr} {ts : List Addr} {Ls : List (List Int)} {Q : VK} (ha : H a = some (.lst (ts.map V.ref))) (hT : TL H ts Ls) (hf : (∀ M ∈ Ls, M ≠ []) ∨ ∃ r, Ls = [] :: r)
    (q : ∀ (us : List Addr) (Ms : List (List Int)) (p : Addr) (H' : Hp), Same H H' → H p = none → H' p = some (.lst (us.map V.ref)) → TL H' us Ms → LexS Ms → Ms.Perm Ls → Q (.ref p) H') : rSortedTL K [.ref a] H Q := by
  obtain ⟨e1, e2⟩ := hT.key
  refine ⟨a, ts, kT H, rfl, SqL.of ha, e2, ?_, fun us p pe pw hp => ?_⟩
  · rcases hf with hf | ⟨r, er⟩
    · refine .inl fun t ht => hf _ ?_
      rw [e1]
      exact List.mem_map.mpr ⟨t, ht, rfl⟩
    · refine .inr fun t ht => ?_
      cases ts with
      | nil => simp at ht
      | cons u us =>
        rw [er, List.map_cons] at e1
        rw [show t = u from (Option.some.inj ht).symm]
        exact (List.cons.inj e1).1.symm
  · refine q us (us.map (kT H)) p _ (Same.new hp) hp upd_same (TL.of_key fun t ht => ?_) (List.pairwise_map.mpr pw) (by rw [e1]; exact pe.map _)
    have := e2 t (pe.mem_iff.mp ht)
    rw [upd_ne (fun z => by rw [z, hp] at this; cases this)]
    exact this
def LotsQ (B L : List Int) (H : Hp) (Q : VK) : Prop := ∀ (p : Addr) (ts : List Addr) (Ms : List (List Int)) (k : Nat) (H' : Hp), Same H H' → H' p = some (.tup (ts.map V.ref)) → TL H' ts Ms → LexS Ms → Ms.Perm ((cl L k).filter (freeB B)) → (∀ p ∈ L, 0 < p ∧ p < 3 + (k : Int)) → Q (.ref p) H'
def PoL (C2 : Addr) (B : List Int) (H : Hp) (Q : VK) (E : XK) : Option (List Int) → Prop
  | none => BadA C2 0 H E
  | some L => SmL L ∧ LotsQ B L H Q
def spPoL (K : PySem.W.Frag) (C C2 : Addr) : Sp := fun vs H Q E => ∃ v x : V, vs = [v, x] ∧ Tel K C H v x E fun A B => ∀ o, LotJ A o → PoL C2 B H Q E o

theorem sc21 : FnScope ["yes", "no", "lot", "coarser"] ["yes", "no"] (defScope (top 21)) := ⟨rfl, rfl, rfl, by decide +kernel, rfl, by decide +kernel, by decide +kernel⟩
theorem ok_poL {f : Addr} {fd : FuncData} (B : Bl mg) (T : PySem.LowX.LowTxt K mg "Refused" "Refused.__init__" C2 fI2) (CT : Cal P w K mg base (L2.CX P w) 3 "_check_tellings" ["yes", "no"] (spCT K C)) (CL : Cal P w K mg base (L2.CX P w) 3 "lot_of" ["counts"] (spLotOf K C)) (CC : Cal P w K mg base CX0 2 "_coarser_lots" ["lot"] (spCoL K)) (CTd : Cal P w K mg base CX0 2 "_is_told" ["lot", "yes", "no"] (spTd K)) (F : Fun K "possible_lots" "possible_lots" (top 21) f fd) : FnOk P w K mg base (L2.CX P w) 6 f fd ["yes", "no"] (spPoL K C C2) := by
  refine F.okX sc21 (fun vs H Q E h => ?_) (fun cdv A outer s H vs Q E hr h => ⟨_,
    (pss_cons (ps_expr (by exact (pe_calX CT hr (by decide) (takes_of rfl rfl rfl rfl) (fun _ _ _ _ z => z) (pa_cons (pv 0) (pa_cons (pv 1) pa_nil)))))
    (pss_cons (ps_set (i := 2) sc21.nd rfl (.inl rfl) (by exact (pe_calX CL hr (by decide) (takes_of rfl rfl rfl rfl) (fun _ _ _ _ z => z) (pa_cons (pv 0) pa_nil))))
    (pss_cons (ps_if (pt_cmpR op_isN (pv 2) pe_non (nomark _)) (pss_one (ps_raiseLow rfl T hr (takes_of rfl rfl rfl rfl) (by exact (pa_cons pe_int pa_nil)))) pss_nil)
    (pss_one (ps_ret (pe_callTy call_tuple_of (by rfl) B.tuple (by decide +kernel) (pa_cons (pe_callB (cr_sortedTL hr.units) (by rfl) B.sorted (by decide +kernel) (pa_cons (pe_lc (own := [("coarser", 3)]) (g := gName 3) rfl sc21.nd (pi_list (by exact (pe_cal CC hr (by decide) (pa_cons (pv 2) pa_nil)))) (blkOk_by (N := ["yes", "no", "lot", "coarser"]) (sc := defScope (top 21)) (by decide +kernel))
        (fun _ _ _ _ _ => (pg_name (i := 3) sc21.nd rfl (Or.inl rfl))) (fun _ _ _ _ _ => (pts_one (pt_val (pe_cal CTd hr (by decide) (pa_cons (pv 3) (pa_cons (pv 0) (pa_cons (pv 1) pa_nil))))))) (fun _ _ _ _ _ => (pv 3))) pa_nil)) pa_nil))))))), ?_⟩)
  · obtain ⟨v, x, rfl, _⟩ := h
    rfl
  obtain ⟨v, x, rfl, h⟩ := h
  refine ⟨_, rfl, _, rfl, v, x, rfl, h.next fun A B hv hx q H1 s1 => ?_⟩
  refine ⟨_, rfl, v, _, rfl, hv.same s1, .inr ⟨A, rfl, fun u o H2 s2 hu hL => ?_⟩⟩
  dsimp only [gName]
  have q := q o hL
  refine ⟨_, rfl, rfl, _, rfl, ?_⟩
  cases o with
  | none =>
    obtain rfl : u = .non := hu
    refine iteP (by simp) ⟨_, rfl, fun d hd => q _ d (s1.trans s2) hd⟩
  | some L =>
    obtain ⟨l, rfl, hl⟩ := hu
    obtain ⟨hS, q⟩ := q
    refine iteN (by simp) ?_
    refine ⟨_, rfl, l, L, rfl, SqT.of hl, hS, fun l1 ts k H3 s3 f3 g3 hk => ?_⟩
    have s13 := (s1.trans s2).trans s3
    obtain ⟨a, rfl, hA, lA, _⟩ := valA_ints (hv.same s13)
    obtain ⟨b, rfl, hB, lB, _⟩ := valA_ints (hx.same s13)
    refine ⟨l1, rfl, ⟨_, SqL.of f3⟩, fun D hD => lc_list (xs := ts.map V.ref) (fun j H' => Same H3 H' ∧ ∃ us : List Addr, H' D = some (.lst (us.map V.ref)) ∧ TL H' us (((cl L k).take j).filter (freeB B))) ⟨Same.new hD, [], upd_same, trivial⟩ (fun j H' _ p => SqL.of (p.1 _ _ f3)) ?_ ?_⟩
    · rintro j x H4 hx4 ⟨p3, us, p4, p5⟩
      obtain ⟨t, ht, rfl⟩ := tyAt_map hx4
      obtain ⟨M, hM, hT⟩ := g3.at ht
      have hT4 := p3 _ _ hT
      have hMc := List.mem_of_getElem? hM
      have et : (cl L k).take (j + 1) = (cl L k).take j ++ [M] := take_at hM
      have ll : (((cl L k).take j).filter (freeB B)).length ≤ 1024 := by
        have := List.length_filter_le (freeB B) ((cl L k).take j)
        have := List.length_take_le' j (cl L k)
        have := hS.few k
        omega
      have lu := p5.len
      have lM := hS.len hMc
      refine ⟨rfl, _, rfl, _, rfl, _, rfl, t, a, b, M, A, B, rfl, SqT.of hT4, Same.sqA p3 hA, Same.sqA p3 hB, (cl_lot hMc).1.ge, by omega, by omega, by omega, fun H5 s5 => ⟨_, rfl, ?_⟩⟩
      rw [cl_told hL hMc]
      by_cases y : freeB B M = true
      · refine iteP y ⟨_, rfl, _, s5 _ _ p4, len_lt (by rw [List.length_map]; omega), Same.upd (p3.trans s5) hD, us ++ [t], ?_, ?_⟩
        · rw [upd_same, List.map_append]
          rfl
        · rw [et, List.filter_append, List.filter_cons_of_pos (by exact y)]
          exact TL.upd (s5 _ _ p4) ((p5.same s5).app (TL.one (s5 _ _ hT4)))
      · refine iteN y ⟨p3.trans s5, us, s5 _ _ p4, ?_⟩
        rw [et, List.filter_append, List.filter_cons_of_neg (by exact y)]
        simpa using p5.same s5
    · rintro H4 ⟨p3, us, p4, p5⟩
      rw [List.length_map, g3.len, List.take_length] at p5
      dsimp only [tNil]
      refine sortTL p4 p5 cl_firsts fun vs Ms p H5 s5 _ f5 g5 hs pe => ?_
      refine ⟨p, _, rfl, .inl ⟨SqL.of f5, fun z hz => ?_⟩⟩
      exact q z vs Ms k _ (((s13.trans p3).trans s5).trans (Same.new hz)) upd_same (g5.same (Same.new hz)) hs pe hk


end
end KV

/-! a comprehension within a comprehension's block -/
namespace KV
open PySem PySem.Spec PyProof.Rows L2 KM
def rLenQ (K : PySem.W.Frag) : List V → Hp → VK → Prop := fun xs H Q => ∃ p ys, xs = [V.ref p] ∧ (SqL K H p ys ∨ SqT K H p ys) ∧ Q (V.int (ys.length : Nat)) H
theorem call_lenQ {X : Cx} : CallR X (Value.builtin "len") (rLenQ X.K) := call_len_seq
theorem look_relabel {env : Env} : ∀ {names : List (Str × NameKind)} {x : Str}, names.lookup x = some .cell ∨ names.lookup x = some .free →
    (names.map fun (n, k) => if (k == NameKind.free && env.scope.kind == .function && env.kindOf n == some .cell) then (n, NameKind.cell) else (n, k)).lookup x = some .cell ∨
    (names.map fun (n, k) => if (k == NameKind.free && env.scope.kind == .function && env.kindOf n == some .cell) then (n, NameKind.cell) else (n, k)).lookup x = some .free
  | [], _, h => by simp at h
  | (n, k) :: r, x, h => by
    have ih := @look_relabel env r x
    show List.lookup x ((if (k == NameKind.free && env.scope.kind == .function && env.kindOf n == some .cell) = true then (n, NameKind.cell) else (n, k)) :: _) = _ ∨ List.lookup x ((if (k == NameKind.free && env.scope.kind == .function && env.kindOf n == some .cell) = true then (n, NameKind.cell) else (n, k)) :: _) = _
    cases hx : x == n with
    | true =>
      simp only [List.lookup_cons, hx] at h
      by_cases z : (k == NameKind.free && env.scope.kind == .function && env.kindOf n == some .cell) = true
      · rw [if_pos z]
        simp only [List.lookup_cons, hx]
        first | exact .inl rfl | exact .inl trivial
      · rw [if_neg z]
        simp only [List.lookup_cons, hx]
        exact h
    | false =>
      simp only [List.lookup_cons, hx] at h
      have ih := ih h
      by_cases z : (k == NameKind.free && env.scope.kind == .function && env.kindOf n == some .cell) = true
      · rw [if_pos z]
        simp only [List.lookup_cons, hx]
        exact ih
      · rw [if_neg z]
        simp only [List.lookup_cons, hx]
        exact ih
theorem pe_lcN {X : Cx} {s0 : Shared} {H0 : Hp} {scope0 : Scope} {C0 : Addr} {cl0 : List (Str × Addr)} {fp0 : List Addr} {elt tg iter : Expr} {ifs : List Expr} {scope : Scope} {own : List (Str × Nat)} {pos : Pos} {wi : TI} {g : TG} {tt : TT} {te : TE} (N : List Str)
    (hc : X.calm = true) (hN : X.N.Nodup) (hi : PI (X.blk s0 H0 scope0 (compEnvC scope0 cl0 C0 X.env) fp0) tg iter wi) (hX : X.N = N) (ok : blkC N scope0 scope own = true)
    (hg : ∀ (s : Shared) (H : Hp) (C : Addr) (cl : List (Str × Addr)) (fp : List Addr), PG ((X.blk s0 H0 scope0 (compEnvC scope0 cl0 C0 X.env) fp0).blk s H scope (compEnvC scope cl C (compEnvC scope0 cl0 C0 X.env)) fp) tg g)
    (ht : ∀ (s : Shared) (H : Hp) (C : Addr) (cl : List (Str × Addr)) (fp : List Addr), PTs ((X.blk s0 H0 scope0 (compEnvC scope0 cl0 C0 X.env) fp0).blk s H scope (compEnvC scope cl C (compEnvC scope0 cl0 C0 X.env)) fp) ifs tt)
    (he : ∀ (s : Shared) (H : Hp) (C : Addr) (cl : List (Str × Addr)) (fp : List Addr), PE ((X.blk s0 H0 scope0 (compEnvC scope0 cl0 C0 X.env) fp0).blk s H scope (compEnvC scope cl C (compEnvC scope0 cl0 C0 X.env)) fp) elt te)
    (hs : ∀ x, foldedSetIterable iter (compEnvC scope0 cl0 C0 X.env) x = pure x := by intro _; rfl) :
    PE (X.blk s0 H0 scope0 (compEnvC scope0 cl0 C0 X.env) fp0) (.ListComp elt [⟨tg, iter, ifs, 0⟩] scope pos) (tLc wi g tt te (own.map (·.2))) :=
  pe_lc (X := X.blk s0 H0 scope0 (compEnvC scope0 cl0 C0 X.env) fp0) hc hN hi (by
    have e : BlkOk N scope0 scope own := blkOk_by ok
    rw [← hX] at e
    exact ⟨e.kind, e.uniq, e.ix, fun y hy z => look_relabel (env := X.env) (e.free y hy z), e.own⟩) hg ht he hs
end KV

/-! the law: all lots in order, another order -/
namespace KV
open PySem PySem.Spec PyProof.Rows L2 KM
section
variable {P : Program} {w : World} {K : PySem.W.Frag} {mg : Str → Option Value} {base : Heap}
/-- a tuple behind a tuple: what is told stands there -/
def rCatP (K : PySem.W.Frag) : R2 := fun x y H Q => ∃ a b xs ys, x = .ref a ∧ y = .ref b ∧ SqT K H a xs ∧ SqT K H b ys ∧ xs.length + ys.length ≤ sizeLine ∧ ∀ (p : Addr) (H' : Hp), Same H H' → SqT K H' p (xs ++ ys) → Q (.ref p) H'
theorem op_catP {X : Cx} : OpR X (binaryOp .Add) (rCatP X.K) := by
  intro pins s σ H x y v u Q I rx ry h
  obtain ⟨a, b, xs, ys, e1, e2, ha, hb, hz, q⟩ := h
  refine op_catA pins s σ H x y v u Q I rx ry ⟨a, b, xs, ys, e1, e2, ha, hb, hz, fun e => q b H (Same.refl H) ?_, fun _ e => q a H (Same.refl H) ?_, fun _ _ p hp => q p _ (Same.new hp) (SqT.of upd_same)⟩
  · rw [e, List.nil_append]
    exact hb
  · rw [e, List.append_nil]
    exact ha
def spLC (K : PySem.W.Frag) : Sp := fun vs H Q _ => ∃ (a : Addr) (L : List Int), vs = [.ref a] ∧ SqT K H a (L.map V.int) ∧ SmL L ∧ ∀ (l : Addr) (ts : List Addr) (Ms : List (List Int)) (k : Nat) (H' : Hp), Same H H' → H l = none → H' l = some (.lst (ts.map V.ref)) → TL H' ts Ms → LexS Ms → Ms.Perm (cl L k) → (∀ p ∈ L, 0 < p ∧ p < 3 + (k : Int)) → Q (.ref l) H'
theorem filt_yes {α : Type} {f : α → Bool} {x : α} (h : f x = true) : List.filter f [x] = [x] := by rw [List.filter_cons_of_pos h]; rfl
theorem filt_no {α : Type} {f : α → Bool} {x : α} (h : ¬ f x = true) : List.filter f [x] = [] := by rw [List.filter_cons_of_neg h]; rfl
theorem cl_all_firsts {L : List Int} {k : Nat} : (∀ M ∈ cl L k, M ≠ []) ∨ ∃ r, cl L k = [] :: r := by
  obtain ⟨r, e, _⟩ := cl_head L k
  exact .inr ⟨r, e⟩
theorem hitQ_filter {L : List Int} {q : Int} : (!decide (L.filter (fun p => decide (p % q = 0)) = [])) = hitQ L q := by
  rw [Bool.eq_iff_iff, hitQ_iff, Bool.not_eq_true', decide_eq_false_iff_not, List.filter_eq_nil_iff]
  simp
theorem cop_filter {M : List Int} {q : Int} (hM : ∀ p ∈ M, 0 < p) : decide (M.filter (fun p => decide ((Int.gcd p q : Int) > 1)) = []) = cop M q := by
  rw [Bool.eq_iff_iff, cop_iff, decide_eq_true_eq, List.filter_eq_nil_iff]
  constructor
  · intro h0 p hp
    have := hM p hp
    have p0 : 0 < Int.gcd p q := Int.gcd_pos_of_ne_zero_left _ (by omega)
    have e := decide_eq_false_iff_not.mp (Bool.not_eq_true _ ▸ (h0 p hp))
    omega
  · intro h p hp
    rw [h p hp]
    decide

theorem sc36 : FnScope ["_law_lot", "_law_found", "_law_q", "_law_p", "_law_one"] ["_law_lot"] (defScope (top 36)) := ⟨rfl, rfl, rfl, by decide +kernel, rfl, by decide +kernel, by decide +kernel⟩
theorem ok_LC {f : Addr} {fd : FuncData} (B : Bl mg) (CD : Cal P w K mg base CX0 1 "_law_divisor" ["_law_one", "_law_other"] spDiv) (F : Fun K "_law_coarser" "_law_coarser" (top 36) f fd) : FnOk P w K mg base CX0 2 f fd ["_law_lot"] (spLC K) := by
  refine F.ok sc36 (fun vs H Q E h => ?_) (fun cdv A outer s H vs Q E hr h => ⟨_,
    (pss_cons (ps_set (i := 1) sc36.nd rfl (.inl rfl) (pe_lst (pa_cons (pe_tup pa_nil) pa_nil)))
    (pss_cons (ps_for PassesOwn.never rfl (pi_range2 (by rfl) B.range (pa_cons pe_int (pa_cons (pe_op op_add (pe_callB (cr_maxT rfl) (by rfl) B.max (by decide +kernel) (pa_cons (pe_op op_catP (pe_tup (pa_cons pe_int pa_nil)) (pv 0)) pa_nil)) pe_int) pa_nil))) (pg_name (i := 2) sc36.nd rfl (.inr rfl)) (pss_one (ps_if (pt_cmpR (op_neD hr.units) (pe_lc (own := [("_law_p", 3)]) (g := gName 3) rfl sc36.nd (pi_tup (pv 0)) (blkOk_by (N := ["_law_lot", "_law_found", "_law_q", "_law_p", "_law_one"]) (sc := defScope (top 36)) (by decide +kernel))
        (fun _ _ _ _ _ => (pg_name (i := 3) sc36.nd rfl (Or.inl rfl))) (fun _ _ _ _ _ => (pts_one (pt_cmpR op_eq (pe_op op_mod (pe_callTy call_int1 (by rfl) B.int PyProof.Rows.boot_int (pa_cons (pv 3) pa_nil)) (pv 2)) pe_int (nomark _)))) (fun _ _ _ _ _ => (pv 3))) (pe_lst pa_nil) (nomark _)) (pss_one (ps_set (i := 1) sc36.nd rfl (.inl rfl) (pe_op op_cat (pv 1) (pe_lc (own := [("_law_one", 4)]) (g := gName 4) rfl sc36.nd (pi_list (pv 1)) (blkOk_by (N := ["_law_lot", "_law_found", "_law_q", "_law_p", "_law_one"]) (sc := defScope (top 36)) (by decide +kernel))
        (fun _ _ _ _ _ => (pg_name (i := 4) sc36.nd rfl (Or.inl rfl))) (fun _ _ _ _ _ => (pts_one (pt_cmpR (r := rEqD K) (op_eqD hr.units) (pe_lcN ["_law_lot", "_law_found", "_law_q", "_law_p", "_law_one"] (wi := iTup K (tVar 4)) (own := [("_law_p", 3)]) (g := gName 3) rfl sc36.nd (by exact (pi_tup (pv 4))) rfl (by decide +kernel)
        (fun _ _ _ _ _ => (pg_name (i := 3) sc36.nd rfl (Or.inl rfl))) (fun _ _ _ _ _ => (pts_one (pt_cmpR op_gt (pe_cal CD hr (by decide) (pa_cons (pv 3) (pa_cons (pv 2) pa_nil))) pe_int (nomark _)))) (fun _ _ _ _ _ => (pv 3))) (pe_lst pa_nil) (nomark _)))) (fun _ _ _ _ _ => (pe_op (r := rCatA K) op_catA (pv 4) (pe_tup (pa_cons (pv 2) pa_nil)))))))) pss_nil)))
    (pss_one (ps_ret (pe_callB (cr_sortedTL hr.units) (by rfl) B.sorted (by decide +kernel) (pa_cons (pv 1) pa_nil)))))), ?_⟩)
  · obtain ⟨a, L, rfl, _⟩ := h
    rfl
  obtain ⟨a, L, rfl, hS, hL, q⟩ := h
  refine ⟨(by show 0 ≤ sizeLine; decide), fun t0 ht0 => ⟨(by show 1 ≤ sizeLine; decide), fun l0 hl0 => ?_⟩⟩
  have sa : Same H (upd H t0 (.tup [])) := Same.new ht0
  have sb : Same (upd H t0 (.tup [])) (upd (upd H t0 (.tup [])) l0 (.lst [.ref t0])) := Same.new hl0
  have f1 : upd (upd H t0 (.tup [])) l0 (.lst [.ref t0]) l0 = some (.lst ([t0].map V.ref)) := upd_same
  have g1 : TL (upd (upd H t0 (.tup [])) l0 (.lst [.ref t0])) [t0] (cl L 0) := TL.one (sb _ _ upd_same)
  have s1 := sa.trans sb
  dsimp only [gName]
  generalize upd (upd H t0 (.tup [])) l0 (.lst [.ref t0]) = H1 at f1 g1 s1
  have hS1 := Same.seqT s1 hS
  refine ⟨(by show 1 ≤ sizeLine; decide), fun r hr2 => ?_⟩
  have sr : Same H1 (upd H1 r (.tup [.int 3])) := Same.new hr2
  have fr : upd H1 r (.tup [.int 3]) r = some (.tup ([3].map V.int)) := upd_same
  generalize upd H1 r (.tup [.int 3]) = H2 at sr fr
  have lL := hL.len (cl_self (k := 2000) hL.lot fun p hp => by have := hL.lot.ge p hp; have := le_prd hL.lot.ge hp; have := hL.sml; omega)
  refine ⟨_, rfl, r, a, _, _, rfl, rfl, SqT.of fr, Same.seqT sr hS1, ?_, fun t H3 s3 ht => ?_⟩
  · rw [List.length_map, List.length_map]
    have e5 : 30000 ≤ sizeLine := by decide
    simp only [List.length_cons, List.length_nil]
    omega
  have s13 := (s1.trans sr).trans s3
  have hS3 := Same.seqT s13 hS
  have f3 := s3 _ _ (sr _ _ f1)
  have g3 := (g1.same sr).same s3
  refine ⟨t, 3 :: L, rfl, ht, by simp, fun m hm hx => ?_⟩
  have hk : ∀ p ∈ L, 0 < p ∧ p < 3 + ((m + 1 - 3).toNat : Int) := fun p hp => by
    have := hL.lot.ge p hp
    have := hx p (List.mem_cons_of_mem _ hp)
    omega
  have hm2 : 3 ≤ m ∧ m ≤ 2000 := by
    rcases List.mem_cons.mp hm with e | hi
    · omega
    · have := le_prd hL.lot.ge hi
      have := hL.lot.ge m hi
      have := hL.sml
      omega
  refine ⟨m, 1, rfl, rfl, 3, m + 1, rfl, ⟨by omega, by omega, by omega, by omega⟩, for_range (n := (m + 1 - 3).toNat) (fun i σ H' => ∃ (l : Addr) (ts : List Addr) (v2 : Option V), σ = [some (.ref a), some (.ref l), v2, none, none] ∧ Same H3 H' ∧ H' l = some (.lst (ts.map V.ref)) ∧ TL H' ts (cl L i)) ⟨l0, [t0], none, rfl, Same.refl H3, f3, g3⟩ ?_ ?_⟩
  · rintro i σ H2 hi ⟨l, ts, v2, rfl, s2, f2, g2⟩
    dsimp only [gName]
    have hS2 := Same.seqT s2 hS3
    have hq : (3 : Int) + (i : Int) ≤ 2000 := by omega
    refine ⟨_, rfl, a, rfl, ⟨_, hS2⟩, fun D hD => lc_tup (xs := L.map V.int) (fun j H' => Same H2 H' ∧ H' D = some (.lst (((L.take j).filter fun p => decide (p % (3 + (i : Int)) = 0)).map V.int))) ⟨Same.new hD, upd_same⟩ (fun j H' _ p => Same.seqT p.1 hS2) ?_ ?_⟩
    · rintro j x H3 hx ⟨p1, p2⟩
      obtain ⟨p, hp, rfl⟩ := map_at hx
      have et : L.take (j + 1) = L.take j ++ [p] := take_at hp
      refine ⟨rfl, _, rfl, .inl ⟨_, rfl, _, rfl, _, _, rfl, rfl, (by omega), rfl, _, rfl, ?_⟩⟩
      rw [dvi]
      by_cases y : p % (3 + (i : Int)) = 0
      · refine iteP (decide_eq_true y) ⟨_, rfl, _, p2, len_lt ?_, Same.upd p1 hD, ?_⟩
        · rw [List.length_map]
          have := List.length_filter_le (fun p => decide (p % (3 + (i : Int)) = 0)) (L.take j)
          have := List.length_take_le' j L
          omega
        · rw [upd_same, et, List.filter_append, filt_yes (by exact decide_eq_true y), List.map_append]
          rfl
      · refine iteN (by simpa using y) ⟨p1, ?_⟩
        rw [p2, et, List.filter_append, filt_no (by simpa using y), List.append_nil]
    · rintro H3 ⟨p1, p2⟩
      rw [List.length_map, List.take_length] at p2
      refine ⟨(by show 0 ≤ sizeLine; decide), fun n0 hn0 => neL (ms := []) (SqL.of (Same.new hn0 _ _ p2)) (SqL.of upd_same) ?_⟩
      rw [hitQ_filter]
      have sn : Same H3 (upd H3 n0 (.lst [])) := Same.new hn0
      have p1 := p1.trans sn
      generalize upd H3 n0 (.lst []) = H3 at p1
      clear p2 hn0
      have f3 := p1 _ _ f2
      have g3 := g2.same p1
      refine ⟨_, rfl, ?_⟩
      by_cases z : hitQ L (3 + (i : Int)) = true
      · refine iteP z ⟨_, rfl, _, rfl, l, rfl, ⟨_, SqL.of f3⟩, fun D2 hD2 => ?_⟩
        refine lc_list (xs := ts.map V.ref) (fun j H' => Same H3 H' ∧ ∃ us : List Addr, H' D2 = some (.lst (us.map V.ref)) ∧ TL H' us ((((cl L i).take j).filter fun M => cop M (3 + (i : Int))).map fun M => M ++ [3 + (i : Int)])) ⟨Same.new hD2, [], upd_same, trivial⟩ (fun j H' _ p => SqL.of (p.1 _ _ f3)) ?_ ?_
        · rintro j x H4 hx ⟨p3, us, p4, p5⟩
          obtain ⟨t, ht, rfl⟩ := tyAt_map hx
          obtain ⟨M, hM, hT⟩ := g3.at ht
          have hT4 := p3 _ _ hT
          have hMc := List.mem_of_getElem? hM
          have hM3 := (cl_lot hMc).1.ge
          have lM := hL.len hMc
          refine ⟨rfl, _, rfl, t, rfl, ⟨_, SqT.of hT4⟩, fun D3 hD3 => lc_tup (xs := M.map V.int) (fun n H' => Same H4 H' ∧ H' D3 = some (.lst (((M.take n).filter fun p => decide ((Int.gcd p (3 + (i : Int)) : Int) > 1)).map V.int))) ⟨Same.new hD3, upd_same⟩ (fun n H' _ p => Same.seqT p.1 (SqT.of hT4)) ?_ ?_⟩
          · rintro n x H5 hx5 ⟨u1, u2⟩
            obtain ⟨p, hp, rfl⟩ := map_at hx5
            have et : M.take (n + 1) = M.take n ++ [p] := take_at hp
            have p3' := hM3 p (List.mem_of_getElem? hp)
            refine ⟨rfl, _, rfl, _, rfl, _, _, rfl, by omega, by omega, _, _, rfl, rfl, _, rfl, ?_⟩
            by_cases y : (Int.gcd p (3 + (i : Int)) : Int) > 1
            · refine iteP (decide_eq_true y) ⟨_, rfl, _, u2, len_lt ?_, Same.upd u1 hD3, ?_⟩
              · rw [List.length_map]
                have := List.length_filter_le (fun p => decide ((Int.gcd p (3 + (i : Int)) : Int) > 1)) (M.take n)
                have := List.length_take_le' n M
                omega
              · rw [upd_same, et, List.filter_append, filt_yes (by exact decide_eq_true y), List.map_append]
                rfl
            · refine iteN (by simpa using y) ⟨u1, ?_⟩
              rw [u2, et, List.filter_append, filt_no (by simpa using y), List.append_nil]
          rintro H5 ⟨u1, u2⟩
          rw [List.length_map, List.take_length] at u2
          refine ⟨(by show 0 ≤ sizeLine; decide), fun n0 hn0 => eqL (ms := []) (SqL.of (Same.new hn0 _ _ u2)) (SqL.of upd_same) ?_⟩
          rw [cop_filter (fun p hp => by have := hM3 p hp; omega)]
          refine ⟨_, rfl, ?_⟩
          have u1 := u1.trans (Same.new hn0 (o := .lst []))
          generalize upd H5 n0 (.lst []) = H6 at u1
          have p3 := p3.trans u1
          have p4 := u1 _ _ p4
          have p5 := p5.same u1
          have hT4 := u1 _ _ hT4
          clear u2 hn0
          generalize H6 = H4 at p3 p4 p5 hT4
          have ll : (((cl L i).take j).filter fun M => cop M (3 + (i : Int))).length ≤ 1024 := by
            have := List.length_filter_le (fun M => cop M (3 + (i : Int))) ((cl L i).take j)
            have := List.length_take_le' j (cl L i)
            have := hL.few i
            omega
          have lu := p5.len
          rw [List.length_map] at lu
          have et : (cl L i).take (j + 1) = (cl L i).take j ++ [M] := take_at hM
          by_cases y : cop M (3 + (i : Int)) = true
          · refine iteP y ⟨_, rfl, _, rfl, (by show 1 ≤ sizeLine; decide), fun r hr2 => ?_⟩
            have sr : Same H4 (upd H4 r (.tup [.int (3 + (i : Int))])) := Same.new hr2
            have fr : upd H4 r (.tup [.int (3 + (i : Int))]) r = some (.tup ([3 + (i : Int)].map V.int)) := upd_same
            have done : ∀ (t2 : Addr) (H5 : Hp), Same H4 H5 → H5 t2 = some (.tup ((M ++ [3 + (i : Int)]).map V.int)) → ∃ acc, H5 D2 = some (.lst acc) ∧ acc.length < sizeLine ∧ Same H3 (upd H5 D2 (.lst (acc ++ [.ref t2]))) ∧ ∃ us : List Addr, upd H5 D2 (.lst (acc ++ [.ref t2])) D2 = some (.lst (us.map V.ref)) ∧ TL (upd H5 D2 (.lst (acc ++ [.ref t2]))) us ((((cl L i).take (j + 1)).filter fun M => cop M (3 + (i : Int))).map fun M => M ++ [3 + (i : Int)]) := fun t2 H5 s5 f5 => by
              refine ⟨_, s5 _ _ p4, len_lt (by rw [List.length_map]; omega), Same.upd (p3.trans s5) hD2, us ++ [t2], ?_, ?_⟩
              · rw [upd_same, List.map_append]
                rfl
              · rw [et, List.filter_append, List.filter_cons_of_pos (by exact y), List.map_append]
                exact TL.upd (s5 _ _ p4) ((p5.same s5).app (TL.one f5))
            generalize upd H4 r (.tup [.int (3 + (i : Int))]) = H5 at sr fr done
            refine ⟨t, r, M.map V.int, [3 + (i : Int)].map V.int, rfl, rfl, SqT.of (sr _ _ hT4), SqT.of fr, ?_, fun em => done r H5 sr ?_, fun _ ne => absurd ne (by simp), fun _ _ t2 ht2 => done t2 _ (sr.trans (Same.new ht2)) ?_⟩
            · rw [List.length_map, List.length_map]
              have := hL.len hMc
              have e5 : 30000 ≤ sizeLine := by decide
              simp only [List.length_cons, List.length_nil]
              omega
            · have em2 : M = [] := List.map_eq_nil_iff.mp em
              rw [em2]
              exact fr
            · rw [upd_same, List.map_append]
          · refine iteN y ⟨p3, us, p4, ?_⟩
            rw [et, List.filter_append, List.filter_cons_of_neg (by exact y)]
            simpa using p5
        · rintro H4 ⟨p3, us, p4, p5⟩
          rw [List.length_map, g3.len, List.take_length] at p5
          have f4 := p3 _ _ f3
          have g4 := g3.same p3
          have n1 := g4.len
          have n2 := p5.len
          have n3 := hL.few (i + 1)
          have n4 : (cl L (i + 1)).length = (cl L i).length + (((cl L i).filter fun M => cop M (3 + (i : Int))).map fun M => M ++ [3 + (i : Int)]).length := by
            show (cst L (cl L i) (3 + (i : Int))).length = _
            unfold cst addQ
            rw [if_pos z, List.length_append]
          refine ⟨l, D2, _, _, rfl, rfl, f4, p4, ?_, fun b hb => ?_⟩
          · rw [List.length_map, List.length_map]
            have e5 : 30000 ≤ sizeLine := by decide
            omega
          · refine ⟨b, ts ++ us, _, rfl, (s2.trans p1).trans (p3.trans (Same.new hb)), ?_, ?_⟩
            · rw [upd_same, List.map_append]
            · have g5 := (g4.app p5).same (Same.new hb (o := .lst (ts.map V.ref ++ us.map V.ref)))
              show TL _ (ts ++ us) (cst L (cl L i) (3 + (i : Int)))
              unfold cst addQ
              rw [if_pos z]
              exact g5
      · refine iteN z ⟨l, ts, _, rfl, s2.trans p1, f3, ?_⟩
        show TL H3 ts (cst L (cl L i) (3 + (i : Int)))
        unfold cst
        rw [if_neg z]
        exact g3
  · rintro σ H2 ⟨l, ts, v2, rfl, s2, f2, g2⟩
    refine ⟨_, rfl, ?_⟩
    dsimp only [tNil]
    refine sortTL f2 g2 (cl_all_firsts) fun vs Ms p H5 s5 hp f5 g5 hs pe => q p vs Ms _ H5 ((s13.trans s2).trans s5) ((s13.trans s2).free hp) f5 g5 hs pe hk


end
end KV

/-! the law: the best question -/
namespace KV
open PySem PySem.Spec PyProof.Rows L2 KM
section
variable {P : Program} {w : World} {K : PySem.W.Frag} {mg : Str → Option Value} {base : Heap}
def qV : Option Int → V
  | none => .non
  | some n => .int n
def spBe (K : PySem.W.Frag) : Sp := fun vs H Q _ => ∃ (a : Addr) (W : Int) (ts : List Addr) (Ls : List (List Int)), vs = [.ref a, .int W] ∧ H a = some (.lst (ts.map V.ref)) ∧ TL H ts Ls ∧ 0 ≤ W ∧ W ≤ 2000 ∧ Ls.length ≤ 1024 ∧ (∀ M ∈ Ls, M.length ≤ 6 ∧ ∀ q ∈ M, 0 < q) ∧ ∀ H', Same H H' → Q (qV (bst Ls W.toNat).1) H'

theorem sc39 : FnScope ["_law_lots", "_law_whole", "_law_found", "_law_least", "_law_n", "_law_many", "_law_one"] ["_law_lots", "_law_whole"] (defScope (top 39)) := ⟨rfl, rfl, rfl, by decide +kernel, rfl, by decide +kernel, by decide +kernel⟩
theorem ok_best {f : Addr} {fd : FuncData} (B : Bl mg) (CLf : Cal P w K mg base CX0 1 "_law_fits" ["_law_lot", "_law_n"] (spLF K)) (F : Fun K "_law_best" "_law_best" (top 39) f fd) : FnOk P w K mg base CX0 2 f fd ["_law_lots", "_law_whole"] (spBe K) := by
  refine F.ok sc39 (fun vs H Q E h => ?_) (fun cdv A outer s H vs Q E hr h => ⟨_,
    (pss_cons (ps_par (i := 2) (j := 3) rfl sc39.nd rfl rfl (by decide) rfl rfl (pa_cons pe_non (pa_cons (pe_callB call_len_seq (by rfl) B.len PySem.boot_len (pa_cons (pv 0) pa_nil)) pa_nil)) (by rfl))
    (pss_cons (ps_for PassesOwn.never rfl (pi_range1 (by rfl) B.range (pa_cons (pv 1) pa_nil)) (pg_name (i := 4) sc39.nd rfl (.inr rfl)) (pss_cons (ps_set (i := 5) sc39.nd rfl (.inl rfl) (pe_callB call_len_seq (by rfl) B.len PySem.boot_len (pa_cons (pe_lc (own := [("_law_one", 6)]) (g := gName 6) rfl sc39.nd (pi_list (pv 0)) (blkOk_by (N := ["_law_lots", "_law_whole", "_law_found", "_law_least", "_law_n", "_law_many", "_law_one"]) (sc := defScope (top 39)) (by decide +kernel))
        (fun _ _ _ _ _ => (pg_name (i := 6) sc39.nd rfl (Or.inl rfl))) (fun _ _ _ _ _ => (pts_one (pt_val (pe_cal CLf hr (by decide) (pa_cons (pv 6) (pa_cons (pv 4) pa_nil)))))) (fun _ _ _ _ _ => (pv 6))) pa_nil)))
    (pss_one (ps_if (pt_cmpR op_lt (pe_callB (call_max2 rfl) (by rfl) B.max (by decide +kernel) (pa_cons (pv 5) (pa_cons (pe_op op_sub (pe_callB call_len_seq (by rfl) B.len PySem.boot_len (pa_cons (pv 0) pa_nil)) (pv 5)) pa_nil))) (pv 3) (nomark _)) (pss_one (ps_par (i := 2) (j := 3) rfl sc39.nd rfl rfl (by decide) rfl rfl (pa_cons (pv 4) (pa_cons (pe_callB (call_max2 rfl) (by rfl) B.max (by decide +kernel) (pa_cons (pv 5) (pa_cons (pe_op op_sub (pe_callB call_len_seq (by rfl) B.len PySem.boot_len (pa_cons (pv 0) pa_nil)) (pv 5)) pa_nil))) pa_nil)) (by rfl))) pss_nil))))
    (pss_one (ps_ret (pv 2))))), ?_⟩)
  · obtain ⟨a, W, ts, Ls, rfl, _⟩ := h
    rfl
  obtain ⟨a, W, ts, Ls, rfl, ha, hT, w0, w1, lL, hM, q⟩ := h
  have lts := hT.len
  refine ⟨_, rfl, a, _, rfl, .inl (SqL.of ha), ?_⟩
  refine ⟨_, _, rfl, ?_⟩
  refine ⟨_, rfl, W, rfl, by omega, by omega, for_range (n := W.toNat) (fun i σ H' => ∃ v4 v5 : Option V, σ = [some (.ref a), some (.int W), some (qV (bst Ls i).1), some (.int ((bst Ls i).2 : Nat)), v4, v5, none] ∧ Same H H') ⟨none, none, ?_, Same.refl H⟩ ?_ ?_⟩
  · rw [List.length_map, lts]
    rfl
  · rintro i σ H1 hi ⟨v4, v5, rfl, s1⟩
    have ha1 := s1 _ _ ha
    have hT1 := hT.same s1
    dsimp only [gName]
    refine ⟨_, rfl, a, rfl, ⟨_, SqL.of ha1⟩, fun D hD => lc_list (xs := ts.map V.ref) (fun j H' => Same H1 H' ∧ ∃ us : List Addr, H' D = some (.lst (us.map V.ref)) ∧ TL H' us ((Ls.take j).filter fun M => fit M (0 + (i : Int)))) ⟨Same.new hD, [], upd_same, trivial⟩ (fun j H' _ p => SqL.of (p.1 _ _ ha1)) ?_ ?_⟩
    · rintro j x H2 hx ⟨p1, us, p2, p3⟩
      obtain ⟨t9, ht9, rfl⟩ := tyAt_map hx
      obtain ⟨M, hMj, hT9⟩ := hT1.at ht9
      have hT2 := p1 _ _ hT9
      obtain ⟨lM, hM0⟩ := hM M (List.mem_of_getElem? hMj)
      have et : Ls.take (j + 1) = Ls.take j ++ [M] := take_at hMj
      have ll : ((Ls.take j).filter fun M => fit M (0 + (i : Int))).length ≤ 1024 := by
        have := List.length_filter_le (fun M => fit M (0 + (i : Int))) (Ls.take j)
        have := List.length_take_le' j Ls
        omega
      have lu := p3.len
      refine ⟨rfl, _, rfl, _, rfl, t9, M, _, rfl, .inr (SqT.of hT2), hM0, by omega, fun H5 u3 => ⟨_, rfl, ?_⟩⟩
      by_cases y9 : fit M (0 + (i : Int)) = true
      · refine iteP y9 ⟨_, rfl, _, u3 _ _ p2, len_lt (by rw [List.length_map]; omega), Same.upd (p1.trans u3) hD, us ++ [t9], ?_, ?_⟩
        · rw [upd_same, List.map_append]
          rfl
        · rw [et, List.filter_append, filt_yes (by exact y9)]
          exact TL.upd (u3 _ _ p2) ((p3.same u3).app (TL.one (u3 _ _ hT2)))
      · refine iteN y9 ⟨p1.trans u3, us, u3 _ _ p2, ?_⟩
        rw [et, List.filter_append, filt_no (by exact y9), List.append_nil]
        exact p3.same u3
    · rintro H2 ⟨p1, us, p2, p3⟩
      rw [List.length_map, lts, List.take_length] at p3
      have lu := p3.len
      refine ⟨D, _, rfl, .inl (SqL.of p2), ?_⟩
      dsimp only [gName]
      rw [List.length_map, lu]
      have ha2 := p1 _ _ ha1
      have em : ((Ls.filter fun M => fit M (0 + (i : Int))).length : Nat) = manyQ Ls (i : Int) := by
        unfold manyQ
        rw [Int.zero_add]
      rw [em]
      have mq : manyQ Ls (i : Int) ≤ Ls.length := List.length_filter_le _ _
      have ex : (if ((Ls.length : Nat) : Int) - (manyQ Ls (i : Int) : Nat) > ((manyQ Ls (i : Int) : Nat) : Int) then ((Ls.length : Nat) : Int) - (manyQ Ls (i : Int) : Nat) else ((manyQ Ls (i : Int) : Nat) : Int)) = ((leftQ Ls (i : Int) : Nat) : Int) := by
        unfold leftQ
        split <;> omega
      have el : ((ts.map V.ref).length : Nat) = Ls.length := by rw [List.length_map, lts]
      refine ⟨_, rfl, _, rfl, a, _, rfl, .inl (SqL.of ha2), _, rfl, _, _, rfl, rfl, _, _, rfl, _, rfl, _, _, rfl, rfl, _, rfl, ?_⟩
      rw [el, ex]
      by_cases y : leftQ Ls (i : Int) < (bst Ls i).2
      · refine iteP (decide_eq_true (by omega)) ?_
        refine ⟨_, rfl, _, rfl, _, rfl, a, _, rfl, .inl (SqL.of ha2), _, rfl, _, _, rfl, rfl, _, _, rfl, _, _, rfl, some (.int (0 + (i : Int))), some (.int ((manyQ Ls (i : Int) : Nat) : Int)), ?_, s1.trans p1⟩
        rw [el, ex]
        have eb : bst Ls (i + 1) = (some (i : Int), leftQ Ls (i : Int)) := if_pos y
        rw [eb, Int.zero_add]
        rfl
      · refine iteN (by simpa using y) ⟨some (.int (0 + (i : Int))), some (.int ((manyQ Ls (i : Int) : Nat) : Int)), ?_, s1.trans p1⟩
        have eb : bst Ls (i + 1) = bst Ls i := if_neg y
        rw [eb]
        rfl
  · rintro σ H1 ⟨v4, v5, rfl, s1⟩
    exact ⟨_, rfl, q H1 s1⟩


end
end KV

/-! lcm; sorted of a tuple of tuples of ints -/
namespace KV
open PySem PySem.Spec L2 PyProof.Rows
section
variable {prog : Program} {w : World} {A : Around} {s : Shared} {E : Value → Shared → Prop}
theorem collectT {t : Addr} {ws : List Value} {R : List Value → Shared → Prop} (ht : s.heap.IsTuple t ws.toArray) (hz : ws.length ≤ sizeLine)
    (k : R ws { s with heap := (s.heap.push (seqObj "list" #[] 0)).update s.heap.objs.size (Obj.mapSeq (· ++ ws.toArray)) }) : wpAny (model prog w) A (collect (.ref t)) R E s := by
  obtain ⟨ob, e1, e2, n, e3⟩ := id ht
  unfold collect; refine wpAny_bind (wpAny_runValue (codeAny_builtin entry_proto_collect' ?_))
  show wpAny _ _ (do again (.builtin "list.__iadd__" ⟨[← newList [], .ref t], []⟩)) _ _ s
  refine wpAny_bind (wpAny_newList (wpAny_pure ⟨Code.quiet_builtin _ (by decide +kernel), codeAny_builtin entry_list_iadd' ?_⟩)); show wpAny _ _ (Builtin.List.listExtendWith (.ref s.heap.objs.size) (.ref t) (.ref s.heap.objs.size)) _ _ { s with heap := s.heap.push (seqObj "list" #[] 0) }
  unfold Builtin.List.listExtendWith; have f1 : (s.heap.push (seqObj "list" #[] 0)).get? t = some ob := Heap.get?_push_of_some _ e1
  refine wpAny_bind (wpAny_typeOf (T := "tuple") ⟨ob, f1, e2⟩ ?_)
  have f2 : (Value.type "tuple" == Value.type "tuple") = true := by rfl
  rw [if_pos (by rw [f2]; simp)]; refine wpAny_bind (listItems_at f1 e3 ?_); refine wpAny_bind (listItems_at (xs := #[]) (n := 0) (Heap.get?_push_size _ rfl) rfl ?_); rw [if_neg (by simp)]
  refine wpAny_bind (listUpdate_at (xs := #[]) (n := 0) (Heap.get?_push_size _ rfl) rfl ?_ (Nat.zero_le _) (by show (#[] ++ ws.toArray).size ≤ sizeLine + 1; simp only [Array.size_append, List.size_toArray, List.length_nil]; omega)); refine wpAny_pure ?_
  show wpAny (model prog w) A (do
      let ox ← load s.heap.objs.size
      match ox.data with | .seq zs _ => pure zs.toList | _ => unsupported "internal:collect") R E { s with heap := (s.heap.push (seqObj "list" #[] 0)).update s.heap.objs.size (Obj.mapSeq (· ++ ws.toArray)) }
  refine wpAny_bind (wpAny_load (get?_update_seq (Heap.get?_push_size _ rfl) _) ?_); show wpAny _ _ (pure ((#[] : Array Value) ++ ws.toArray).toList) R E _
  rw [show ((#[] : Array Value) ++ ws.toArray).toList = ws by simp]
  exact wpAny_pure k
theorem sorted_ordT {t : Addr} {ws : List Value} {lw : Value → Value → Bool} {R : Value → Shared → Prop} (O : SrtO.Swo lw) (ht : s.heap.IsTuple t ws.toArray) (hz : ws.length ≤ sizeLine)
    (hS : 2 ≤ ws.length → ∀ (g : Heap) (b : Addr), g.get? b = some (seqObj "list" ws.toArray 0) → (∀ c o, s.heap.get? c = some o → c ≠ b ∧ g.get? c = some o) → SrtO.SortableO prog w A.in1.in1 { s with heap := g } b ws lw)
    (k : ∀ out : List Value, SrtO.Srtd lw out → SrtO.Stb lw out ws → R (.ref (s.heap.objs.size + 1)) { s with heap := sortedAll s.heap ws out.toArray }) : wpAny (model prog w) A (call (.builtin "sorted") [.ref t]) R E s := by
  refine Calls.call_function_entry PyProof.Rows.kind_sorted PyProof.Rows.plain_sorted PyProof.Rows.entry_sorted (PyProof.Rows.args_sorted1 _) ?_
  unfold Builtin.«sorted»
  refine wpAny_bind (m := checkCount "sorted" 1 1 _) (wpAny_pure ?_); refine wpAny_bind (collectT ht hz ?_); refine wpAny_bind (wpAny_newList ?_ hz)
  have z1 : ((s.heap.push (seqObj "list" #[] 0)).update s.heap.objs.size (Obj.mapSeq (· ++ ws.toArray))).objs.size = s.heap.objs.size + 1 := by rw [Heap.size_update, size_push']
  have z2 : (((s.heap.push (seqObj "list" #[] 0)).update s.heap.objs.size (Obj.mapSeq (· ++ ws.toArray))).push (seqObj "list" ws.toArray 0)).get? (s.heap.objs.size + 1) = some (seqObj "list" ws.toArray 0) := by rw [← z1]; exact Heap.get?_push_size _ rfl
  have z3 : ∀ c o, s.heap.get? c = some o → c ≠ s.heap.objs.size + 1 ∧ (((s.heap.push (seqObj "list" #[] 0)).update s.heap.objs.size (Obj.mapSeq (· ++ ws.toArray))).push (seqObj "list" ws.toArray 0)).get? c = some o := fun c o e => by
    have l : c < s.heap.objs.size := Heap.lt_size e
    refine ⟨Nat.ne_of_lt (Nat.lt_succ_of_lt l), Heap.get?_push_of_some _ ?_⟩; rw [Heap.get?_update_ne _ _ _ _ (Nat.ne_of_lt l)]; exact Heap.get?_push_of_some _ e
  show wpAny _ _ _ _ _ { s with heap := ((s.heap.push (seqObj "list" #[] 0)).update s.heap.objs.size (Obj.mapSeq (· ++ ws.toArray))).push (seqObj "list" ws.toArray 0) }
  rw [z1]
  refine wpAny_bind (wpAny_holding (wpAny_call_entry PyProof.Rows.slot_list_sort ⟨_, z2, rfl⟩ PyProof.Rows.entry_list_sort (SrtO.list_sort_ord O z2 hz (fun l2 => hS l2 _ _ z2 z3) fun out a b => ⟨_, rfl, ?_⟩) (PyProof.Rows.args_list_sort _)))
  exact wpAny_pure ⟨_, rfl, k out a b⟩
end
/-- sorted(xs), xs a tuple of tuples of ints -/
def rSortedTT (K : PySem.W.Frag) : List V → Hp → VK → Prop := fun vs H Q => ∃ (a : Addr) (ts : List Addr) (k : Addr → List Int), vs = [.ref a] ∧ SqT K H a (ts.map V.ref) ∧ (∀ t ∈ ts, H t = some (.tup ((k t).map V.int))) ∧ ((∀ t ∈ ts, k t ≠ []) ∨ ∀ t, ts[0]? = some t → k t = []) ∧
  ∀ (ts' : List Addr) (p : Addr), ts'.Perm ts → ts'.Pairwise (fun p q => HT.lexLt (k q) (k p) = false) → H p = none → Q (.ref p) (upd H p (.lst (ts'.map V.ref)))
theorem cr_sortedTT {X : Cx} (hu : X.A.units + 64 < cLine) : CallR X (.builtin "sorted") (rSortedTT X.K) := by
  intro pins s σ H vs us Q I r h
  obtain ⟨a, ts, k, rfl, hs, ht, hn, q⟩ := h
  obtain ⟨its, rv, hl, hz⟩ := I.tuple hs
  rw [Vals.ref1 r]
  have ei := nts_of rv
  have hv : ∀ u ∈ its, TpAt s.heap u (k (adO u)) := fun u hm => by
    rw [ei] at hm
    obtain ⟨t, hmt, rfl⟩ := List.mem_map.mp hm
    obtain ⟨_, its2, r2, o, ho, hc, n, hd⟩ := I.hok _ _ (ht t hmt)
    exact ⟨t, _, rfl, ⟨o, ho, hc, n, hd⟩, ints_of_vals r2⟩
  have hn' : (∀ v ∈ its, k (adO v) ≠ []) ∨ ∀ v, its[0]? = some v → k (adO v) = [] := by
    rw [ei]
    rcases hn with hn | hn
    · refine .inl fun v hm => ?_
      obtain ⟨t, hmt, rfl⟩ := List.mem_map.mp hm
      exact hn t hmt
    · refine .inr fun v hm => ?_
      rw [List.getElem?_map] at hm
      cases e : ts[0]? with
      | none =>
        rw [e] at hm
        cases hm
      | some t =>
        rw [e] at hm
        rw [← Option.some.inj hm]
        exact hn t e
  refine sorted_ordT (NtL.swo_lexL fun u => k (adO u)) hl (by rw [← rv.length]; exact hz) (fun h2 g c hg kk => ?_) fun out h1 h2 => ?_
  · refine tp_sortable (s := { s with heap := g }) (by show X.A.units + 1 + 1 < cLine; omega) h2 (fun v hm => (hv v hm).stay fun b o e _ => (kk b o e).2) hn' fun o e => ?_
    have e' : some o = some (seqObj "list" its.toArray 0) := e.symm.trans hg
    cases e'
    intro z
    exact absurd (Value.type.inj z) (by decide)
  · have eo : out = (out.map adO).map Value.ref := ref_map fun u hm => by
      have hm' : u ∈ its := h2.perm.mem_iff.mp hm
      rw [ei] at hm'
      obtain ⟨t, _, e⟩ := List.mem_map.mp hm'
      exact ⟨t, e.symm⟩
    have hp : (out.map adO).Perm ts := by
      have p1 := h2.perm.map adO
      rw [ei, ad_map] at p1
      exact p1
    have hs2 : (out.map adO).Pairwise (fun p q => HT.lexLt (k q) (k p) = false) := List.pairwise_map.mpr (h1.imp fun {x y} z => z)
    obtain ⟨ep, he'⟩ := PyProof.Rows.sortedAll_at s.heap its out.toArray
    have hlen : ((out.map adO).map V.ref).length ≤ sizeLine := by
      rw [List.length_map, hp.length_eq]
      rw [List.length_map] at hz
      exact hz
    have rvo : Vals ((out.map adO).map V.ref) out := by
      have z := of_nts (out.map adO)
      rw [← eo] at z
      exact z
    exact ⟨.ref _, upd H (s.heap.objs.size + 1) (.lst ((out.map adO).map V.ref)), I.laid (t' := s.toks) (fun _ _ => PyProof.Rows.sortedAll_old) (Nat.le_succ _) ⟨hlen, out, ep, rvo, he'⟩, rfl, q _ _ hp hs2 (I.hok.fresh (Nat.le_succ _))⟩
def rLcm : List V → Hp → VK → Prop := fun vs H Q => ∃ a b : Int, vs = [.int a, .int b] ∧ a.natAbs < 2 ^ 64 ∧ b.natAbs < 2 ^ 64 ∧ Q (.int ((a.natAbs.lcm b.natAbs : Nat) : Int)) H
theorem cr_lcm {X : Cx} : CallR X (.builtin "math.lcm") rLcm := by
  intro pins s σ H vs us Q I r h
  obtain ⟨a, b, rfl, ha, hb, q⟩ := h
  obtain ⟨t, u, rfl⟩ := Vals.int2 r
  exact PySem.W.mc_lcm ha hb fun _ => ⟨.int _, H, I.tok _, ⟨_, rfl⟩, q⟩
end KV

/-! the program: the question for these lots -/
namespace KV
open PySem PySem.Spec PyProof.Rows L2 KM
section
variable {P : Program} {w : World} {K : PySem.W.Frag} {mg : Str → Option Value} {base : Heap}
theorem bst_one {Ls : List (List Int)} (h : Ls.length = 1) : ∀ k, (bst Ls k).1 = none
  | 0 => rfl
  | k + 1 => by
    have ih := bst_one h k
    have e := bst_none Ls k ih
    show (if leftQ Ls (k : Int) < (bst Ls k).2 then (some (k : Int), leftQ Ls (k : Int)) else bst Ls k).1 = none
    rw [if_neg]
    · exact ih
    · have := leftQ_half Ls (k : Int)
      omega
theorem bst_stop_le (Ls : List (List Int)) : ∀ k, (bst Ls k).2 ≤ Ls.length
  | 0 => Nat.le_refl _
  | k + 1 => Nat.le_trans (bst_next Ls k).1 (bst_stop_le Ls k)
structure QOk (Ls : List (List Int)) (W : Nat) : Prop where
  pos : 0 < W
  le : W ≤ 2000
  few : Ls.length ≤ 1024
  some : 0 < Ls.length
  lot : ∀ M ∈ Ls, Lot M
  len : ∀ M ∈ Ls, M.length ≤ 6
  dvd : ∀ M ∈ Ls, ∀ q ∈ M, q ∣ (W : Int)
  nd : Ls.Nodup
theorem QOk.two {Ls : List (List Int)} {W Z : Nat} (h : QOk Ls W) (l : Ls.length ≠ 1) (z0 : 0 < Z) (hz : ∀ M ∈ Ls, ∀ q ∈ M, q ∣ (Z : Int)) : (bst Ls Z).1 ≠ none := by
  have l2 := h.some
  refine bst_some (M := Ls[0]) (N := Ls[1]'(by omega)) (List.getElem_mem _) (List.getElem_mem _) (fun e => ?_) h.lot z0 hz
  exact List.pairwise_iff_getElem.mp h.nd 0 1 (by omega) (by omega) (by omega) e
def spQF (K : PySem.W.Frag) : Sp := fun vs H Q _ => ∃ (a : Addr) (ts : List Addr) (Ls : List (List Int)) (W : Nat), vs = [.ref a] ∧ H a = some (.tup (ts.map V.ref)) ∧ TL H ts Ls ∧ QOk Ls W ∧ ∀ H', Same H H' → Q (qV (bst Ls W).1) H'

theorem sc25 : FnScope ["lots", "whole", "lot", "modulus", "best", "fewest", "count", "fitting", "left"] ["lots"] (defScope (top 25)) := ⟨rfl, rfl, rfl, by decide +kernel, rfl, by decide +kernel, by decide +kernel⟩
theorem ok_QF {f : Addr} {fd : FuncData} (B : Bl mg) (CFl : Cal P w K mg base CX0 1 "fits_lot" ["lot", "count"] (spFL K)) (F : Fun K "_question_for" "_question_for" (top 25) f fd) : FnOk P w K mg base CX0 2 f fd ["lots"] (spQF K) := by
  refine F.ok sc25 (fun vs H Q E h => ?_) (fun cdv A outer s H vs Q E hr h => ⟨_,
    (pss_cons (ps_if (pt_cmpR op_eq (pe_callB call_len_seq (by rfl) B.len PySem.boot_len (pa_cons (pv 0) pa_nil)) pe_int (nomark _)) (pss_one (ps_ret pe_non)) pss_nil)
    (pss_cons (ps_set (i := 1) sc25.nd rfl (.inl rfl) pe_int)
    (pss_cons (ps_for PassesOwn.never rfl (pi_tup (pv 0)) (pg_name (i := 2) sc25.nd rfl (.inl rfl)) (pss_one (ps_for PassesOwn.never rfl (pi_tup (pv 2)) (pg_name (i := 3) sc25.nd rfl (.inl rfl)) (pss_one (ps_set (i := 1) sc25.nd rfl (.inl rfl) (pe_callBfun cr_lcm (by rfl) B.lcm (pa_cons (pv 1) (pa_cons (pv 3) pa_nil))))))))
    (pss_cons (ps_par (i := 4) (j := 5) rfl sc25.nd rfl rfl (by decide) rfl rfl (pa_cons pe_int (pa_cons (pe_callB call_len_seq (by rfl) B.len PySem.boot_len (pa_cons (pv 0) pa_nil)) pa_nil)) (by rfl))
    (pss_cons (ps_for PassesOwn.never rfl (pi_range1 (by rfl) B.range (pa_cons (pv 1) pa_nil)) (pg_name (i := 6) sc25.nd rfl (.inr rfl)) (pss_cons (ps_set (i := 7) sc25.nd rfl (.inl rfl) (pe_callB call_len_seq (by rfl) B.len PySem.boot_len (pa_cons (pe_lc (own := [("lot", 2)]) (g := gName 2) rfl sc25.nd (pi_tup (pv 0)) (blkOk_by (N := ["lots", "whole", "lot", "modulus", "best", "fewest", "count", "fitting", "left"]) (sc := defScope (top 25)) (by decide +kernel))
        (fun _ _ _ _ _ => (pg_name (i := 2) sc25.nd rfl (Or.inl rfl))) (fun _ _ _ _ _ => (pts_one (pt_val (pe_cal CFl hr (by decide) (pa_cons (pv 2) (pa_cons (pv 6) pa_nil)))))) (fun _ _ _ _ _ => (pv 2))) pa_nil)))
    (pss_cons (ps_set (i := 8) sc25.nd rfl (.inl rfl) (pe_callB (call_max2 rfl) (by rfl) B.max (by decide +kernel) (pa_cons (pv 7) (pa_cons (pe_op op_sub (pe_callB call_len_seq (by rfl) B.len PySem.boot_len (pa_cons (pv 0) pa_nil)) (pv 7)) pa_nil))))
    (pss_cons (ps_if (pt_cmpR op_lt (pv 8) (pv 5) (nomark _)) (pss_one (ps_par (i := 4) (j := 5) rfl sc25.nd rfl rfl (by decide) rfl rfl (pa_cons (pv 6) (pa_cons (pv 8) pa_nil)) (by rfl))) pss_nil)
    (pss_one (ps_if (pt_cmpR op_le (pe_op op_mulW (pv 5) pe_int) (pe_op op_add (pe_callB call_len_seq (by rfl) B.len PySem.boot_len (pa_cons (pv 0) pa_nil)) pe_int) (nomark _)) (pss_one ps_break) pss_nil))))))
    (pss_one (ps_ret (pv 4)))))))), ?_⟩)
  · obtain ⟨a, ts, Ls, W, rfl, _⟩ := h
    rfl
  obtain ⟨a, ts, Ls, W, rfl, ha, hT, hQ, q⟩ := h
  have lts := hT.len
  refine ⟨_, rfl, a, _, rfl, .inr (SqT.of ha), rfl, _, rfl, ?_⟩
  have el : decide (V.int ((((ts.map V.ref).length : Nat) : Int)) = V.int 1) = decide (Ls.length = 1) := by
    rw [dvi, List.length_map, lts]
    exact decide_eq_decide.mpr ⟨fun z => by omega, fun z => by omega⟩
  rw [el]
  by_cases one : Ls.length = 1
  · refine iteP (decide_eq_true one) ?_
    have z := q H (Same.refl H)
    rw [bst_one one] at z
    exact z
  refine iteN (by simpa using one) ?_
  dsimp only [tNext, gName]
  refine ⟨_, rfl, a, rfl, ⟨_, SqT.of ha⟩, for_tup (xs := ts.map V.ref) (fun i σ H' => ∃ (Z : Nat) (v2 v3 : Option V), 0 < Z ∧ Z ∣ W ∧ (∀ M ∈ Ls.take i, ∀ q ∈ M, q ∣ (Z : Int)) ∧ σ = [some (.ref a), some (.int (Z : Int)), v2, v3, none, none, none, none, none] ∧ H' = H) ⟨1, none, none, by decide, Nat.one_dvd _, fun M hM => (by simp at hM), rfl, rfl⟩ ?_ ?_ ?_⟩
  · rintro i σ H' _ ⟨_, _, _, _, _, _, _, rfl⟩
    exact SqT.of ha
  · rintro i x σ H' hx ⟨Z, v2, v3, z0, zW, zd, rfl, rfl⟩
    obtain ⟨t, ht, rfl⟩ := tyAt_map hx
    obtain ⟨M, hM, hTt⟩ := hT.at ht
    have hMm := List.mem_of_getElem? hM
    dsimp only [gName]
    refine ⟨_, rfl, t, rfl, ⟨_, SqT.of hTt⟩, for_tup (xs := M.map V.int) (fun j σ H2 => ∃ (Z : Nat) (v3 : Option V), 0 < Z ∧ Z ∣ W ∧ (∀ N ∈ Ls.take i, ∀ q ∈ N, q ∣ (Z : Int)) ∧ (∀ q ∈ M.take j, q ∣ (Z : Int)) ∧ σ = [some (.ref a), some (.int (Z : Int)), some (.ref t), v3, none, none, none, none, none] ∧ H2 = H') ⟨Z, v3, z0, zW, zd, fun q hq => (by simp at hq), rfl, rfl⟩ ?_ ?_ ?_⟩
    · rintro j σ H2 _ ⟨_, _, _, _, _, _, _, rfl⟩
      exact SqT.of hTt
    · rintro j x σ H2 hx ⟨Z, v3, z0, zW, zd, ze, rfl, rfl⟩
      obtain ⟨n, hn, rfl⟩ := map_at hx
      have hnM := List.mem_of_getElem? hn
      have n3 := (hQ.lot M hMm).ge n hnM
      have nW : n.natAbs ∣ W := by
        have := Int.natAbs_dvd_natAbs.mpr (hQ.dvd M hMm n hnM)
        simpa using this
      have nle := Nat.le_of_dvd hQ.pos nW
      have zle := Nat.le_of_dvd hQ.pos zW
      have wle := hQ.le
      dsimp only [gName]
      refine ⟨_, rfl, _, rfl, _, _, rfl, ?_, ?_, Z.lcm n.natAbs, some (.int n), Nat.lcm_pos z0 (by omega), Nat.lcm_dvd zW nW, fun N hN q hq => Int.dvd_trans (zd N hN q hq) (Int.natCast_dvd_natCast.mpr (Nat.dvd_lcm_left _ _)), fun q hq => ?_, ?_, rfl⟩
      · rw [Int.natAbs_natCast]
        exact Nat.lt_of_le_of_lt (Nat.le_trans zle wle) (by decide)
      · exact Nat.lt_of_le_of_lt (Nat.le_trans nle wle) (by decide)
      · rw [take_at hn] at hq
        rcases List.mem_append.mp hq with y | y
        · exact Int.dvd_trans (ze q y) (Int.natCast_dvd_natCast.mpr (Nat.dvd_lcm_left _ _))
        · rw [List.mem_singleton] at y
          subst y
          refine Int.dvd_trans (Int.dvd_natAbs.mpr (Int.dvd_refl q)) (Int.natCast_dvd_natCast.mpr (Nat.dvd_lcm_right _ _))
      · rw [Int.natAbs_natCast]
        rfl
    · rintro σ H2 ⟨Z, v3, z0, zW, zd, ze, rfl, rfl⟩
      rw [List.length_map, List.take_length] at ze
      refine ⟨Z, some (.ref t), v3, z0, zW, fun N hN => ?_, rfl, rfl⟩
      rw [take_at hM] at hN
      rcases List.mem_append.mp hN with y | y
      · exact zd N y
      · rw [List.mem_singleton] at y
        subst y
        exact ze
  rintro σ H' ⟨Z, v2, v3, z0, zW, zd, rfl, rfl⟩
  rw [List.length_map, lts, List.take_length] at zd
  have zle := Nat.le_of_dvd hQ.pos zW
  have wle := hQ.le
  have fin : ∀ (k : Nat) (H2 : Hp), Same H' H2 → bst Ls W = bst Ls k → Q (.int ((bst Ls k).1.getD 0)) H2 := fun k H2 s2 e => by
    have z := q H2 s2
    have t := hQ.two one hQ.pos hQ.dvd
    rw [e] at z t
    cases hb : (bst Ls k).1 with
    | none => exact absurd hb t
    | some n =>
      rw [hb] at z
      exact z
  refine ⟨_, rfl, a, _, rfl, .inr (SqT.of ha), _, _, rfl, ?_⟩
  refine ⟨_, rfl, (Z : Int), rfl, by omega, by omega, for_range (n := Z) (fun i σ H2 => ∃ v6 v7 v8 : Option V, σ = [some (.ref a), some (.int (Z : Int)), v2, v3, some (.int ((bst Ls i).1.getD 0)), some (.int ((bst Ls i).2 : Nat)), v6, v7, v8] ∧ Same H' H2) ⟨none, none, none, ?_, Same.refl H'⟩ ?_ ?_⟩
  · rw [List.length_map, lts]
    rfl
  · rintro i σ H2 hi ⟨v6, v7, v8, rfl, s2⟩
    have ha2 := s2 _ _ ha
    have hT2 := hT.same s2
    dsimp only [gName]
    refine ⟨_, rfl, a, rfl, ⟨_, SqT.of ha2⟩, fun D hD => lc_tup (xs := ts.map V.ref) (fun j H3 => Same H2 H3 ∧ ∃ us : List Addr, H3 D = some (.lst (us.map V.ref)) ∧ TL H3 us ((Ls.take j).filter fun M => fit M (0 + (i : Int)))) ⟨Same.new hD, [], upd_same, trivial⟩ (fun j H3 _ p => SqT.of (p.1 _ _ ha2)) ?_ ?_⟩
    · rintro j x H3 hx ⟨p1, us, p2, p3⟩
      obtain ⟨t9, ht9, rfl⟩ := tyAt_map hx
      obtain ⟨M, hMj, hT9⟩ := hT2.at ht9
      have hT3 := p1 _ _ hT9
      have hMm := List.mem_of_getElem? hMj
      have lM := hQ.len M hMm
      have et : Ls.take (j + 1) = Ls.take j ++ [M] := take_at hMj
      have few := hQ.few
      have ll : ((Ls.take j).filter fun M => fit M (0 + (i : Int))).length ≤ 1024 := by
        have := List.length_filter_le (fun M => fit M (0 + (i : Int))) (Ls.take j)
        have := List.length_take_le' j Ls
        omega
      have lu := p3.len
      refine ⟨rfl, _, rfl, _, rfl, t9, M, _, rfl, SqT.of hT3, (hQ.lot M hMm).ge, by omega, fun H5 u3 => ⟨_, rfl, ?_⟩⟩
      by_cases y9 : fit M (0 + (i : Int)) = true
      · refine iteP y9 ⟨_, rfl, _, u3 _ _ p2, len_lt (by rw [List.length_map]; omega), Same.upd (p1.trans u3) hD, us ++ [t9], ?_, ?_⟩
        · rw [upd_same, List.map_append]
          rfl
        · rw [et, List.filter_append, filt_yes (by exact y9)]
          exact TL.upd (u3 _ _ p2) ((p3.same u3).app (TL.one (u3 _ _ hT3)))
      · refine iteN y9 ⟨p1.trans u3, us, u3 _ _ p2, ?_⟩
        rw [et, List.filter_append, filt_no (by exact y9), List.append_nil]
        exact p3.same u3
    · rintro H3 ⟨p1, us, p2, p3⟩
      rw [List.length_map, lts, List.take_length] at p3
      have lu := p3.len
      refine ⟨D, _, rfl, .inl (SqL.of p2), ?_⟩
      dsimp only [gName]
      rw [List.length_map, lu]
      have ha3 := p1 _ _ ha2
      have em : ((Ls.filter fun M => fit M (0 + (i : Int))).length : Nat) = manyQ Ls (i : Int) := by
        unfold manyQ
        rw [Int.zero_add]
      rw [em]
      have mq : manyQ Ls (i : Int) ≤ Ls.length := List.length_filter_le _ _
      have ex : (if ((Ls.length : Nat) : Int) - (manyQ Ls (i : Int) : Nat) > ((manyQ Ls (i : Int) : Nat) : Int) then ((Ls.length : Nat) : Int) - (manyQ Ls (i : Int) : Nat) else ((manyQ Ls (i : Int) : Nat) : Int)) = ((leftQ Ls (i : Int) : Nat) : Int) := by
        unfold leftQ
        split <;> omega
      have el2 : ((ts.map V.ref).length : Nat) = Ls.length := by rw [List.length_map, lts]
      refine ⟨_, rfl, _, rfl, a, _, rfl, .inr (SqT.of ha3), _, rfl, _, _, rfl, rfl, _, _, rfl, ?_⟩
      rw [el2, ex]
      dsimp only [gName]
      refine sq_cut (fun σ H4 => ∃ v6 v7 v8 : Option V, σ = [some (.ref a), some (.int (Z : Int)), v2, v3, some (.int ((bst Ls (i + 1)).1.getD 0)), some (.int ((bst Ls (i + 1)).2 : Nat)), v6, v7, v8] ∧ Same H' H4) (fun Y hY => ?_) ?_
      · refine ⟨_, rfl, _, rfl, _, _, rfl, rfl, _, rfl, ?_⟩
        by_cases y : leftQ Ls (i : Int) < (bst Ls i).2
        · refine iteP (decide_eq_true (by omega)) ⟨_, rfl, _, rfl, _, _, rfl, hY _ _ ⟨some (.int (0 + (i : Int))), some (.int ((manyQ Ls (i : Int) : Nat) : Int)), some (.int ((leftQ Ls (i : Int) : Nat) : Int)), ?_, s2.trans p1⟩⟩
          have eb : bst Ls (i + 1) = (some (i : Int), leftQ Ls (i : Int)) := if_pos y
          rw [eb, Int.zero_add]
          rfl
        · refine iteN (by simpa using y) (hY _ _ ⟨some (.int (0 + (i : Int))), some (.int ((manyQ Ls (i : Int) : Nat) : Int)), some (.int ((leftQ Ls (i : Int) : Nat) : Int)), ?_, s2.trans p1⟩)
          have eb : bst Ls (i + 1) = bst Ls i := if_neg y
          rw [eb]
          rfl
      · rintro σ H4 ⟨v6, v7, v8, rfl, s4⟩
        have b1 : (bst Ls (i + 1)).2 ≤ 1024 := by
          have z := bst_stop_le Ls (i + 1)
          have := hQ.few
          omega
        have s1 : sm 20 (((bst Ls (i + 1)).2 : Nat) : Int) := by
          show ((((bst Ls (i + 1)).2 : Nat) : Int)).natAbs < 2 ^ 20
          rw [Int.natAbs_natCast]
          exact Nat.lt_of_le_of_lt b1 (by decide)
        refine ⟨_, rfl, _, _, rfl, rfl, mulW (k := 20) s1 (show sm 20 2 by show (2 : Int).natAbs < 2 ^ 20; decide) (by decide) (by decide) (by decide), _, rfl, a, _, rfl, .inr (SqT.of (s4 _ _ ha)), _, _, rfl, rfl, _, _, rfl, rfl, _, rfl, ?_⟩
        rw [el2]
        by_cases y : (bst Ls (i + 1)).2 * 2 ≤ Ls.length + 1
        · refine iteP (decide_eq_true (by omega)) ⟨_, rfl, fin (i + 1) H4 s4 ?_⟩
          obtain ⟨j, hj⟩ := Nat.le.dest (show i + 1 ≤ W by omega)
          rw [← hj]
          exact bst_half y j
        · exact iteN (by simp; omega) ⟨v6, v7, v8, rfl, s4⟩
  · rintro σ H2 ⟨v6, v7, v8, rfl, s2⟩
    refine ⟨_, rfl, fin Z H2 s2 ?_⟩
    obtain ⟨j, rfl⟩ := Nat.le.dest zle
    exact bst_per z0 zd j


end
end KV

/-! the program: the next question -/
namespace KV
open PySem PySem.Spec PyProof.Rows L2 KM
theorem manyQ_perm {A B : List (List Int)} (p : A.Perm B) (n : Int) : manyQ A n = manyQ B n := (p.filter _).length_eq
theorem leftQ_perm {A B : List (List Int)} (p : A.Perm B) (n : Int) : leftQ A n = leftQ B n := by
  unfold leftQ
  rw [manyQ_perm p, p.length_eq]
theorem bst_perm {A B : List (List Int)} (p : A.Perm B) : ∀ k, bst A k = bst B k
  | 0 => by
    show (none, A.length) = (none, B.length)
    rw [p.length_eq]
  | k + 1 => by
    show (if leftQ A (k : Int) < (bst A k).2 then (some (k : Int), leftQ A (k : Int)) else bst A k) = (if leftQ B (k : Int) < (bst B k).2 then (some (k : Int), leftQ B (k : Int)) else bst B k)
    rw [bst_perm p k, leftQ_perm p]
theorem cl_nodup (L : List Int) : ∀ k, (cl L k).Nodup
  | 0 => List.pairwise_singleton _ _
  | k + 1 => by
    have ih := cl_nodup L k
    show (cst L (cl L k) (3 + (k : Int))).Nodup
    unfold cst addQ
    by_cases z : hitQ L (3 + (k : Int)) = true
    · rw [if_pos z]
      refine List.pairwise_append.mpr ⟨ih, ?_, fun M hM N hN e => ?_⟩
      · refine List.pairwise_map.mpr ((ih.sublist List.filter_sublist).imp fun {a b} ne e => ne (List.append_cancel_right e))
      · obtain ⟨R, hR, rfl⟩ := List.mem_map.mp hN
        have := (cl_lot hM).2.1 (3 + (k : Int)) (by rw [e]; simp)
        omega
    · rw [if_neg z]
      exact ih
theorem qok {L B : List Int} {Ms : List (List Int)} {k : Nat} (hS : SmL L) (pe : Ms.Perm ((cl L k).filter (freeB B))) (ne : Ms ≠ []) : QOk Ms (prd L).toNat := by
  have pp := prd_pos hS.lot.ge
  have mc : ∀ M ∈ Ms, M ∈ cl L k := fun M hM => (List.mem_filter.mp (pe.mem_iff.mp hM)).1
  have lw : (((prd L).toNat : Nat) : Int) = prd L := by omega
  refine ⟨by omega, by have := hS.sml; omega, ?_, List.length_pos_iff.mpr ne, fun M hM => (cl_lot (mc M hM)).1, fun M hM => hS.len (mc M hM), fun M hM q hq => ?_, ?_⟩
  · rw [pe.length_eq]
    exact Nat.le_trans (List.length_filter_le _ _) (hS.few k)
  · obtain ⟨p, hp, d⟩ := (cl_lot (mc M hM)).2.2 q hq
    rw [lw]
    exact Int.dvd_trans d (dvd_prd hp)
  · exact (pe.nodup_iff).mpr ((cl_nodup L k).sublist List.filter_sublist)
section
variable {P : Program} {w : World} {K : PySem.W.Frag} {mg : Str → Option Value} {base : Heap} {C C2 fI2 : Addr}
def NQo (C2 : Addr) (B : List Int) (H : Hp) (Q : VK) (E : XK) : Option (List Int) → Prop
  | none => BadA C2 0 H E
  | some L => SmL L ∧ ∀ k : Nat, (∀ p ∈ L, 0 < p ∧ p < 3 + (k : Int)) → ((cl L k).filter (freeB B) = [] → BadA C2 1 H E) ∧ ((cl L k).filter (freeB B) ≠ [] → ∀ H', Same H H' → Q (qV (bst ((cl L k).filter (freeB B)) (prd L).toNat).1) H')
def spNQ (K : PySem.W.Frag) (C C2 : Addr) : Sp := fun vs H Q E => ∃ v x : V, vs = [v, x] ∧ Tel K C H v x E fun A B => ∀ o, LotJ A o → NQo C2 B H Q E o

theorem sc24 : FnScope ["yes", "no", "lots"] ["yes", "no"] (defScope (top 24)) := ⟨rfl, rfl, rfl, by decide +kernel, rfl, by decide +kernel, by decide +kernel⟩
theorem ok_NQ {f : Addr} {fd : FuncData} (B : Bl mg) (T : PySem.LowX.LowTxt K mg "Refused" "Refused.__init__" C2 fI2) (CPl : Cal P w K mg base (L2.CX P w) 6 "possible_lots" ["yes", "no"] (spPoL K C C2)) (CQ : Cal P w K mg base CX0 2 "_question_for" ["lots"] (spQF K)) (F : Fun K "next_question" "next_question" (top 24) f fd) : FnOk P w K mg base (L2.CX P w) 7 f fd ["yes", "no"] (spNQ K C C2) := by
  refine F.okX sc24 (fun vs H Q E h => ?_) (fun cdv A outer s H vs Q E hr h => ⟨_,
    (pss_cons (ps_set (i := 2) sc24.nd rfl (.inl rfl) (by exact (pe_calX CPl hr (by decide) (takes_of rfl rfl rfl rfl) (fun _ _ _ _ z => z) (pa_cons (pv 0) (pa_cons (pv 1) pa_nil)))))
    (pss_cons (ps_if (pt_cmpR op_eq (pe_callB call_len_seq (by rfl) B.len PySem.boot_len (pa_cons (pv 2) pa_nil)) pe_int (nomark _)) (pss_one (ps_raiseLow rfl T hr (takes_of rfl rfl rfl rfl) (by exact (pa_cons pe_int pa_nil)))) pss_nil)
    (pss_one (ps_ret (by exact (pe_cal CQ hr (by decide) (pa_cons (pv 2) pa_nil))))))), ?_⟩)
  · obtain ⟨v, x, rfl, _⟩ := h
    rfl
  obtain ⟨v, x, rfl, h⟩ := h
  refine ⟨_, rfl, _, rfl, v, x, rfl, h.next fun A B hv hx q o ho => ?_⟩
  have q := q o ho
  cases o with
  | none => exact q
  | some L =>
    obtain ⟨hS, q⟩ := q
    refine ⟨hS, fun p ts Ms k H1 s1 hp hT hs pe hk => ?_⟩
    obtain ⟨q0, q1⟩ := q k hk
    have lts := hT.len
    dsimp only [gName]
    refine ⟨_, rfl, p, _, rfl, .inr (SqT.of hp), rfl, _, rfl, ?_⟩
    have el : decide (V.int ((((ts.map V.ref).length : Nat) : Int)) = V.int 0) = decide (Ms = []) := by
      rw [dvi, List.length_map, lts]
      exact decide_eq_decide.mpr ⟨fun z => List.length_eq_zero_iff.mp (by omega), fun z => by rw [z]; rfl⟩
    rw [el]
    by_cases e : Ms = []
    · refine iteP (decide_eq_true e) ⟨_, rfl, fun d hd => q0 ?_ _ d s1 hd⟩
      rw [e] at pe
      exact List.Perm.nil_eq pe |>.symm
    · refine iteN (by simpa using e) ?_
      refine ⟨_, rfl, p, ts, Ms, (prd L).toNat, rfl, hp, hT, qok hS pe e, fun H2 s2 => ?_⟩
      have z := q1 (fun y => e (by rw [y] at pe; exact List.Perm.eq_nil pe)) H2 (s1.trans s2)
      rw [← bst_perm pe] at z
      exact z


end
end KV

/-! the law: another order, small lots -/
namespace KV
open PySem PySem.Spec PyProof.Rows L2 KM
theorem map_erase (ls : List Int) (k : Nat) : (ls.map V.int).eraseIdx k = (ls.eraseIdx k).map V.int := by
  induction ls generalizing k with
  | nil => rfl
  | cons x ls ih =>
    cases k with
    | zero => rfl
    | succ k =>
      show V.int x :: (ls.map V.int).eraseIdx k = V.int x :: (ls.eraseIdx k).map V.int
      rw [ih]
theorem perm_erase : ∀ (ls : List Int) (k : Nat) (h : k < ls.length), (ls[k] :: ls.eraseIdx k).Perm ls
  | x :: ls, 0, _ => List.Perm.refl _
  | x :: ls, k + 1, h => by
    have h' : k < ls.length := by simpa using h
    have z := perm_erase ls k h'
    show (ls[k] :: x :: ls.eraseIdx k).Perm (x :: ls)
    exact (List.Perm.swap x _ _).trans (z.cons x)
theorem map_get {ls : List Int} {k : Nat} (h : k < ls.length) : (ls.map V.int)[k]? = some (V.int ls[k]) := by
  rw [List.getElem?_map, List.getElem?_eq_getElem h]
  rfl
theorem six_ok {r : Int} {n : Nat} (h0 : 0 ≤ r) (h1 : r < n) : seqIndex? r n = some r.toNat := by
  unfold seqIndex?
  have e1 : ¬ r < 0 := by omega
  simp only [e1, if_false]
  rw [if_pos (by simp only [Bool.and_eq_true, decide_eq_true_eq]; omega)]
theorem lotJ_ex : ∀ A : List Int, ∃ o, LotJ A o := by
  intro A
  have key : ∀ i, ∃ o, LotJ (A.take i) o := by
    intro i
    induction i with
    | zero => exact ⟨none, LotJ.nil⟩
    | succ i ih =>
      obtain ⟨o, h⟩ := ih
      cases e : A[i]? with
      | none =>
        have l := List.getElem?_eq_none_iff.mp e
        rw [List.take_of_length_le l] at h
        rw [List.take_of_length_le (by omega)]
        exact ⟨o, h⟩
      | some n =>
        rw [take_at e]
        by_cases hp : pln n
        · exact ⟨o, h.pln hp⟩
        · cases o with
          | none => exact ⟨some ((ones n).mergeSort fun a b => decide (a ≤ b)), h.first hp (List.mergeSort_perm _ _) (sortI_le _)⟩
          | some L => exact ⟨some ((comF L (ones n)).mergeSort fun a b => decide (a ≤ b)), LotJ.next h hp (List.Perm.refl _) (List.mergeSort_perm _ _) (sortI_le _)⟩
  have := key A.length
  rw [List.take_length] at this
  exact this
theorem parts_lot {A A' s : List Int} {o : Option (List Int)} (p : A.Perm A') (pe : s.Perm (lfs A')) (so : s.Pairwise (· ≤ ·)) (h0 : (0 : Int) ∉ s) (h : LotJ A o) : o = some s := by
  have np : ∃ n ∈ A', ¬ pln n := by
    refine Classical.byContradiction fun z => h0 ?_
    have z : ∀ n ∈ A', pln n := fun n hn => Classical.byContradiction fun y => z ⟨n, hn, y⟩
    exact pe.mem_iff.mpr (List.mem_filter.mpr ⟨(fnd_none A' z).1, by decide⟩)
  have g : ∀ q ∈ s, 2 < q := fun q hq => by
    obtain ⟨a, b⟩ := List.mem_filter.mp (pe.mem_iff.mp hq)
    have := fnd_some A' np q a
    simp [pF] at b
    omega
  cases o with
  | none =>
    obtain ⟨n, hn, z⟩ := np
    exact absurd (h.1 n (p.mem_iff.mpr hn)) z
  | some M =>
    refine congrArg some (lot_eq h.2.1 (perm_co pe ((fnd_co A').sublist List.filter_sublist)) (lotJ_gt h) g h.2.2 so fun k hk => ?_)
    rw [← lotJ_ops h hk, op_perm p, fnd_ops np hk]
    constructor
    · rintro ⟨q, hq, d⟩
      exact ⟨q, pe.mem_iff.mpr hq, d⟩
    · rintro ⟨q, hq, d⟩
      exact ⟨q, pe.mem_iff.mp hq, d⟩
/-- counts that have this small lot -/
structure LotOf (A L : List Int) : Prop where
  ex : LotJ A (some L)
  un : ∀ o, LotJ A o → o = some L
  sml : SmL L
theorem LotOf.of_parts {A A' s : List Int} (p : A.Perm A') (pe : s.Perm (lfs A')) (so : s.Pairwise (· ≤ ·)) (h0 : (0 : Int) ∉ s) (h : Lot s → SmL s) : LotOf A s := by
  have un : ∀ o, LotJ A o → o = some s := fun o => parts_lot p pe so h0
  obtain ⟨o, ho⟩ := lotJ_ex A
  have ex := ho
  rw [un o ho] at ex
  exact ⟨ex, un, h (lotJ_lot ex)⟩
theorem smL_of {s : List Int} (h : Lot s) (hp : prd s < 90) : SmL s := by
  have pp := prd_pos h.ge
  refine ⟨h, by omega, fun k => ?_⟩
  have hk : ∀ p ∈ s, 0 < p ∧ p < 3 + ((88 : Nat) : Int) := fun p hp' => by
    have := h.ge p hp'
    have := le_prd h.ge hp'
    omega
  have a := cl_le (L := s) k 88
  have e : cl s (k + 88) = cl s 88 := by rw [Nat.add_comm, cl_stab hk]
  have b := cl_few (L := s) (W := (prd s).toNat) (by omega) (by omega) fun p hp' => by
    have : (((prd s).toNat : Nat) : Int) = prd s := by omega
    rw [this]
    exact dvd_prd hp'
  rw [e] at a
  omega
theorem smL_one {b : Int} (h3 : 3 ≤ b) (h2 : b ≤ 2000) (h : (((List.range 1998).filter fun (i : Nat) => hitQ [b] (3 + (i : Int))).foldl (fun Ls (i : Nat) => addQ Ls (3 + (i : Int))) [[]]).length ≤ 1024) : SmL [b] := by
  refine ⟨⟨fun n hn => by rw [List.mem_singleton] at hn; omega, List.pairwise_singleton _ _, List.pairwise_singleton _ _⟩, by rw [prd_one]; exact h2, fun k => ?_⟩
  have hk : ∀ p ∈ [b], 0 < p ∧ p < 3 + ((1998 : Nat) : Int) := fun p hp' => by
    rw [List.mem_singleton] at hp'
    omega
  have a := cl_le (L := [b]) k 1998
  rw [show cl [b] (k + 1998) = cl [b] 1998 by rw [Nat.add_comm, cl_stab hk], cl_fold [b] 1998] at a
  omega
theorem big_menu : ∀ b ∈ ([100, 210, 360, 420, 1024, 2000] : List Int), (((List.range 1998).filter fun (i : Nat) => hitQ [b] (3 + (i : Int))).foldl (fun Ls (i : Nat) => addQ Ls (3 + (i : Int))) [[]]).length ≤ 1024 := by decide +kernel
theorem big_lfs : ∀ b ∈ ([100, 210, 360, 420, 1024, 2000] : List Int), lfs [b + 1, b] = [b] := by decide +kernel
theorem big_rng : ∀ b ∈ ([100, 210, 360, 420, 1024, 2000] : List Int), 3 ≤ b ∧ b ≤ 2000 := by decide
theorem lotOf_big {b : Int} (hb : b ∈ ([100, 210, 360, 420, 1024, 2000] : List Int)) : LotOf [b + 1, b] [b] := by
  obtain ⟨h3, h2⟩ := big_rng b hb
  exact LotOf.of_parts (List.Perm.refl _) (by rw [big_lfs b hb]) (List.pairwise_singleton _ _) (by rw [List.mem_singleton]; omega) fun _ => smL_one h3 h2 (big_menu b hb)
theorem lotOf_12 : LotOf [13, 12] [12] :=
  LotOf.of_parts (List.Perm.refl _) (by rw [show lfs [13, 12] = [12] by decide +kernel]) (List.pairwise_singleton _ _) (by decide) fun h => smL_of h (by decide)
section
variable {P : Program} {w : World} {K : PySem.W.Frag} {mg : Str → Option Value} {base : Heap}
def spMix : Sp := fun vs H Q _ => ∃ (d c a : Addr) (ns : List Int), vs = [.ref d, .ref a] ∧ Dl H d c ∧ H a = some (.lst (ns.map V.int)) ∧ a ≠ d ∧ a ≠ c ∧ ns.length ≤ 16 ∧ ∀ (l : Addr) (ms : List Int) (H' : Hp), ms.Perm ns → H l = none → H' l = some (.lst (ms.map V.int)) → Dl H' d c → Kp d c H H' → Q (.ref l) H'
def MixW (d c a l f : Addr) (ns : List Int) (H : Hp) (k : Nat) (σ : L2.St) (H' : Hp) : Prop := σ = [some (.ref d), some (.ref a), some (.ref l), some (.ref f)] ∧ ∃ ls fs : List Int, k = ls.length ∧ (fs ++ ls).Perm ns ∧ H' l = some (.lst (ls.map V.int)) ∧ H' f = some (.lst (fs.map V.int)) ∧ Dl H' d c ∧ Kp d c H H'
theorem sc30 : FnScope ["_law_deal", "_law_some", "_law_left", "_law_found"] ["_law_deal", "_law_some"] (defScope (top 30)) := ⟨rfl, rfl, rfl, by decide +kernel, rfl, by decide +kernel, by decide +kernel⟩
theorem ok_mixed {f : Addr} {fd : FuncData} (B : Bl mg) (CA : Cal P w K mg base CX0 1 "_law_any" ["_law_deal", "_law_bound"] spAny) (F : Fun K "_law_mixed" "_law_mixed" (top 30) f fd) : FnOk P w K mg base CX0 2 f fd ["_law_deal", "_law_some"] spMix := by
  refine F.ok sc30 (fun vs H Q E h => ?_) (fun cdv A outer s H vs Q E hr h => ⟨_,
    (pss_cons (ps_par (i := 2) (j := 3) rfl sc30.nd rfl rfl (by decide) rfl rfl (pa_cons (pe_callTy call_list_of (by rfl) B.list (by decide +kernel) (pa_cons (pv 1) pa_nil)) (pa_cons (pe_lst pa_nil) pa_nil)) (by rfl))
    (pss_cons (ps_while PassesOwn.never (pt_cmpR (op_neD hr.units) (pv 2) (pe_lst pa_nil) (nomark _)) (pss_one (ps_expr (pe_bm PySem.F.plainAttrs_list PySem.F.slot_list_append PySem.F.type_list_append mt_append (pv 3) (pa_cons (pe_bm PySem.F.plainAttrs_list PySem.F.slot_list_pop PySem.F.type_list_pop mt_popAt (pv 2) (pa_cons (by exact (pe_cal (X := L2.Cx.nox _) CA hr (by decide) (pa_cons (pv 0) (pa_cons (pe_callB call_len_seq (by rfl) B.len PySem.boot_len (pa_cons (pv 2) pa_nil)) pa_nil)))) pa_nil)) pa_nil)))))
    (pss_one (ps_ret (pv 3))))), ?_⟩)
  · obtain ⟨d, c, a, ns, rfl, _⟩ := h
    rfl
  obtain ⟨d, c, a, ns, rfl, hD, ha, ad, ac, hn, q⟩ := h
  refine ⟨_, rfl, a, _, rfl, .inl (SqL.of ha), fun l hl => ⟨(by show 0 ≤ sizeLine; decide), fun f hf => ⟨_, _, rfl, ?_⟩⟩⟩
  have ld := hD.ne hl
  have fd' := (hD.same (Same.new hl)).ne hf
  have lf : l ≠ f := fun e => by rw [← e, upd_same] at hf; cases hf
  have hfn : H f = none := (Same.new hl).free hf
  have h0 : MixW d c a l f ns H ns.length [some (.ref d), some (.ref a), some (.ref l), some (.ref f)] (upd (upd H l (.lst (ns.map V.int))) f (.lst [])) :=
    ⟨rfl, ns, [], rfl, List.Perm.refl _, by rw [upd_ne lf, upd_same], upd_same, (hD.same (Same.new hl)).same (Same.new hf), (Kp.refl.new hl).new hf⟩
  generalize upd (upd H l (.lst (ns.map V.int))) f (.lst []) = H1 at h0
  dsimp only
  refine sq_cut (MixW d c a l f ns H 0) (fun Z hZ => ⟨MixW d c a l f ns H, ⟨_, h0⟩, ?_⟩) ?_
  · rintro k σ H2 ⟨rfl, ls, fs, rfl, pe, h1, h2, hD2, k2⟩
    have le : ls.length ≤ 16 := by
      have := pe.length_eq
      rw [List.length_append] at this
      omega
    refine ⟨_, rfl, (by show 0 ≤ sizeLine; decide), fun p hp => ?_⟩
    have sp : Same H2 (upd H2 p (.lst [])) := Same.new hp
    have h1 := sp _ _ h1
    have h2 := sp _ _ h2
    have hD2 := hD2.same sp
    have k2 := k2.trans (Kp.of sp)
    have hpp : upd H2 p (.lst []) p = some (.lst (([] : List Int).map V.int)) := upd_same
    generalize upd H2 p (.lst []) = H3 at h1 h2 hD2 k2 hpp
    refine neL (ms := []) (SqL.of h1) (SqL.of hpp) ⟨_, rfl, ?_⟩
    by_cases e : ls = []
    · subst e
      exact iteN (by simp) (hZ _ _ ⟨rfl, [], fs, rfl, pe, h1, h2, hD2, k2⟩)
    · have l0 : 0 < ls.length := List.length_pos_iff.mpr e
      have lv : (ls.map V.int).length = ls.length := List.length_map ..
      refine iteP (by simp [e]) ⟨fun σ H' => ∃ m', m' < ls.length ∧ MixW d c a l f ns H m' σ H', fun _ _ z => z, ?_⟩
      refine ⟨_, rfl, .inl ⟨rfl, _, SqL.of h2⟩, _, rfl, .inl ⟨rfl, _, SqL.of h1⟩, _, rfl, _, rfl, l, _, rfl, .inl (SqL.of h1), d, c, _, rfl, hD2, by omega, sm_of (by omega) (Int.lt_of_le_of_lt (show (((ls.map V.int).length : Nat) : Int) ≤ 1000 by omega) (by decide)), fun r H4 r0 r1 hD4 k4 => ?_⟩
      have hr1 : r.toNat < ls.length := by omega
      have g1 := k4 _ _ ld.1 ld.2 h1
      have g2 := k4 _ _ fd'.1 fd'.2 h2
      refine ⟨l, _, r, r.toNat, _, rfl, rfl, g1, by omega, by omega, six_ok r0 r1, map_get hr1, f, fs.map V.int, _, rfl, rfl, by rw [upd_ne (Ne.symm lf)]; exact g2, len_lt (by rw [List.length_map]; have z := pe.length_eq; rw [List.length_append] at z; omega), ?_⟩
      rw [map_erase]
      refine ⟨(ls.eraseIdx r.toNat).length, ?_, rfl, ls.eraseIdx r.toNat, fs ++ [ls[r.toNat]], rfl, ?_, ?_, ?_, ?_, ?_⟩
      · rw [List.length_eraseIdx_of_lt hr1]
        omega
      · have z : (ls[r.toNat] :: ls.eraseIdx r.toNat).Perm ls := perm_erase ls _ hr1
        rw [List.append_assoc]
        exact (List.Perm.append_left fs z).trans pe
      · rw [upd_ne lf, upd_same]
      · rw [upd_same, List.map_append]
        rfl
      · exact (hD4.upd ld.1 ld.2).upd fd'.1 fd'.2
      · exact ((k2.trans k4).updn hl).updn hfn
  · rintro σ H2 ⟨rfl, ls, fs, e0, pe, h1, h2, hD2, k2⟩
    have e : ls = [] := List.eq_nil_of_length_eq_zero e0.symm
    subst e
    rw [List.append_nil] at pe
    exact ⟨_, rfl, q f fs H2 pe hfn h2 hD2 k2⟩

def lot5 : List Int := [4, 3, 5, 7, 11]
end
end KV

/-! the law: what is told -/
namespace KV
open PySem PySem.Spec PyProof.Rows L2 KM
section
variable {P : Program} {w : World} {K : PySem.W.Frag} {mg : Str → Option Value} {base : Heap} {C fI C2 fI2 : Addr}
def AskQ (K : PySem.W.Frag) (H : Hp) (v x : V) (r : Str) (y : V) : Prop := ∃ ms xs : Option (List V), ValA K H v ms ∧ ValA K H x xs ∧
  ((isIs ms = false ∧ r = "question" ∧ y = .int 0) ∨ (isIs ms = true ∧ isIs xs = false ∧ r = "question" ∧ y = .int 1) ∨ ∃ A B : List Int, ms = some (A.map V.int) ∧ xs = some (B.map V.int) ∧
    (((∀ n ∈ A, pln n) ∧ r = "refused" ∧ y = .int 0) ∨ ∃ (L : List Int) (k : Nat), LotOf A L ∧ (∀ p ∈ L, 0 < p ∧ p < 3 + (k : Int)) ∧ (((cl L k).filter (freeB B) = [] ∧ r = "refused" ∧ y = .int 1) ∨ ((cl L k).filter (freeB B) ≠ [] ∧ r = "told" ∧ y = qV (bst ((cl L k).filter (freeB B)) (prd L).toNat).1))))
theorem AskQ.same {H H' : Hp} {v x : V} {r : Str} {y : V} (s : Same H H') (h : AskQ K H v x r y) : AskQ K H' v x r y := by
  obtain ⟨ms, xs, h1, h2, h3⟩ := h
  exact ⟨ms, xs, h1.same s, h2.same s, h3⟩
def spAs (K : PySem.W.Frag) : Sp := fun vs H Q _ => ∃ (v x : V) (r : Str) (y : V), vs = [v, x] ∧ AskQ K H v x r y ∧ ∀ (p : Addr) (H' : Hp), Same H H' → H' p = some (.tup [.str r, y]) → Q (.ref p) H'
theorem sc38 : FnScope ["_law_yes", "_law_no", "e", "how"] ["_law_yes", "_law_no"] (defScope (top 38)) := ⟨rfl, rfl, rfl, by decide +kernel, rfl, by decide +kernel, by decide +kernel⟩
theorem ok_As {f : Addr} {fd : FuncData} (B : Bl mg) (T : PySem.LowX.LowTxt K mg "InvalidQuestion" "InvalidQuestion.__init__" C fI) (T2 : PySem.LowX.LowTxt K mg "Refused" "Refused.__init__" C2 fI2) (tx : PySem.W.exmOne K (.ref C2) (.ref C) = some false)
    (CNQ : CalK P w K mg base (L2.CX P w) 7 "next_question" ["yes", "no"] ["yes", "no"] false (spNQ K C C2)) (F : Fun K "_law_asked" "_law_asked" (top 38) f fd) : FnOk P w K mg base CX0 8 f fd ["_law_yes", "_law_no"] (spAs K) := by
  refine F.ok sc38 (fun vs H Q E h => ?_) (fun cdv A outer s H vs Q E hr h => ⟨_,
    (pss_one (ps_try_all (Wz := fun _ _ _ _ => False) rfl rfl sc38.nd takes0 (fun W pn xe tk _ => pss_one (ps_ret (pe_tup (pa_cons pe_str (pa_cons (pe_calSK CNQ hr (by decide) (fun σ => passAt tk σ) (pk_cons (pv 0) (pk_cons (pv 1) pk_nil))) pa_nil)))))
      (.cons (j := 2) (ts := fun a cls d => tRet (tTup (tCons (tC (.str "question")) (tCons (tByLow C a cls d (tVar 2)) tNil)))) rfl rfl ⟨rfl, by decide, Or.inl T.gC⟩ (fun a oe cls d pn hz hf => by exact (pss_one (ps_ret (pe_tup (pa_cons pe_str (pa_cons (pe_byLow T hz hf (pv 2)) pa_nil)))))) (.cons (j := 3) (ts := fun a cls d => tRet (tTup (tCons (tC (.str "refused")) (tCons (tByLow C2 a cls d (tVar 3)) tNil)))) rfl rfl ⟨rfl, by decide, Or.inl T2.gC⟩ (fun a oe cls d pn hz hf => by exact (pss_one (ps_ret (pe_tup (pa_cons pe_str (pa_cons (pe_byLow T2 hz hf (pv 3)) pa_nil)))))) .nil)))), ?_⟩)
  · obtain ⟨v, x, r, y, rfl, _⟩ := h
    rfl
  obtain ⟨v, x, r, y, rfl, ⟨ms, xs, hv, hx, h3⟩, q⟩ := h
  rcases h3 with ⟨h0, rfl, rfl⟩ | ⟨h0, h1, rfl, rfl⟩ | ⟨A0, B0, rfl, rfl, h3⟩
  · refine ⟨_, rfl, _, rfl, v, x, rfl, ms, xs, hv, hx, .inl ⟨h0, fun H3 d s3 hd => ⟨true, T.te, fun _ a0 ha0 => ⟨_, rfl, rfl, rfl, d, _, rfl, upd_same, (by show 2 ≤ sizeLine; decide), fun p hp => q p _ ((s3.trans (Same.new hd)).trans (Same.new hp)) upd_same⟩, fun z => Bool.noConfusion z⟩⟩⟩
  · refine ⟨_, rfl, _, rfl, v, x, rfl, ms, xs, hv, hx, .inr (.inl ⟨h0, h1, fun H3 d s3 hd => ⟨true, T.te, fun _ a0 ha0 => ⟨_, rfl, rfl, rfl, d, _, rfl, upd_same, (by show 2 ≤ sizeLine; decide), fun p hp => q p _ ((s3.trans (Same.new hd)).trans (Same.new hp)) upd_same⟩, fun z => Bool.noConfusion z⟩⟩)⟩
  · refine ⟨_, rfl, _, rfl, v, x, rfl, Tel.mk hv hx fun o ho => ?_⟩
    rcases h3 with ⟨hp, rfl, rfl⟩ | ⟨L, k, hL, hk, h3⟩
    · cases o with
      | some L =>
        obtain ⟨⟨⟨n, hn, z⟩, _⟩, _⟩ := ho
        exact absurd (hp n hn) z
      | none =>
        exact fun H3 d s3 hd => ⟨false, tx, fun z => Bool.noConfusion z, fun _ => ⟨true, T2.te, fun _ a0 ha0 => ⟨_, rfl, rfl, rfl, d, _, rfl, upd_same, (by show 2 ≤ sizeLine; decide), fun p hp => q p _ ((s3.trans (Same.new hd)).trans (Same.new hp)) upd_same⟩, fun z => Bool.noConfusion z⟩⟩
    · rw [hL.un o ho]
      refine ⟨hL.sml, fun k2 hk2 => ?_⟩
      rw [cl_same hk2 hk]
      rcases h3 with ⟨e, rfl, rfl⟩ | ⟨e, rfl, rfl⟩
      · exact ⟨fun _ H3 d s3 hd => ⟨false, tx, fun z => Bool.noConfusion z, fun _ => ⟨true, T2.te, fun _ a0 ha0 => ⟨_, rfl, rfl, rfl, d, _, rfl, upd_same, (by show 2 ≤ sizeLine; decide), fun p hp => q p _ ((s3.trans (Same.new hd)).trans (Same.new hp)) upd_same⟩, fun z => Bool.noConfusion z⟩⟩, fun z => absurd e z⟩
      · exact ⟨fun z => absurd z e, fun _ H2 s2 => ⟨(by show 2 ≤ sizeLine; decide), fun p hp => q p _ (s2.trans (Same.new hp)) upd_same⟩⟩
end
end KV

/-! one more count that fits, or one more that does not -/
namespace KV
open PySem PySem.Spec PyProof.Rows L2 KM
theorem cl_next {A L : List Int} {k : Nat} {n : Int} (h : LotOf A L) (hk : ∀ p ∈ L, 0 < p ∧ p < 3 + (k : Int)) (np : ¬ pln n) : ∃ R, LotOf (A ++ [n]) R ∧ ∀ k2 : Nat, (∀ p ∈ R, 0 < p ∧ p < 3 + (k2 : Int)) → ∀ M, M ∈ cl R k2 ↔ M ∈ cl L k ∧ fit M n = true := by
  have hR := LotJ.next (R := (comF L (ones n)).mergeSort fun a b => decide (a ≤ b)) h.ex np (List.Perm.refl _) (List.mergeSort_perm _ _) (sortI_le _)
  generalize (comF L (ones n)).mergeSort (fun a b => decide (a ≤ b)) = R at hR
  have lR := lotJ_lot hR
  have sub : ∀ (k2 : Nat) M, M ∈ cl R k2 → M ∈ cl L k ∧ fit M n = true := fun k2 M hM => by
    obtain ⟨a, _, c⟩ := cl_lot hM
    exact ⟨cl_all a (fun q hq => (lotJ_ops h.ex (a.ge q hq)).mp (op_app.mp (cl_op hR hM q hq).2).1) hk, cl_fitA hR hM n (by simp)⟩
  have few : ∀ k2 : Nat, (cl R k2).length ≤ 1024 := fun k2 =>
    Nat.le_trans (List.Nodup.length_le_of_subset (cl_nodup R k2) fun M hM => (sub k2 M hM).1) (h.sml.few k)
  have hR0 : R ∈ cl R (prd R).toNat := cl_self lR fun p hp => by
    have := lR.ge p hp
    have := le_prd lR.ge hp
    omega
  have sm : prd R ≤ 2000 := h.sml.prd_le (sub _ R hR0).1
  refine ⟨R, ⟨hR, fun o ho => tells_some ⟨⟨n, by simp, np⟩, fun k hk => lotJ_ops hR hk⟩ lR ho, ⟨lR, sm, few⟩⟩, fun k2 hk2 M => ⟨sub k2 M, fun ⟨hM, hf⟩ => ?_⟩⟩
  obtain ⟨a, _, _⟩ := cl_lot hM
  refine cl_all a (fun q hq => (lotJ_ops hR (a.ge q hq)).mp (op_app.mpr ⟨(cl_op h.ex hM q hq).2, fun x hx => ?_⟩)) hk2
  rw [List.mem_singleton] at hx
  subst hx
  have := fit_iff.mp hf q hq
  omega
theorem bst_len (Ls : List (List Int)) : ∀ k, (bst Ls k).2 ≤ Ls.length
  | 0 => Nat.le_refl _
  | k + 1 => Nat.le_trans (bst_next Ls k).1 (bst_len Ls k)
theorem bst_lt (Ls : List (List Int)) : ∀ (k : Nat) (n : Int), (bst Ls k).1 = some n → leftQ Ls n < Ls.length ∧ 0 ≤ n ∧ n < (k : Int)
  | 0, n, h => by cases h
  | k + 1, n, h => by
    change (if leftQ Ls (k : Int) < (bst Ls k).2 then (some (k : Int), leftQ Ls (k : Int)) else bst Ls k).1 = some n at h
    by_cases z : leftQ Ls (k : Int) < (bst Ls k).2
    · rw [if_pos z] at h
      cases h
      have := bst_len Ls k
      exact ⟨by omega, by omega, by omega⟩
    · rw [if_neg z] at h
      obtain ⟨a, b, c⟩ := bst_lt Ls k n h
      exact ⟨a, b, by omega⟩
theorem left_pln {Ls : List (List Int)} (hL : ∀ M ∈ Ls, ∀ q ∈ M, 3 ≤ q) {n : Int} (h : pln n) : leftQ Ls n = Ls.length := by
  have e : Ls.filter (fun M => fit M n) = Ls := List.filter_eq_self.mpr fun M hM => fit_iff.mpr fun q hq => by
    have := hL M hM q hq
    rcases h with rfl | rfl
    · rw [Int.zero_emod]
      decide
    · rw [Int.emod_eq_of_lt (by decide) (by omega)]
      decide
  unfold leftQ manyQ
  rw [e]
  omega
theorem freeB_app {B M : List Int} {n : Int} : freeB (B ++ [n]) M = (freeB B M && !fit M n) := by
  unfold freeB
  rw [List.all_append]
  simp
theorem due_split {L R B : List Int} {k k1 : Nat} {n : Int} {Ms M1 M2 : List (List Int)} (pe : Ms.Perm ((cl L k).filter (freeB B))) (mem : ∀ M, M ∈ cl R k1 ↔ M ∈ cl L k ∧ fit M n = true)
    (p1 : M1.Perm ((cl R k1).filter (freeB B))) (p2 : M2.Perm ((cl L k).filter (freeB (B ++ [n])))) : (M1 ++ M2).Perm Ms ∧ M1.length = manyQ Ms n ∧ M2.length = Ms.length - manyQ Ms n := by
  have a1 : (cl R k1).Perm ((cl L k).filter fun M => fit M n) := (List.perm_ext_iff_of_nodup (cl_nodup R k1) ((cl_nodup L k).sublist List.filter_sublist)).mpr fun M => by
    rw [mem M, List.mem_filter]
  have b1 : M1.Perm (Ms.filter fun M => fit M n) := by
    refine p1.trans ((a1.filter _).trans ?_)
    rw [List.filter_filter]
    refine List.Perm.trans ?_ (pe.filter _).symm
    rw [List.filter_filter]
    refine List.Perm.of_eq (List.filter_congr fun M _ => ?_)
    rw [Bool.and_comm]
  have b2 : M2.Perm (Ms.filter fun M => !fit M n) := by
    refine p2.trans (List.Perm.trans ?_ (pe.filter _).symm)
    rw [List.filter_filter]
    refine List.Perm.of_eq (List.filter_congr fun M _ => ?_)
    rw [freeB_app, Bool.and_comm]
  have c := List.filter_append_perm (fun M => fit M n) Ms
  refine ⟨(b1.append b2).trans c, b1.length_eq, ?_⟩
  have l := c.length_eq
  rw [List.length_append] at l
  rw [b2.length_eq]
  unfold manyQ
  omega
theorem bst_none_iff {Ls : List (List Int)} (nd : Ls.Nodup) (ne : Ls ≠ []) (hL : ∀ L ∈ Ls, Lot L) {P : Nat} (hP : 0 < P) (h : ∀ M ∈ Ls, ∀ q ∈ M, q ∣ (P : Int)) : (bst Ls P).1 = none ↔ Ls.length = 1 := by
  constructor
  · intro e
    match Ls, nd, ne, hL, h, e with
    | [a], _, _, _, _, _ => rfl
    | a :: b :: r, nd, _, hL, h, e => exact absurd e (bst_some (M := a) (N := b) (by simp) (by simp) (fun z => (List.nodup_cons.mp nd).1 (by rw [z]; simp)) hL hP h)
  · exact fun e => bst_one e P
theorem lexS_head {Ms : List (List Int)} (h : LexS Ms) : (∀ M ∈ Ms, M ≠ []) ∨ ∃ r, Ms = [] :: r := by
  cases Ms with
  | nil => exact .inl fun M hM => by simp at hM
  | cons a r =>
    by_cases e : a = []
    · exact .inr ⟨r, by rw [e]⟩
    · refine .inl fun M hM z => ?_
      rcases List.mem_cons.mp hM with y | y
      · exact e (y ▸ z)
      · have := (List.pairwise_cons.mp h).1 M y
        rw [z] at this
        cases a with
        | nil => exact e rfl
        | cons x xs =>
          rw [HT.lexLt_nil_cons] at this
          cases this
theorem sortTT {K : PySem.W.Frag} {H : Hp} {a : Addr} {ts : List Addr} {Ls : List (List Int)} {Q : VK} (ha : SqT K H a (ts.map V.ref)) (hT : TL H ts Ls) (hf : (∀ M ∈ Ls, M ≠ []) ∨ ∃ r, Ls = [] :: r)
    (q : ∀ (us : List Addr) (Ms : List (List Int)) (p : Addr) (H' : Hp), Same H H' → H p = none → H' p = some (.lst (us.map V.ref)) → TL H' us Ms → LexS Ms → Ms.Perm Ls → Q (.ref p) H') : rSortedTT K [.ref a] H Q := by
  obtain ⟨e1, e2⟩ := hT.key
  refine ⟨a, ts, kT H, rfl, ha, e2, ?_, fun us p pe pw hp => ?_⟩
  · rcases hf with hf | ⟨r, er⟩
    · refine .inl fun t ht => hf _ ?_
      rw [e1]
      exact List.mem_map.mpr ⟨t, ht, rfl⟩
    · refine .inr fun t ht => ?_
      cases ts with
      | nil => simp at ht
      | cons u us =>
        rw [er, List.map_cons] at e1
        rw [show t = u from (Option.some.inj ht).symm]
        exact (List.cons.inj e1).1.symm
  · refine q us (us.map (kT H)) p _ (Same.new hp) hp upd_same (TL.of_key fun t ht => ?_) (List.pairwise_map.mpr pw) (by rw [e1]; exact pe.map _)
    have := e2 t (pe.mem_iff.mp ht)
    rw [upd_ne (fun z => by rw [z, hp] at this; cases this)]
    exact this
end KV

/-! the law: counts with a small lot -/
namespace KV
open PySem PySem.Spec PyProof.Rows L2 KM
def menuL : List (List Int) := [[], [3], [4], [6], [3, 4], [12], [3, 10], [5, 6], [30], [4, 5]]
theorem menu_fit : ∀ M ∈ menuL, FitL M := by
  intro M hM
  simp only [menuL, List.mem_cons, List.not_mem_nil, or_false] at hM
  rcases hM with rfl | rfl | rfl | rfl | rfl | rfl | rfl | rfl | rfl | rfl <;> exact ⟨by decide, by decide, by decide, by decide⟩
section
variable {P : Program} {w : World} {K : PySem.W.Frag} {mg : Str → Option Value} {base : Heap}
theorem Kp.tl {d c : Addr} {H H' : Hp} {t : Addr} {xs : List V} (D : Dl H d c) (k : Kp d c H H') (h : H t = some (.tup xs)) : H' t = some (.tup xs) := k _ _ (D.neT h).1 (D.neT h).2 h
theorem Dl.ne' {H H' : Hp} {d c p : Addr} {o : HO} (_ : Dl H' d c) (_ : H' p = some o) (_ : Same H H') (hp : H p = none) (D : Dl H d c) : p ≠ d ∧ p ≠ c := D.ne hp
def spSm : Sp := fun vs H Q _ => ∃ d c : Addr, vs = [.ref d] ∧ Dl H d c ∧ ∀ (r l t : Addr) (A L : List Int) (H' : Hp), Dl H' d c → Kp d c H H' → l ≠ d → l ≠ c → H' r = some (.tup [.ref l, .ref t]) → H' l = some (.lst (A.map V.int)) → H' t = some (.tup (L.map V.int)) → A.length ≤ 5 → (∀ n ∈ A, sm 105 n) → LotOf A L → Q (.ref r) H'
theorem zero_prd : ∀ {s : List Int}, (0 : Int) ∈ s → prd s = 0
  | x :: r, h => by
    rcases List.mem_cons.mp h with e | e
    · rw [← e]
      show (0 : Int) * prd r = 0
      rw [Int.zero_mul]
    · show x * prd r = 0
      rw [zero_prd e, Int.mul_zero]

theorem sc37 : FnScope ["_law_deal", "_law_found", "_law_whole", "_law_turn", "_law_number", "_law_lot", "_law_again", "_law_parts_here", "_law_q"] ["_law_deal"] (defScope (top 37)) := ⟨rfl, rfl, rfl, by decide +kernel, rfl, by decide +kernel, by decide +kernel⟩
theorem ok_small {f : Addr} {fd : FuncData} (B : Bl mg) (CA : Cal P w K mg base CX0 1 "_law_any" ["_law_deal", "_law_bound"] spAny) (CO : Cal P w K mg base CX0 2 "_law_of" ["_law_deal", "_law_some"] (spOf K)) (CF : Cal P w K mg base CX0 2 "_law_fitting" ["_law_deal", "_law_lot"] (spFit K)) (CPa : Cal P w K mg base CX0 2 "_law_parts" ["_law_counts"] (spPa K)) (CM : Cal P w K mg base CX0 2 "_law_mixed" ["_law_deal", "_law_some"] spMix) (F : Fun K "_law_small" "_law_small" (top 37) f fd) : FnOk P w K mg base CX0 3 f fd ["_law_deal"] spSm := by
  refine F.ok sc37 (fun vs H Q E h => ?_) (fun cdv A outer s H vs Q E hr h => ⟨_,
    (pss_cons (ps_par (i := 1) (j := 2) rfl sc37.nd rfl rfl (by decide) rfl rfl (pa_cons (pe_lst pa_nil) (pa_cons pe_int pa_nil)) (by rfl))
    (pss_cons (ps_for PassesOwn.never rfl (pi_range1 (by rfl) B.range (pa_cons pe_int pa_nil)) (pg_name (i := 3) sc37.nd rfl (.inl rfl)) (pss_cons (ps_set (i := 4) sc37.nd rfl (.inl rfl) (by exact (pe_cal (X := L2.Cx.nox _) CO hr (by decide) (pa_cons (pv 0) (pa_cons (pe_lst (pa_cons pe_int (pa_cons pe_int (pa_cons pe_int (pa_cons pe_int (pa_cons pe_int (pa_cons pe_int (pa_cons pe_int (pa_cons pe_int (pa_cons pe_int (pa_cons pe_int (pa_cons pe_int (pa_cons pe_int (pa_cons pe_int (pa_cons pe_int (pa_cons pe_int pa_nil)))))))))))))))) pa_nil)))))
    (pss_cons (ps_set (i := 5) sc37.nd rfl (.inl rfl) (by exact (pe_cal (X := L2.Cx.nox _) CO hr (by decide) (pa_cons (pv 0) (pa_cons (pe_lst (pa_cons (pe_tup pa_nil) (pa_cons (pe_tup (pa_cons pe_int pa_nil)) (pa_cons (pe_tup (pa_cons pe_int pa_nil)) (pa_cons (pe_tup (pa_cons pe_int pa_nil)) (pa_cons (pe_tup (pa_cons pe_int (pa_cons pe_int pa_nil))) (pa_cons (pe_tup (pa_cons pe_int pa_nil)) (pa_cons (pe_tup (pa_cons pe_int (pa_cons pe_int pa_nil))) (pa_cons (pe_tup (pa_cons pe_int (pa_cons pe_int pa_nil))) (pa_cons (pe_tup (pa_cons pe_int pa_nil)) (pa_cons (pe_tup (pa_cons pe_int (pa_cons pe_int pa_nil))) pa_nil))))))))))) pa_nil)))))
    (pss_cons (ps_set (i := 1) sc37.nd rfl (.inl rfl) (pe_ifExp (pt_cmpR op_eq (by exact (pe_cal (X := L2.Cx.nox _) CA hr (by decide) (pa_cons (pv 0) (pa_cons pe_int pa_nil)))) pe_int (nomark _)) (pe_lst (pa_cons (pv 4) (pa_cons (pe_op op_add (pv 4) pe_int) pa_nil))) (pe_lst pa_nil)))
    (pss_cons (ps_for PassesOwn.never rfl (pi_range1 (by rfl) B.range (pa_cons (by exact (pe_cal (X := L2.Cx.nox _) CA hr (by decide) (pa_cons (pv 0) (pa_cons pe_int pa_nil)))) pa_nil)) (pg_name (i := 6) sc37.nd rfl (.inl rfl)) (pss_one (ps_expr (pe_bm PySem.F.plainAttrs_list PySem.F.slot_list_append PySem.F.type_list_append mt_append (pv 1) (pa_cons (by exact (pe_cal (X := L2.Cx.nox _) CF hr (by decide) (pa_cons (pv 0) (pa_cons (pv 5) pa_nil)))) pa_nil)))))
    (pss_cons (ps_par (i := 7) (j := 2) rfl sc37.nd rfl rfl (by decide) rfl rfl (pa_cons (by exact (pe_cal (X := L2.Cx.nox _) CPa hr (by decide) (pa_cons (pv 1) pa_nil))) (pa_cons pe_int pa_nil)) (by rfl))
    (pss_cons (ps_for PassesOwn.never rfl (pi_list (pv 7)) (pg_name (i := 8) sc37.nd rfl (.inl rfl)) (pss_one (ps_set (i := 2) sc37.nd rfl (.inl rfl) (pe_op op_mulW (pv 2) (pv 8)))))
    (pss_one (ps_if (pt_chain op_lt op_lt pe_int (pv 2) pe_int) (pss_one (ps_ret (pe_tup (pa_cons (by exact (pe_cal (X := L2.Cx.nox _) CM hr (by decide) (pa_cons (pv 0) (pa_cons (pv 1) pa_nil)))) (pa_cons (pe_callTy call_tuple_of (by rfl) B.tuple (by decide +kernel) (pa_cons (pv 7) pa_nil)) pa_nil))))) pss_nil)))))))))
    (pss_one (ps_ret (pe_tup (pa_cons (pe_lst (pa_cons pe_int (pa_cons pe_int pa_nil))) (pa_cons (pe_tup (pa_cons pe_int pa_nil)) pa_nil))))))), ?_⟩)
  · obtain ⟨d, c, rfl, _⟩ := h
    rfl
  obtain ⟨d, c, rfl, hD, q⟩ := h
  refine ⟨(by show 0 ≤ sizeLine; decide), fun l0 hl0 => ?_⟩
  have D1 := hD.same (Same.new hl0 (o := .lst []))
  have k1 : Kp d c H (upd H l0 (.lst [])) := Kp.of (Same.new hl0)
  dsimp only [gName]
  generalize upd H l0 (.lst []) = H1 at D1 k1
  refine ⟨_, _, rfl, 6, rfl, by decide, by decide, for_range (n := 6) (fun i σ H' => ∃ v1 v2 v3 v4 v5 v6 v7 v8 : Option V, σ = [some (.ref d), v1, v2, v3, v4, v5, v6, v7, v8] ∧ Dl H' d c ∧ Kp d c H H') ⟨_, _, _, _, _, _, _, _, rfl, D1, k1⟩ ?_ ?_⟩
  · rintro i σ G hi ⟨v1, v2, v3, v4, v5, v6, v7, v8, rfl, DG, kG⟩
    dsimp only [gName]
    refine ⟨_, rfl, (by show 15 ≤ sizeLine; decide), fun a ha => ⟨d, c, a, _, rfl, DG.same (Same.new ha), (DG.ne ha).1, (DG.ne ha).2, SqL.of upd_same, by decide, by decide, fun j x Ga hx Da ka => ?_⟩⟩
    obtain ⟨num, hnum, rfl⟩ := map_at (ns := [1, 2, 3, 4, 6, 9, 10, 12, 15, 20, 21, 30, 36, 42, 60]) hx
    have hn2 : 1 ≤ num ∧ num ≤ 60 := by
      have := List.mem_of_getElem? hnum
      simp at this
      omega
    have kGa := (kG.new ha).trans ka
    generalize Ga = G at Da kGa
    dsimp only [gName]
    refine ⟨_, rfl, ?_⟩
    refine ⟨(by show 0 ≤ sizeLine; decide), fun p0 hp0 => ?_⟩
    have e0 : TL (upd G p0 (.tup ([].map V.int))) [p0] [[]] := TL.one upd_same
    have f0 : Same G (upd G p0 (.tup ([].map V.int))) := Same.new hp0
    dsimp only [List.map] at e0 f0
    generalize upd G p0 (.tup []) = G1 at e0 f0
    refine ⟨(by show 1 ≤ sizeLine; decide), fun p1 hp1 => ?_⟩
    have e1 : TL (upd G1 p1 (.tup ([3].map V.int))) [p0, p1] [[], [3]] := (e0.same (Same.new hp1)).app (TL.one (t := p1) (M := [3]) upd_same)
    have f1 : Same G (upd G1 p1 (.tup ([3].map V.int))) := f0.trans (Same.new hp1)
    dsimp only [List.map] at e1 f1
    generalize upd G1 p1 (.tup [.int 3]) = G2 at e1 f1
    refine ⟨(by show 1 ≤ sizeLine; decide), fun p2 hp2 => ?_⟩
    have e2 : TL (upd G2 p2 (.tup ([4].map V.int))) [p0, p1, p2] [[], [3], [4]] := (e1.same (Same.new hp2)).app (TL.one (t := p2) (M := [4]) upd_same)
    have f2 : Same G (upd G2 p2 (.tup ([4].map V.int))) := f1.trans (Same.new hp2)
    dsimp only [List.map] at e2 f2
    generalize upd G2 p2 (.tup [.int 4]) = G3 at e2 f2
    refine ⟨(by show 1 ≤ sizeLine; decide), fun p3 hp3 => ?_⟩
    have e3 : TL (upd G3 p3 (.tup ([6].map V.int))) [p0, p1, p2, p3] [[], [3], [4], [6]] := (e2.same (Same.new hp3)).app (TL.one (t := p3) (M := [6]) upd_same)
    have f3 : Same G (upd G3 p3 (.tup ([6].map V.int))) := f2.trans (Same.new hp3)
    dsimp only [List.map] at e3 f3
    generalize upd G3 p3 (.tup [.int 6]) = G4 at e3 f3
    refine ⟨(by show 2 ≤ sizeLine; decide), fun p4 hp4 => ?_⟩
    have e4 : TL (upd G4 p4 (.tup ([3, 4].map V.int))) [p0, p1, p2, p3, p4] [[], [3], [4], [6], [3, 4]] := (e3.same (Same.new hp4)).app (TL.one (t := p4) (M := [3, 4]) upd_same)
    have f4 : Same G (upd G4 p4 (.tup ([3, 4].map V.int))) := f3.trans (Same.new hp4)
    dsimp only [List.map] at e4 f4
    generalize upd G4 p4 (.tup [.int 3, .int 4]) = G5 at e4 f4
    refine ⟨(by show 1 ≤ sizeLine; decide), fun p5 hp5 => ?_⟩
    have e5 : TL (upd G5 p5 (.tup ([12].map V.int))) [p0, p1, p2, p3, p4, p5] [[], [3], [4], [6], [3, 4], [12]] := (e4.same (Same.new hp5)).app (TL.one (t := p5) (M := [12]) upd_same)
    have f5 : Same G (upd G5 p5 (.tup ([12].map V.int))) := f4.trans (Same.new hp5)
    dsimp only [List.map] at e5 f5
    generalize upd G5 p5 (.tup [.int 12]) = G6 at e5 f5
    refine ⟨(by show 2 ≤ sizeLine; decide), fun p6 hp6 => ?_⟩
    have e6 : TL (upd G6 p6 (.tup ([3, 10].map V.int))) [p0, p1, p2, p3, p4, p5, p6] [[], [3], [4], [6], [3, 4], [12], [3, 10]] := (e5.same (Same.new hp6)).app (TL.one (t := p6) (M := [3, 10]) upd_same)
    have f6 : Same G (upd G6 p6 (.tup ([3, 10].map V.int))) := f5.trans (Same.new hp6)
    dsimp only [List.map] at e6 f6
    generalize upd G6 p6 (.tup [.int 3, .int 10]) = G7 at e6 f6
    refine ⟨(by show 2 ≤ sizeLine; decide), fun p7 hp7 => ?_⟩
    have e7 : TL (upd G7 p7 (.tup ([5, 6].map V.int))) [p0, p1, p2, p3, p4, p5, p6, p7] [[], [3], [4], [6], [3, 4], [12], [3, 10], [5, 6]] := (e6.same (Same.new hp7)).app (TL.one (t := p7) (M := [5, 6]) upd_same)
    have f7 : Same G (upd G7 p7 (.tup ([5, 6].map V.int))) := f6.trans (Same.new hp7)
    dsimp only [List.map] at e7 f7
    generalize upd G7 p7 (.tup [.int 5, .int 6]) = G8 at e7 f7
    refine ⟨(by show 1 ≤ sizeLine; decide), fun p8 hp8 => ?_⟩
    have e8 : TL (upd G8 p8 (.tup ([30].map V.int))) [p0, p1, p2, p3, p4, p5, p6, p7, p8] [[], [3], [4], [6], [3, 4], [12], [3, 10], [5, 6], [30]] := (e7.same (Same.new hp8)).app (TL.one (t := p8) (M := [30]) upd_same)
    have f8 : Same G (upd G8 p8 (.tup ([30].map V.int))) := f7.trans (Same.new hp8)
    dsimp only [List.map] at e8 f8
    generalize upd G8 p8 (.tup [.int 30]) = G9 at e8 f8
    refine ⟨(by show 2 ≤ sizeLine; decide), fun p9 hp9 => ?_⟩
    have e9 : TL (upd G9 p9 (.tup ([4, 5].map V.int))) [p0, p1, p2, p3, p4, p5, p6, p7, p8, p9] [[], [3], [4], [6], [3, 4], [12], [3, 10], [5, 6], [30], [4, 5]] := (e8.same (Same.new hp9)).app (TL.one (t := p9) (M := [4, 5]) upd_same)
    have f9 : Same G (upd G9 p9 (.tup ([4, 5].map V.int))) := f8.trans (Same.new hp9)
    dsimp only [List.map] at e9 f9
    generalize upd G9 p9 (.tup [.int 4, .int 5]) = G10 at e9 f9
    refine ⟨(by show 10 ≤ sizeLine; decide), fun b hb => ⟨d, c, b, _, rfl, (Da.same f9).same (Same.new hb), ((Da.same f9).ne hb).1, ((Da.same f9).ne hb).2, SqL.of upd_same, by simp, by simp, fun j x Gb hx Db kb => ?_⟩⟩
    obtain ⟨t, ht, rfl⟩ := tyAt_map (ts := [p0, p1, p2, p3, p4, p5, p6, p7, p8, p9]) hx
    obtain ⟨M, hM, hT⟩ := e9.at ht
    have hMf := menu_fit M (List.mem_of_getElem? hM)
    have hT1 := Kp.tl ((Da.same f9).same (Same.new hb)) kb (Same.new hb _ _ hT)
    have kGb := ((kGa.trans (Kp.of f9)).new hb).trans kb
    clear hb hx e9 f9 e8 f8 e7 f7 e6 f6 e5 f5 e4 f4 e3 f3 e2 f2 e1 f1 e0 f0 hT
    generalize Gb = G1 at Db kGb hT1
    dsimp only [gName]
    refine sq_cut (fun σ H' => ∃ (f : Addr) (A : List Int), σ = [some (.ref d), some (.ref f), v2, some (.int (0 + (i : Int))), some (.int num), some (.ref t), v6, v7, v8] ∧ H' f = some (.lst (A.map V.int)) ∧ f ≠ d ∧ f ≠ c ∧ H f = none ∧ A.length ≤ 2 ∧ (∀ n ∈ A, sm 105 n) ∧ H' t = some (.tup (M.map V.int)) ∧ Dl H' d c ∧ Kp d c H H') (fun Z hZ => ?_) ?_
    · refine ⟨_, rfl, d, c, 2, rfl, Db, by decide, by decide, fun r G2 r0 r1 D2 k2 => ⟨rfl, _, rfl, ?_⟩⟩
      have k2' := kGb.trans k2
      have hT2 := Kp.tl Db k2 hT1
      by_cases e : r = 0
      · refine iteP (by simp [e]) ⟨_, rfl, _, rfl, _, _, rfl, rfl, (by show 2 ≤ sizeLine; decide), fun f hf => hZ _ _ ⟨f, [num, num + 1], rfl, upd_same, (D2.ne hf).1, (D2.ne hf).2, k2'.free (D2.ne hf).1 (D2.ne hf).2 hf, Nat.le_refl 2, fun n hn => ?_, Same.new hf _ _ hT2, D2.same (Same.new hf), k2'.new hf⟩⟩
        simp only [List.mem_cons, List.not_mem_nil, or_false] at hn
        exact sm_of (by omega) (Int.lt_of_le_of_lt (show n ≤ 61 by omega) (by decide))
      · exact iteN (by simp [e]) ⟨(by show 0 ≤ sizeLine; decide), fun f hf => hZ _ _ ⟨f, [], rfl, upd_same, (D2.ne hf).1, (D2.ne hf).2, k2'.free (D2.ne hf).1 (D2.ne hf).2 hf, Nat.zero_le 2, fun n hn => (by simp at hn), Same.new hf _ _ hT2, D2.same (Same.new hf), k2'.new hf⟩⟩
    · rintro σ G2 ⟨f, A, rfl, hf, fd, fc, hf0, lA, sA, hT2, D2, k2⟩
      have td := D2.neT hT2
      have ft : f ≠ t := fun e => by rw [e, hT2] at hf; cases hf
      refine ⟨_, rfl, d, c, 4, rfl, D2, by decide, by decide, fun r G3 r0 r1 D3 k3 => ⟨r, rfl, (by omega), (by omega), for_range (n := r.toNat) (fun j σ H' => ∃ (A : List Int) (u : Option V), A.length ≤ 2 + j ∧ (∀ n ∈ A, sm 105 n) ∧ σ = [some (.ref d), some (.ref f), v2, some (.int (0 + (i : Int))), some (.int num), some (.ref t), u, v7, v8] ∧ H' f = some (.lst (A.map V.int)) ∧ H' t = some (.tup (M.map V.int)) ∧ Dl H' d c ∧ Kp d c H H')
        ⟨A, v6, lA, sA, rfl, k3 _ _ fd fc hf, k3 _ _ td.1 td.2 hT2, D3, k2.trans k3⟩ ?_ ?_⟩⟩
      · rintro j σ G4 hj ⟨A, u, lA, sA, rfl, hf, hT4, D4, k4⟩
        dsimp only [gName]
        refine ⟨_, rfl, .inl ⟨rfl, _, SqL.of hf⟩, _, rfl, _, rfl, d, c, t, M, rfl, D4, td.1, td.2, .inr (SqT.of hT4), hMf, fun z G5 sz D5 k5 => ?_⟩
        refine ⟨f, _, _, rfl, rfl, k5 _ _ fd fc hf, len_lt (by rw [List.length_map]; omega), A ++ [z], _, by rw [List.length_append, List.length_singleton]; omega, fun n hn => ?_, rfl, ?_, ?_⟩
        · rcases List.mem_append.mp hn with y | y
          · exact sA n y
          · rw [List.mem_singleton] at y
            subst y
            exact Nat.lt_of_lt_of_le sz (Nat.pow_le_pow_right (by decide) (by decide))
        · rw [upd_same, List.map_append]
          rfl
        · refine ⟨?_, D5.upd fd fc, (k4.trans k5).updn hf0⟩
          rw [upd_ne (Ne.symm ft)]
          exact k5 _ _ td.1 td.2 hT4
      · rintro σ G4 ⟨A, u, lA, sA, rfl, hf, hT4, D4, k4⟩
        have lA5 : A.length ≤ 5 := by omega
        refine ⟨_, rfl, f, A, rfl, .inl (SqL.of hf), by omega, fun p s G5 s5 hp hps pe so => ⟨_, _, rfl, ?_⟩⟩
        have ls : s.length ≤ 32 := by
          rw [pe.length_eq]
          have a := lfs_len A
          have b := Nat.pow_le_pow_right (show 0 < 2 by decide) lA5
          omega
        have nng := fnd_nonneg A
        have ss : ∀ n ∈ s, sm 107 n := fun n hn => by
          obtain ⟨y1, y2⟩ := List.mem_filter.mp (pe.mem_iff.mp hn)
          have y3 := nng n y1
          by_cases y4 : 2 < n
          · have := fnd_le (b := 2 ^ 105) (fun m hm => by
              have : m.natAbs < 2 ^ 105 := sA m hm
              have e : ((2 ^ 105 : Nat) : Int) = (2 : Int) ^ 105 := by decide
              omega) y1 y4
            exact sm_of (by omega) (Int.lt_of_le_of_lt this (by decide))
          · exact sm_of (by omega) (Int.lt_of_le_of_lt (show n ≤ 2 by omega) (by decide))
        have sp : ∀ j, sm (107 * 32 + 1) (prd (s.take j)) := fun j => by
          have a := prd_sm (k := 107) (ns := s.take j) fun n hn => ss n (List.mem_of_mem_take hn)
          have b := List.length_take_le' j s
          exact Nat.lt_of_lt_of_le a (Nat.pow_le_pow_right (by decide) (by omega))
        refine ⟨_, rfl, p, rfl, ⟨_, SqL.of hps⟩, for_list (xs := s.map V.int) (fun j σ H' => (∃ u8 : Option V, σ = [some (.ref d), some (.ref f), some (.int (prd (s.take j))), some (.int (0 + (i : Int))), some (.int num), some (.ref t), u, some (.ref p), u8]) ∧ H' = G5) ⟨⟨_, rfl⟩, rfl⟩ ?_ ?_ ?_⟩
        · rintro j σ H' _ ⟨_, rfl⟩
          exact SqL.of hps
        · rintro j x σ H' hx ⟨⟨u8, rfl⟩, rfl⟩
          obtain ⟨n, hn, rfl⟩ := map_at hx
          refine ⟨_, rfl, _, rfl, _, _, rfl, rfl, mulW (sp j) (ss n (List.mem_of_getElem? hn)) (by decide) (by decide) (by decide), ⟨some (.int n), ?_⟩, rfl⟩
          rw [prd_at hn]
          rfl
        · rintro σ H' ⟨⟨u8, rfl⟩, rfl⟩
          rw [List.length_map, List.take_length]
          have D5 := D4.same s5
          have hf5 := s5 _ _ hf
          have k5 := k4.trans (Kp.of s5)
          refine ⟨_, rfl, 0, prd s, rfl, rfl, _, rfl, ?_⟩
          by_cases y0 : 0 < prd s
          · refine iteP (decide_eq_true y0) ⟨_, _, rfl, rfl, _, rfl, ?_⟩
            by_cases y9 : prd s < 90
            · refine iteP (decide_eq_true y9) ⟨_, rfl, _, rfl, d, c, f, A, rfl, D5, hf5, fd, fc, by omega, fun l ms G6 pm hl0 hl D6 k6 => ?_⟩
              have ld := D5.ne hl0
              have hp6 := k6 _ _ (D5.ne' hps s5 hp D4).1 (D5.ne' hps s5 hp D4).2 hps
              refine ⟨_, rfl, p, _, rfl, .inl ⟨SqL.of hp6, fun t2 ht2 => ⟨(by show 2 ≤ sizeLine; decide), fun r hr2 => ?_⟩⟩⟩
              have sx : Same G6 (L2.upd (L2.upd G6 t2 (.tup (s.map V.int))) r (.tup [.ref l, .ref t2])) := (Same.new ht2).trans (Same.new hr2)
              refine q r l t2 ms s _ (D6.same sx) ((k5.trans k6).trans (Kp.of sx)) ld.1 ld.2 upd_same (sx _ _ hl) (Same.new hr2 _ _ upd_same) (by rw [pm.length_eq]; omega) (fun n hn => sA n (pm.mem_iff.mp hn)) (LotOf.of_parts pm pe so (fun z => ?_) fun hL => smL_of hL y9)
              rw [zero_prd z] at y0
              omega
            · exact iteN (by simpa using y9) ⟨_, _, _, _, _, _, _, _, rfl, D5, k5⟩
          · exact iteN (by simpa using y0) ⟨_, rfl, iteN (by decide) ⟨_, _, _, _, _, _, _, _, rfl, D5, k5⟩⟩
  · rintro σ G ⟨v1, v2, v3, v4, v5, v6, v7, v8, rfl, DG, kG⟩
    refine ⟨(by show 2 ≤ sizeLine; decide), fun l hl => ⟨(by show 1 ≤ sizeLine; decide), fun t ht => ⟨(by show 2 ≤ sizeLine; decide), fun r hr2 => ?_⟩⟩⟩
    have s1 : Same G (L2.upd G l (.lst [.int 13, .int 12])) := Same.new hl
    have s2 := Same.new ht (o := .tup [.int 12])
    have s3 := Same.new hr2 (o := .tup [.ref l, .ref t])
    refine q r l t [13, 12] [12] _ (DG.same ((s1.trans s2).trans s3)) (kG.trans (Kp.of ((s1.trans s2).trans s3))) (DG.ne hl).1 (DG.ne hl).2 upd_same (s3 _ _ (s2 _ _ upd_same)) (s3 _ _ upd_same) (by decide) (fun n hn => ?_) lotOf_12
    simp only [List.mem_cons, List.not_mem_nil, or_false] at hn
    exact sm_of (by omega) (Int.lt_of_le_of_lt (show n ≤ 13 by omega) (by decide))


end
end KV

/-! the law -/
namespace KV
open PySem PySem.Spec PyProof.Rows L2 KM
theorem units65 {k : Nat} {A : Around} (r : Room k A) : A.units + 65 < cLine := by have := r.un; omega
theorem O_val8 {K : PySem.W.Frag} {H : Hp} {a : Addr} {b : Bool} {ns : List Int} (h : H a = some (SqO b ns)) (hl : ns.length ≤ 8) (hb : ∀ n ∈ ns, sm 107 n) : ValA K H (.ref a) (some (ns.map V.int)) := by
  refine ⟨a, rfl, O_sqA h, ?_, fun x hx => ?_, by rw [List.length_map]; omega⟩
  · rcases O_isSq h with h | h
    · exact ⟨_, .base (.lst h), .inl rfl⟩
    · exact ⟨_, .base (.tup h), .inr rfl⟩
  · obtain ⟨n, hn, rfl⟩ := List.mem_map.mp hx
    exact .inl ⟨n, rfl, sm_mono (hb n hn) (by decide)⟩
theorem sqD_len8 {x : Bool} {A : List Int} (h : ∀ n ∈ A, n.natAbs.log2 < 1920) (hl : A.length ≤ 8) : (SqD x A).shown.length ≤ 20000 := by
  have hp := piled_le (A.map fun n => Str.ofString (toString n)) fun t ht => by
    obtain ⟨n, hn, rfl⟩ := List.mem_map.mp ht
    exact int_text_len_1921 (h n hn)
  rw [List.length_map] at hp
  cases x with
  | false =>
    show (tupleText (PyData.shownAll (A.map PyData.int))).length ≤ 20000
    rw [shownAll_ints]
    unfold tupleText
    rw [strLen_append, strLen_append]
    have e1 : (("(" : String) : Str).length = 1 := rfl
    have e2 : (((if ((A.map fun n => Str.ofString (toString n)).length == 1) = true then ",)" else ")" : String)) : Str).length ≤ 2 := by
      split <;> decide
    have hj : (Str.join ", " (A.map fun n => Str.ofString (toString n))).length ≤ 1923 * 8 := by
      cases e : A with
      | nil => show 0 ≤ _; omega
      | cons n r =>
        have := join_length_add (A.map fun n => Str.ofString (toString n)) (by rw [e]; simp)
        rw [e] at this hp hl
        omega
    omega
  | true =>
    show (listText (PyData.shownAll (A.map PyData.int))).length ≤ 20000
    rw [shownAll_ints]
    unfold listText
    rw [strLen_append]
    have e2 : (("]" : String) : Str).length = 1 := rfl
    have e4 := textFrom_le (A.map fun n => Str.ofString (toString n)) 0 ("[" : String)
    have e1 : (("[" : String) : Str).length = 1 := rfl
    omega
theorem pair_len8 {x y : Bool} {A B : List Int} (hA : ∀ n ∈ A, n.natAbs.log2 < 1920) (lA : A.length ≤ 8) (hB : ∀ n ∈ B, n.natAbs.log2 < 1920) (lB : B.length ≤ 8) : (pairD x y A B).shown.length ≤ sizeLine := by
  have a := sqD_len8 (x := x) hA lA
  have b := sqD_len8 (x := y) hB lB
  show (tupleText (PyData.shownAll [SqD x A, SqD y B])).length ≤ sizeLine
  have e : PyData.shownAll [SqD x A, SqD y B] = [(SqD x A).shown, (SqD y B).shown] := rfl
  rw [e]
  unfold tupleText
  rw [strLen_append, strLen_append]
  have e1 : (("(" : String) : Str).length = 1 := rfl
  have e2 : (((if (([(SqD x A).shown, (SqD y B).shown] : List Str).length == 1) = true then ",)" else ")" : String)) : Str).length ≤ 2 := by
    split <;> decide
  have hj := join_length_add [(SqD x A).shown, (SqD y B).shown] (by simp)
  have e3 : piled [(SqD x A).shown, (SqD y B).shown] ≤ 40010 := by
    rw [piled_cons, piled_cons]
    show _ + (_ + 0) ≤ _
    omega
  have e5 : 60000 ≤ sizeLine := by decide
  omega
theorem sqD_len6 {x : Bool} {A : List Int} (h : ∀ n ∈ A, n.natAbs.log2 < 1920) (hl : A.length ≤ 6) : (SqD x A).shown.length ≤ 12000 := by
  have hp := piled_le (A.map fun n => Str.ofString (toString n)) fun t ht => by
    obtain ⟨n, hn, rfl⟩ := List.mem_map.mp ht
    exact int_text_len_1921 (h n hn)
  rw [List.length_map] at hp
  cases x with
  | false =>
    show (tupleText (PyData.shownAll (A.map PyData.int))).length ≤ 12000
    rw [shownAll_ints]
    unfold tupleText
    rw [strLen_append, strLen_append]
    have e1 : (("(" : String) : Str).length = 1 := rfl
    have e2 : (((if ((A.map fun n => Str.ofString (toString n)).length == 1) = true then ",)" else ")" : String)) : Str).length ≤ 2 := by
      split <;> decide
    have hj : (Str.join ", " (A.map fun n => Str.ofString (toString n))).length ≤ 1923 * 6 := by
      cases e : A with
      | nil => show 0 ≤ _; omega
      | cons n r =>
        have := join_length_add (A.map fun n => Str.ofString (toString n)) (by rw [e]; simp)
        rw [e] at this hp hl
        omega
    omega
  | true =>
    show (listText (PyData.shownAll (A.map PyData.int))).length ≤ 12000
    rw [shownAll_ints]
    unfold listText
    rw [strLen_append]
    have e2 : (("]" : String) : Str).length = 1 := rfl
    have e4 := textFrom_le (A.map fun n => Str.ofString (toString n)) 0 ("[" : String)
    have e1 : (("[" : String) : Str).length = 1 := rfl
    omega
theorem lots_showAll : ∀ Ls : List (List Int), (∀ M ∈ Ls, ∀ n ∈ M, n.natAbs.log2 < 1920) → PyData.showableAll (Ls.map (SqD false)) = true
  | [], _ => rfl
  | M :: r, h => by
    simp only [List.map_cons, PyData.showableAll]
    rw [sqD_show (h M List.mem_cons_self), lots_showAll r fun N hN => h N (List.mem_cons_of_mem _ hN)]
    rfl
theorem lots_dictAll : ∀ Ls : List (List Int), PyData.hasDictAll (Ls.map (SqD false)) = false
  | [] => rfl
  | M :: r => by
    simp only [List.map_cons, PyData.hasDictAll]
    rw [sqD_dict, lots_dictAll r]
    rfl
theorem lots_shownAll : ∀ Ls : List (List Int), PyData.shownAll (Ls.map (SqD false)) = Ls.map fun M => (SqD false M).shown
  | [] => rfl
  | M :: r => by
    simp only [List.map_cons, PyData.shownAll]
    rw [lots_shownAll r]
theorem piled_leC {c : Nat} : ∀ ts : List Str, (∀ t ∈ ts, t.length ≤ c) → piled ts ≤ (c + 2) * ts.length
  | [], _ => Nat.zero_le _
  | t :: r, h => by
    have a := h t List.mem_cons_self
    have b := piled_leC r fun u hu => h u (List.mem_cons_of_mem _ hu)
    rw [piled_cons, List.length_cons, Nat.mul_add, Nat.mul_one]
    omega
theorem lots_len {Ls : List (List Int)} (h : ∀ M ∈ Ls, M.length ≤ 6 ∧ ∀ n ∈ M, n.natAbs.log2 < 1920) (hl : Ls.length ≤ 1024) : (lotsD false Ls).shown.length ≤ sizeLine := by
  have hp := piled_leC (c := 12000) (Ls.map fun M => (SqD false M).shown) fun t ht => by
    obtain ⟨M, hM, rfl⟩ := List.mem_map.mp ht
    exact sqD_len6 (h M hM).2 (h M hM).1
  rw [List.length_map] at hp
  show (tupleText (PyData.shownAll (Ls.map (SqD false)))).length ≤ sizeLine
  rw [lots_shownAll]
  unfold tupleText
  rw [strLen_append, strLen_append]
  have e1 : (("(" : String) : Str).length = 1 := rfl
  have e2 : (((if ((Ls.map fun M => (SqD false M).shown).length == 1) = true then ",)" else ")" : String)) : Str).length ≤ 2 := by
    split <;> decide
  have e5 : 16000000 ≤ sizeLine := by decide
  have hj : (Str.join ", " (Ls.map fun M => (SqD false M).shown)).length ≤ 12002 * 1024 := by
    cases e : Ls with
    | nil => show 0 ≤ _; omega
    | cons M r =>
      have := join_length_add (Ls.map fun M => (SqD false M).shown) (by rw [e]; simp)
      rw [e] at this hp hl
      omega
  omega
/-- all that repr wants of tuples of tuples -/
structure RpT (Ls : List (List Int)) : Prop where
  a : (lotsD false Ls).showable = true
  b : (lotsD false Ls).hasDict = false
  c : (lotsD false Ls).depth ≤ 30
  d : (lotsD false Ls).shown.length ≤ sizeLine
theorem rpT {Ls : List (List Int)} (h : ∀ M ∈ Ls, M.length ≤ 6 ∧ ∀ n ∈ M, n.natAbs.log2 < 1920) (hl : Ls.length ≤ 1024) : RpT Ls :=
  ⟨(by show PyData.showable (.tuple (Ls.map (SqD false))) = true; simp only [PyData.showable]; exact lots_showAll Ls fun M hM => (h M hM).2), (by show PyData.hasDict (.tuple (Ls.map (SqD false))) = false; simp only [PyData.hasDict]; exact lots_dictAll Ls), (by have := depth_lots Ls; show PyData.depth (.tuple (Ls.map (SqD false))) ≤ 30; simp only [PyData.depth]; omega), lots_len h hl⟩
theorem eqv_lotsL (Ls Ms : List (List Int)) : PyData.eqv (lotsD true Ls) (lotsD true Ms) = decide (Ls = Ms) := eqv_lots Ls Ms
theorem shaped_lot (M : List Int) : SeqAt.shaped (SqD false M) = true := by
  have h := sqD_depth (x := false) (A := M)
  unfold SeqAt.shaped
  rw [Bool.and_eq_true, decide_eq_true_eq]
  refine ⟨?_, by omega⟩
  show PyData.canLayAll0 (M.map PyData.int) = true
  exact canLay_ints M
theorem lot_val {K : PySem.W.Frag} {H : Hp} {t : Addr} {M : List Int} (h : H t = some (.tup (M.map V.int))) (hl : M.length ≤ 6) (hs : ∀ n ∈ M, sm 100 n) : ValT K H (.ref t) (some (M.map V.int)) :=
  ⟨t, rfl, SqT.of h, .base (.tup h), fun x hx => by
    obtain ⟨n, hn, rfl⟩ := List.mem_map.mp hx
    exact .inl ⟨n, rfl, sm_mono (hs n hn) (by decide)⟩, by rw [List.length_map]; omega⟩
theorem sure_kind (A B : List Int) (n : Int) : sureV A B n = .non ∨ ∃ b, sureV A B n = .bl b := by
  unfold sureV
  split
  · split
    · exact .inl rfl
    · exact .inr ⟨_, rfl⟩
  · exact .inr ⟨_, rfl⟩
theorem isI_false_all {x : V} (h : isI x = false) : isIs (some [x]) = false := by
  show ([x].all isI) = false
  simp [h]
theorem bad_tup {K : PySem.W.Frag} {H : Hp} {p : Addr} {x : V} (h : H p = some (.tup [x])) (hx : Itm K H x) : ValA K H (.ref p) (some [x]) :=
  ⟨p, rfl, .inr (SqT.of h), ⟨_, .base (.tup h), .inr rfl⟩, fun z hz => by rw [List.mem_singleton] at hz; subst hz; exact hx, by show 1 ≤ 8; decide⟩
theorem bad_lst {K : PySem.W.Frag} {H : Hp} {p : Addr} {x : V} (h : H p = some (.lst [x])) (hx : Itm K H x) : ValA K H (.ref p) (some [x]) :=
  ⟨p, rfl, .inl (SqL.of h), ⟨_, .base (.lst h), .inl rfl⟩, fun z hz => by rw [List.mem_singleton] at hz; subst hz; exact hx, by show 1 ≤ 8; decide⟩
theorem itm_non {K : PySem.W.Frag} {H : Hp} : Itm K H .non := .inr ⟨fun _ z => (by cases z), _, .base .non, .inr (.inl rfl)⟩
theorem itm_bl {K : PySem.W.Frag} {H : Hp} {b : Bool} : Itm K H (.bl b) := .inr ⟨fun _ z => (by cases z), _, .base (.bl b), .inl rfl⟩
theorem itm_str {K : PySem.W.Frag} {H : Hp} {x : Str} : Itm K H (.str x) := .inr ⟨fun _ z => (by cases z), _, .base (.str _), .inr (.inr (.inl rfl))⟩
theorem bad_non {K : PySem.W.Frag} {H : Hp} : ValA K H .non none := ⟨_, .base .non, .inl rfl⟩
theorem bad_int {K : PySem.W.Frag} {H : Hp} {i : Int} : ValA K H (.int i) none := ⟨_, .base (.int i), .inr (.inl rfl)⟩
theorem bad_dict {K : PySem.W.Frag} {H : Hp} {p : Addr} (h : H p = some (.dK [])) : ValA K H (.ref p) none := ⟨_, .base (.dK h), .inr (.inr (.inr rfl))⟩
theorem note_dp {K : PySem.W.Frag} {H : Hp} {p : Addr} {r : Str} {i : Int} (h : H p = some (.tup [.str r, .int i])) : Dp K H (.ref p) (.tuple [.str r, .int i]) := .tup (SqT.of h) (.cons (.str _) (.cons (.int _) .nil))
structure S4 (d c y t l n : Addr) (A L B : List Int) (ts : List Addr) (Ms : List (List Int)) (H : Hp) : Prop where
  dl : Dl H d c
  hy : H y = some (.lst (A.map V.int))
  ht : H t = some (.tup (L.map V.int))
  hl : H l = some (.lst (ts.map V.ref))
  hT : TL H ts Ms
  hn : H n = some (.lst (B.map V.int))
  yd : y ≠ d ∧ y ≠ c
  ld : l ≠ d ∧ l ≠ c
  nd : n ≠ d ∧ n ≠ c
theorem S4.kp {d c y t l n : Addr} {A L B : List Int} {ts : List Addr} {Ms : List (List Int)} {H H' : Hp} (h : S4 d c y t l n A L B ts Ms H) (D : Dl H' d c) (k : Kp d c H H') : S4 d c y t l n A L B ts Ms H' :=
  ⟨D, k _ _ h.yd.1 h.yd.2 h.hy, Kp.tl h.dl k h.ht, k _ _ h.ld.1 h.ld.2 h.hl, h.hT.kp h.dl k, k _ _ h.nd.1 h.nd.2 h.hn, h.yd, h.ld, h.nd⟩
theorem S4.same {d c y t l n : Addr} {A L B : List Int} {ts : List Addr} {Ms : List (List Int)} {H H' : Hp} (h : S4 d c y t l n A L B ts Ms H) (s : Same H H') : S4 d c y t l n A L B ts Ms H' := h.kp (h.dl.same s) (Kp.of s)
theorem S4.put {d c y t l n : Addr} {A L B B' : List Int} {ts : List Addr} {Ms : List (List Int)} {H : Hp} (h : S4 d c y t l n A L B ts Ms H) (ny : n ≠ y) (nl : n ≠ l) : S4 d c y t l n A L B' ts Ms (upd H n (.lst (B'.map V.int))) :=
  ⟨h.dl.upd h.nd.1 h.nd.2, by rw [upd_ne (Ne.symm ny)]; exact h.hy, by rw [upd_ne (fun e => by have := h.ht; rw [e, h.hn] at this; cases this)]; exact h.ht, by rw [upd_ne (Ne.symm nl)]; exact h.hl, TL.upd h.hn h.hT, upd_same, h.yd, h.ld, h.nd⟩
theorem free_filter {B M : List Int} : decide (B.filter (fun x => fit M x) = []) = freeB B M := by
  rw [Bool.eq_iff_iff, freeB_iff, decide_eq_true_eq, List.filter_eq_nil_iff]
  simp
/-- what stands there while a turn is under way -/
structure S6 (d c y t l n u : Addr) (A L B : List Int) (ts us : List Addr) (Ms : List (List Int)) (H : Hp) : Prop where
  dl : Dl H d c
  hy : H y = some (.lst (A.map V.int))
  ht : H t = some (.tup (L.map V.int))
  hl : H l = some (.lst (ts.map V.ref))
  hT : TL H ts Ms
  hn : H n = some (.lst (B.map V.int))
  hu : H u = some (.lst (us.map V.ref))
  hU : TL H us (Ms.filter (freeB B))
  yd : y ≠ d ∧ y ≠ c
  ld : l ≠ d ∧ l ≠ c
  nd : n ≠ d ∧ n ≠ c
  ud : u ≠ d ∧ u ≠ c
theorem S6.kp {d c y t l n u : Addr} {A L B : List Int} {ts us : List Addr} {Ms : List (List Int)} {H H' : Hp} (h : S6 d c y t l n u A L B ts us Ms H) (D : Dl H' d c) (k : Kp d c H H') : S6 d c y t l n u A L B ts us Ms H' :=
  ⟨D, k _ _ h.yd.1 h.yd.2 h.hy, Kp.tl h.dl k h.ht, k _ _ h.ld.1 h.ld.2 h.hl, h.hT.kp h.dl k, k _ _ h.nd.1 h.nd.2 h.hn, k _ _ h.ud.1 h.ud.2 h.hu, h.hU.kp h.dl k, h.yd, h.ld, h.nd, h.ud⟩
theorem S6.same {d c y t l n u : Addr} {A L B : List Int} {ts us : List Addr} {Ms : List (List Int)} {H H' : Hp} (h : S6 d c y t l n u A L B ts us Ms H) (s : Same H H') : S6 d c y t l n u A L B ts us Ms H' := h.kp (h.dl.same s) (Kp.of s)
theorem S6.pair {K : PySem.W.Frag} {d c y t l n u p : Addr} {A L B : List Int} {ts us : List Addr} {Ms : List (List Int)} {H : Hp} (h : S6 d c y t l n u A L B ts us Ms H) (hp : H p = some (.tup [.ref y, .ref n])) : Dp K H (.ref p) (pairD true true A B) :=
  .tup (SqT.of hp) (.cons (.lst (SqL.of h.hy) (dp_ints A)) (.cons (.lst (SqL.of h.hn) (dp_ints B)) .nil))

def qD : Option Int → PyData
  | none => .none
  | some n => .int n
def toldD (o : Option Int) : PyData := .tuple [.str "told", qD o]
theorem told_dp {K : PySem.W.Frag} {H : Hp} {p : Addr} {o : Option Int} (h : H p = some (.tup [.str "told", qV o])) : Dp K H (.ref p) (toldD o) := .tup (SqT.of h) (.cons (.str _) (.cons (by cases o with | none => exact .non | some n => exact .int n) .nil))
structure RpO (D : PyData) : Prop where
  a : D.showable = true
  b : D.hasDict = false
  c : D.depth ≤ 30
  d : D.shown.length ≤ sizeLine
theorem rpO {o : Option Int} (h : ∀ n, o = some n → n.natAbs.log2 < 1920) : RpO (toldD o) := by
  cases o with
  | none => exact ⟨by decide +kernel, by decide +kernel, by decide +kernel, by decide +kernel⟩
  | some n =>
    have hn := h n rfl
    refine ⟨?_, ?_, ?_, ?_⟩
    · show (PyData.tuple [.str "told", .int n]).showable = true
      have := showAll_ints [n] fun m hm => by rw [List.mem_singleton] at hm; rw [hm]; exact hn
      simp only [List.map_cons, List.map_nil, PyData.showableAll] at this
      simp only [PyData.showable, PyData.showableAll] at this ⊢
      simpa using this
    · show (PyData.tuple [.str "told", .int n]).hasDict = false
      simp [PyData.hasDict, PyData.hasDictAll]
    · show (PyData.tuple [.str "told", .int n]).depth ≤ 30
      simp [PyData.depth, PyData.depthAll]
    · show (tupleText (PyData.shownAll [.str "told", .int n])).length ≤ sizeLine
      have e : PyData.shownAll [.str "told", .int n] = [(PyData.str "told").shown, (PyData.int n).shown] := rfl
      rw [e]
      unfold tupleText
      rw [strLen_append, strLen_append]
      have e1 : (("(" : String) : Str).length = 1 := rfl
      have e2 : (((if (([(PyData.str "told").shown, (PyData.int n).shown] : List Str).length == 1) = true then ",)" else ")" : String)) : Str).length ≤ 2 := by
        split <;> decide
      have hj := join_length_add [(PyData.str "told").shown, (PyData.int n).shown] (by simp)
      have e0 : (PyData.str "told").shown.length ≤ 10 := by decide +kernel
      have e9 : (PyData.int n).shown.length ≤ 1921 := int_text_len_1921 hn
      have e3 : piled [(PyData.str "told").shown, (PyData.int n).shown] ≤ 4000 := by
        rw [piled_cons, piled_cons]
        show _ + (_ + 0) ≤ _
        omega
      have e5 : 60000 ≤ sizeLine := by decide
      omega

theorem eqv_lotsF (Ls Ms : List (List Int)) : PyData.eqv (lotsD false Ls) (lotsD false Ms) = decide (Ls = Ms) := eqv_lots Ls Ms
theorem bad_str {K : PySem.W.Frag} {H : Hp} {x : Str} : ValA K H (.str x) none := ⟨_, .base (.str _), .inr (.inr (.inl rfl))⟩

section
variable {P : Program} {w : World} {K : PySem.W.Frag} {mg : Str → Option Value} {base : Heap} {C C2 : Addr}
def spLaw (K : PySem.W.Frag) : Sp := fun vs H Q _ => ∃ (a : Addr) (ns : List Int), vs = [.ref a] ∧ SqL K H a (ns.map V.int) ∧ ∀ H', Q (.bl true) H'
theorem sc40 : FnScope ["_law_script", "_law_deal", "_law_yes", "_law_lot", "_law_whole", "_law_q", "_law_no", "_law_due", "_law_told", "_law_best_here", "_law_more", "_law_less", "_law_none", "_law_bad", "_law_again", "_law_one", "_law_n"] ["_law_script"] (defScope (top 40)) := ⟨rfl, rfl, rfl, by decide +kernel, rfl, by decide +kernel, by decide +kernel⟩
set_option maxHeartbeats 16000000 in
theorem ok_law {f : Addr} {fd : FuncData} (B : Bl mg) (CDr : Cal P w K mg base CX0 1 "_law_draw" ["_law_script", "_law_salt"] (spDraw K)) (CA : Cal P w K mg base CX0 1 "_law_any" ["_law_deal", "_law_bound"] spAny) (CO : Cal P w K mg base CX0 2 "_law_of" ["_law_deal", "_law_some"] (spOf K))
    (CS : Cal P w K mg base CX0 3 "_law_small" ["_law_deal"] spSm) (CLC : Cal P w K mg base CX0 2 "_law_coarser" ["_law_lot"] (spLC K)) (CLf : Cal P w K mg base CX0 1 "_law_fits" ["_law_lot", "_law_n"] (spLF K)) (CBe : Cal P w K mg base CX0 2 "_law_best" ["_law_lots", "_law_whole"] (spBe K)) (CAs : Cal P w K mg base CX0 8 "_law_asked" ["_law_yes", "_law_no"] (spAs K))
    (CPl : Cal P w K mg base (L2.CX P w) 6 "possible_lots" ["yes", "no"] (spPoL K C C2)) (F : Fun K "law" "law" (top 40) f fd) : FnOkG P w K mg base 9 f fd ["_law_script"] (spLaw K) := by
  obtain ⟨oc, od, kV, doc, pm, an, cdv, ct, osl, rfl, lk, hcd⟩ := F.ex
  refine fn_ofG lk hcd sc40 (fun vs H Q E h => ?_) (fun A outer s H vs Q E hr gd h => ⟨_,
    (pss_cons (ps_set (i := 1) sc40.nd rfl (.inr rfl) (by exact (pe_cal CDr hr (by decide) (pa_cons (pv 0) (pa_cons pe_int pa_nil)))))
    (pss_cons (ps_asg (by exact (pe_cal CS hr (by decide) (pa_cons (pv 1) pa_nil))) (pg_tup rfl (pgs_cons (pg_name (i := 2) sc40.nd rfl (.inl rfl)) (pgs_cons (pg_name (i := 3) sc40.nd rfl (.inr rfl)) pgs_nil))))
    (pss_cons (ps_set (i := 4) sc40.nd rfl (.inl rfl) pe_int)
    (pss_cons (ps_for (passes_of rfl) rfl (pi_tup (pv 3)) (pg_name (i := 5) sc40.nd rfl (.inl rfl)) (pss_one (ps_set (i := 4) sc40.nd rfl (.inl rfl) (pe_op op_mulW (pv 4) (pv 5)))))
    (pss_cons (ps_set (i := 6) sc40.nd rfl (.inr rfl) (pe_lc (own := [("_law_again", 14)]) (g := gName 14) (tt := tYes) rfl sc40.nd (pi_range1 (by rfl) B.range (pa_cons (by exact (pe_cal CA hr (by decide) (pa_cons (pv 1) (pa_cons pe_int pa_nil)))) pa_nil)) (blkOk_by (N := ["_law_script", "_law_deal", "_law_yes", "_law_lot", "_law_whole", "_law_q", "_law_no", "_law_due", "_law_told", "_law_best_here", "_law_more", "_law_less", "_law_none", "_law_bad", "_law_again", "_law_one", "_law_n"]) (sc := defScope (top 40)) (by decide +kernel))
        (fun _ _ _ _ _ => (pg_name (i := 14) sc40.nd rfl (Or.inl rfl))) (fun _ _ _ _ _ => pts_nil) (fun _ _ _ _ _ => (pe_op op_sub (pe_cal CA hr (by decide) (pa_cons (pv 1) (pa_cons pe_int pa_nil))) pe_int))))
    (pss_cons (ps_if (pt_cmpR op_gt (by exact (pe_cal CA hr (by decide) (pa_cons (pv 1) (pa_cons pe_int pa_nil)))) pe_int (nomark _)) (pss_one (ps_set (i := 6) sc40.nd rfl (.inr rfl) (pe_lc (own := [("_law_n", 16)]) (g := gName 16) rfl sc40.nd (pi_list (pv 6)) (blkOk_by (N := ["_law_script", "_law_deal", "_law_yes", "_law_lot", "_law_whole", "_law_q", "_law_no", "_law_due", "_law_told", "_law_best_here", "_law_more", "_law_less", "_law_none", "_law_bad", "_law_again", "_law_one", "_law_n"]) (sc := defScope (top 40)) (by decide +kernel))
        (fun _ _ _ _ _ => (pg_name (i := 16) sc40.nd rfl (Or.inl rfl))) (fun _ _ _ _ _ => (pts_one (pt_not (pt_val (pe_cal CLf hr (by decide) (pa_cons (pv 3) (pa_cons (pv 16) pa_nil))))))) (fun _ _ _ _ _ => (pv 16))))) pss_nil)
    (pss_cons (ps_setLc (i := 7) (own := [("_law_one", 15)]) (g := gName 15) rfl sc40.nd rfl rfl (sw_true rfl rfl rfl (by decide +kernel)) (pi_list (by exact (pe_cal CLC hr (by decide) (pa_cons (pv 3) pa_nil)))) (blkOk_by (N := ["_law_script", "_law_deal", "_law_yes", "_law_lot", "_law_whole", "_law_q", "_law_no", "_law_due", "_law_told", "_law_best_here", "_law_more", "_law_less", "_law_none", "_law_bad", "_law_again", "_law_one", "_law_n"]) (sc := defScope (top 40)) (by decide +kernel))
        (fun _ _ _ _ _ => (pg_name (i := 15) sc40.nd rfl (Or.inr rfl))) (fun _ _ _ _ _ => (pts_one (pt_cmpR (r := rEqD K) (op_eqD hr.units) (pe_lcN ["_law_script", "_law_deal", "_law_yes", "_law_lot", "_law_whole", "_law_q", "_law_no", "_law_due", "_law_told", "_law_best_here", "_law_more", "_law_less", "_law_none", "_law_bad", "_law_again", "_law_one", "_law_n"] (wi := iList K (tVar 6)) (own := [("_law_n", 16)]) (g := gName 16) rfl sc40.nd (by exact (pi_list (pv 6))) rfl (by decide +kernel)
        (fun _ _ _ _ _ => (pg_name (i := 16) sc40.nd rfl (Or.inl rfl))) (fun _ _ _ _ _ => (pts_one (pt_val (pe_cal CLf hr (by decide) (pa_cons (pv 15) (pa_cons (pv 16) pa_nil)))))) (fun _ _ _ _ _ => (pv 16))) (pe_lst pa_nil) (nomark _)))) (fun _ _ _ _ _ => (pv 15)))
    (pss_cons (ps_set (i := 8) sc40.nd rfl (.inl rfl) (by exact (pe_cal CAs hr (by decide) (pa_cons (pv 2) (pa_cons (pv 6) pa_nil)))))
    (pss_cons (ps_if (pt_cmpR (op_eqD hr.units) (pv 7) (pe_lst pa_nil) (nomark _)) (pss_one (ps_if (pt_cmpR (op_neD hr.units) (pv 8) (pe_tup (pa_cons pe_str (pa_cons pe_int pa_nil))) (nomark _)) (pss_one (ps_ret pe_bl)) pss_nil)) (pss_cons (ps_set (i := 9) sc40.nd rfl (.inl rfl) (by exact (pe_cal CBe hr (by decide) (pa_cons (pv 7) (pa_cons (pv 4) pa_nil)))))
    (pss_cons (ps_if (PW.pt (pw_or (pt_cmpR op_ne (pe_callB (call_reprG gd hr.units) (by rfl) B.repr (by decide +kernel) (pa_cons (pv 8) pa_nil)) (pe_callB (call_reprG gd hr.units) (by rfl) B.repr (by decide +kernel) (pa_cons (pe_tup (pa_cons pe_str (pa_cons (pv 9) pa_nil))) pa_nil)) (nomark _)) (pw_or (pt_cmpR op_ne (pe_callB (call_reprG gd hr.units) (by rfl) B.repr (by decide +kernel) (pa_cons (by exact (pe_cal CAs hr (by decide) (pa_cons (pe_callTy call_tuple_of (by rfl) B.tuple (by decide +kernel) (pa_cons (pv 2) pa_nil)) (pa_cons (pe_callTy call_tuple_of (by rfl) B.tuple (by decide +kernel) (pa_cons (pv 6) pa_nil)) pa_nil)))) pa_nil)) (pe_callB (call_reprG gd hr.units) (by rfl) B.repr (by decide +kernel) (pa_cons (pv 8) pa_nil)) (nomark _)) (pw_or1 (pt_cmpR op_ne (pe_cmpR op_isN (pv 9) pe_non (nomark _)) (pe_cmpR op_eq (pe_callB call_len_seq (by rfl) B.len PySem.boot_len (pa_cons (pv 7) pa_nil)) pe_int (nomark _)) (nomark _)))))) (pss_one (ps_ret pe_bl)) pss_nil)
    (pss_one (ps_if (pt_cmpR op_notN (pv 9) pe_non (nomark _)) (pss_cons (ps_par (i := 10) (j := 11) rfl sc40.nd rfl rfl (by decide) rfl rfl (pa_cons (by exact (pe_calS CPl hr (by decide) (fun σ => passL σ) (pa_cons (pe_op op_cat (pv 2) (pe_lst (pa_cons (pv 9) pa_nil))) (pa_cons (pv 6) pa_nil)))) (pa_cons (by exact (pe_calS CPl hr (by decide) (fun σ => passL σ) (pa_cons (pv 2) (pa_cons (pe_op op_cat (pv 6) (pe_lst (pa_cons (pv 9) pa_nil))) pa_nil)))) pa_nil)) (by rfl))
    (pss_one (ps_if (PW.pt (pw_or (pt_cmpR (op_eqD hr.units) (pv 10) (pe_tup pa_nil) (nomark _)) (pw_or (pt_cmpR (op_eqD hr.units) (pv 11) (pe_tup pa_nil) (nomark _)) (pw_or1 (pt_cmpR (op_neD hr.units) (pe_callB (cr_sortedTT hr.units) (by rfl) B.sorted (by decide +kernel) (pa_cons (pe_op op_catP (pv 10) (pv 11)) pa_nil)) (pv 7) (nomark _)))))) (pss_one (ps_ret pe_bl)) pss_nil))) pss_nil)))))
    (pss_cons (ps_setLc (i := 12) (own := [("_law_again", 14)]) (g := gName 14) (tt := tYes) rfl sc40.nd rfl rfl (sw_true rfl rfl rfl (by decide +kernel)) (pi_range1 (by rfl) B.range (pa_cons (by exact (pe_cal CA hr (by decide) (pa_cons (pv 1) (pa_cons pe_int pa_nil)))) pa_nil)) (blkOk_by (N := ["_law_script", "_law_deal", "_law_yes", "_law_lot", "_law_whole", "_law_q", "_law_no", "_law_due", "_law_told", "_law_best_here", "_law_more", "_law_less", "_law_none", "_law_bad", "_law_again", "_law_one", "_law_n"]) (sc := defScope (top 40)) (by decide +kernel))
        (fun _ _ _ _ _ => (pg_name (i := 14) sc40.nd rfl (Or.inl rfl))) (fun _ _ _ _ _ => pts_nil) (fun _ _ _ _ _ => (pe_cal CA hr (by decide) (pa_cons (pv 1) (pa_cons pe_int pa_nil)))))
    (pss_cons (ps_if (PW.pt (pw_or (pt_cmpR (op_neD hr.units) (by exact (pe_cal CAs hr (by decide) (pa_cons (pv 12) (pa_cons (pv 6) pa_nil)))) (pe_tup (pa_cons pe_str (pa_cons pe_int pa_nil))) (nomark _)) (pw_or1 (pt_cmpR (op_neD hr.units) (by exact (pe_cal CAs hr (by decide) (pa_cons (pv 12) (pa_cons (by exact (pe_cal CO hr (by decide) (pa_cons (pv 1) (pa_cons (pe_lst (pa_cons (pe_lst (pa_cons pe_int pa_nil)) (pa_cons (pe_lst (pa_cons pe_int (pa_cons pe_int pa_nil))) pa_nil))) pa_nil)))) pa_nil)))) (pe_tup (pa_cons pe_str (pa_cons pe_int pa_nil))) (nomark _))))) (pss_one (ps_ret pe_bl)) pss_nil)
    (pss_cons (ps_set (i := 13) sc40.nd rfl (.inl rfl) (by exact (pe_cal CO hr (by decide) (pa_cons (pv 1) (pa_cons (pe_lst (pa_cons pe_non (pa_cons (pe_tup (pa_cons pe_bl pa_nil)) (pa_cons (pe_lst (pa_cons pe_str pa_nil)) (pa_cons pe_dnewK (pa_cons pe_str pa_nil)))))) pa_nil)))))
    (pss_one (ps_ret (pe_and (pe_cmpR (op_eqD hr.units) (by exact (pe_cal CAs hr (by decide) (pa_cons (pv 13) (pa_cons (by exact (pe_cal CO hr (by decide) (pa_cons (pv 1) (pa_cons (pe_lst (pa_cons (pv 6) (pa_cons pe_non pa_nil))) pa_nil)))) pa_nil)))) (pe_tup (pa_cons pe_str (pa_cons pe_int pa_nil))) (nomark _)) (pe_one (pe_cmpR (op_eqD hr.units) (by exact (pe_cal CAs hr (by decide) (pa_cons (pv 2) (pa_cons (pv 13) pa_nil)))) (pe_tup (pa_cons pe_str (pa_cons pe_int pa_nil))) (nomark _)))))))))))))))))), ?_⟩)
  · obtain ⟨a, ns, rfl, _⟩ := h
    rfl
  obtain ⟨sc, ns0, rfl, hS, q⟩ := h
  refine ⟨_, rfl, sc, ns0, 45, rfl, hS, by decide, by decide, fun H0 d c s0 hd hc hD => ?_⟩
  dsimp only [gName]
  refine ⟨_, rfl, d, c, rfl, hD, fun r y t A L H1 D1 k1 yd1 yd2 hr1 hy1 ht1 lA sA hL => ?_⟩
  refine ⟨r, _, rfl, SqT.of hr1, rfl, _, _, rfl, _, _, rfl, rfl, ?_⟩
  dsimp only [gName]
  clear hr1 k1 hD
  have Lm := cl_self (k := 2000) hL.sml.lot fun p hp => by have := hL.sml.lot.ge p hp; have := le_prd hL.sml.lot.ge hp; have := hL.sml.sml; omega
  -- its product
  refine ⟨_, rfl, t, rfl, ⟨_, SqT.of ht1⟩, for_tup (xs := L.map V.int) (fun j σ H' => (∃ v5 : Option V, σ = [some (.ref sc), some (.ref d), some (.ref y), some (.ref t), some (.int (prd (L.take j))), v5, none, none, none, none, none, none, none, none, none, none, none]) ∧ H' = H1) ⟨⟨none, rfl⟩, rfl⟩ ?_ ?_ ?_⟩
  · rintro j σ H' _ ⟨_, rfl⟩
    exact SqT.of ht1
  · rintro j x σ H' hx ⟨⟨v5, rfl⟩, rfl⟩
    obtain ⟨n, hn, rfl⟩ := map_at hx
    refine ⟨_, rfl, _, rfl, _, _, rfl, rfl, mulW (hL.sml.takes Lm j) (hL.sml.sms Lm n (List.mem_of_getElem? hn)) (by decide) (by decide) (by decide), ⟨some (.int n), ?_⟩, rfl⟩
    rw [prd_at hn]
    rfl
  rintro σ H' ⟨⟨v5, rfl⟩, rfl⟩
  rw [List.length_map, List.take_length]
  dsimp only [gName]
  -- counts told no
  refine ⟨_, rfl, d, c, 3, rfl, D1, by decide, by decide, fun m H3 m0 m1 D3 k3 => ⟨m, rfl, (by omega), (by omega), fun n hn0 => ?_⟩⟩
  have nd := D3.ne hn0
  have hy3 := k3 _ _ yd1 yd2 hy1
  have ht3 := Kp.tl D1 k3 ht1
  have ny : n ≠ y := fun e => by
    rw [← e, hn0] at hy3
    cases hy3
  refine lc_range (lo := 0) (n := m.toNat) (fun j H' => ∃ B : List Int, B.length ≤ j ∧ (∀ n ∈ B, sm 105 n) ∧ Dl H' d c ∧ Kp d c H3 H' ∧ H' n = some (.lst (B.map V.int))) ⟨[], Nat.zero_le _, fun n hn => (by simp at hn), D3.same (Same.new hn0), Kp.of (Same.new hn0), upd_same⟩ ?_ ?_
  · rintro j H4 hj ⟨B, lB, sB, D4, k4, f4⟩
    refine ⟨rfl, _, rfl, d, c, 41, rfl, D4, by decide, by decide, fun z H5 z0 z1 D5 k5 => ⟨_, _, rfl, rfl, _, k5 _ _ nd.1 nd.2 f4, len_lt (by rw [List.length_map]; omega), B ++ [z - 10], by rw [List.length_append, List.length_singleton]; omega, fun x hx => ?_, D5.upd nd.1 nd.2, (k4.trans k5).updn hn0, ?_⟩⟩
    · rcases List.mem_append.mp hx with e | e
      · exact sB x e
      · rw [List.mem_singleton] at e
        subst e
        exact Nat.lt_of_le_of_lt (show (z - 10).natAbs ≤ 100 by omega) (by decide)
    · rw [upd_same, List.map_append]
      rfl
  rintro H4 ⟨B, lB, sB, D4, k4, f4⟩
  replace lB : B.length ≤ 2 := by omega
  have hy4 := k4 _ _ yd1 yd2 hy3
  have ht4 := Kp.tl D3 k4 ht3
  dsimp only [gName]
  clear k4 k3 D3 m0 m1 hn0 hy3 ht3 hy1 ht1 D1
  refine sq_cut (fun σ H' => ∃ (n : Addr) (B : List Int), σ = [some (.ref sc), some (.ref d), some (.ref y), some (.ref t), some (.int (prd L)), v5, some (.ref n), none, none, none, none, none, none, none, none, none, none] ∧ B.length ≤ 2 ∧ (∀ n ∈ B, sm 105 n) ∧ (n ≠ d ∧ n ≠ c) ∧ n ≠ y ∧ Dl H' d c ∧ H' y = some (.lst (A.map V.int)) ∧ H' t = some (.tup (L.map V.int)) ∧ H' n = some (.lst (B.map V.int))) (fun Z hZ => ?_) ?_
  · refine ⟨_, rfl, d, c, 3, rfl, D4, by decide, by decide, fun r0 H5 z0 z1 D5 k5 => ⟨_, _, rfl, rfl, _, rfl, ?_⟩⟩
    have f5 := k5 _ _ nd.1 nd.2 f4
    have hy5 := k5 _ _ yd1 yd2 hy4
    have ht5 := Kp.tl D4 k5 ht4
    by_cases e : r0 > 0
    · refine iteP (decide_eq_true e) ⟨_, rfl, n, rfl, ⟨_, SqL.of f5⟩, fun n2 hn2 => lc_list (xs := B.map V.int) (fun j H' => Same H5 H' ∧ H' n2 = some (.lst (((B.take j).filter fun x => !fit L x).map V.int))) ⟨Same.new hn2, upd_same⟩ (fun j H' _ p => SqL.of (p.1 _ _ f5)) ?_ ?_⟩
      · rintro j x H6 hx ⟨p1, p2⟩
        obtain ⟨z, hz, rfl⟩ := map_at hx
        have eb : B.take (j + 1) = B.take j ++ [z] := take_at hz
        have l6 := hL.sml.len Lm
        refine ⟨rfl, _, rfl, _, rfl, t, L, z, rfl, .inr (SqT.of (p1 _ _ ht5)), (fun q hq => by have := hL.sml.lot.ge q hq; omega), by omega, fun H7 u3 => ⟨_, rfl, ?_⟩⟩
        by_cases y9 : fit L z = true
        · refine iteN (by rw [y9]; decide) ⟨p1.trans u3, ?_⟩
          rw [u3 _ _ p2, eb, List.filter_append, filt_no (by rw [y9]; decide), List.append_nil]
        · have y8 : (!fit L z) = true := by simpa using y9
          refine iteP y8 ⟨_, rfl, _, u3 _ _ p2, len_lt ?_, Same.upd (p1.trans u3) hn2, ?_⟩
          · rw [List.length_map]
            have := List.length_filter_le (fun x => !fit L x) (B.take j)
            have := List.length_take_le' j B
            omega
          · rw [upd_same, eb, List.filter_append, filt_yes (by exact y8), List.map_append]
            rfl
      · rintro H6 ⟨p1, p2⟩
        rw [List.length_map, List.take_length] at p2
        refine hZ _ _ ⟨n2, _, rfl, Nat.le_trans (List.length_filter_le _ _) lB, fun x hx => sB x (List.mem_filter.mp hx).1, D5.ne hn2, fun e => ?_, D5.same p1, p1 _ _ hy5, p1 _ _ ht5, p2⟩
        rw [e, hy5] at hn2
        cases hn2
    · exact iteN (by simpa using e) (hZ _ _ ⟨n, B, rfl, lB, sB, nd, ny, D5, hy5, ht5, f5⟩)
  clear f4 hy4 ht4 D4 H4 ny nd n lB sB B H3 m
  rintro σ H0' ⟨n, B, rfl, lB, sB, nd, ny, D0, hy1, ht1, hn1⟩
  -- those that are due
  refine ⟨_, rfl, t, L, rfl, SqT.of ht1, hL.sml, fun l ts Ms k H1 s1 hl0 hl hT hs pe hk => ?_⟩
  have lMs : 0 < Ms.length ∧ Ms.length ≤ 1024 := by
    rw [pe.length_eq]
    obtain ⟨r9, e9, _⟩ := cl_head L k
    exact ⟨by rw [e9]; simp, hL.sml.few k⟩
  have lts := hT.len
  have hy1 := s1 _ _ hy1
  have ht1 := s1 _ _ ht1
  have hn1 := s1 _ _ hn1
  have D1 := D0.same s1
  have ld : l ≠ d ∧ l ≠ c := D0.ne hl0
  clear hl0 s1
  refine ⟨l, rfl, ⟨_, SqL.of hl⟩, fun u hu0 => lc_list (xs := ts.map V.ref) (fun j H' => Same H1 H' ∧ ∃ us : List Addr, H' u = some (.lst (us.map V.ref)) ∧ TL H' us ((Ms.take j).filter (freeB B))) ⟨Same.new hu0, [], upd_same, trivial⟩ (fun j H' _ p => SqL.of (p.1 _ _ hl)) ?_ ?_⟩
  · rintro j x H2 hx ⟨p1, us, p2, p3⟩
    obtain ⟨t9, ht9, rfl⟩ := tyAt_map hx
    obtain ⟨M, hM, hT9⟩ := hT.at ht9
    have hT2 := p1 _ _ hT9
    have hMc := pe.mem_iff.mp (List.mem_of_getElem? hM)
    have hM3 := (cl_lot hMc).1.ge
    have lM := hL.sml.len hMc
    have hn2 := p1 _ _ hn1
    have et : Ms.take (j + 1) = Ms.take j ++ [M] := take_at hM
    have ll : ((Ms.take j).filter (freeB B)).length ≤ 1024 := by
      have := List.length_filter_le (freeB B) (Ms.take j)
      have := List.length_take_le' j Ms
      omega
    have lu := p3.len
    refine ⟨rfl, _, rfl, n, rfl, ⟨_, SqL.of hn2⟩, fun D3 hD3 => lc_list (xs := B.map V.int) (fun m H' => Same H2 H' ∧ H' D3 = some (.lst (((B.take m).filter fun x => fit M x).map V.int))) ⟨Same.new hD3, upd_same⟩ (fun m H' _ p => SqL.of (p.1 _ _ hn2)) ?_ ?_⟩
    · rintro m x H3 hx3 ⟨u1, u2⟩
      obtain ⟨z, hz, rfl⟩ := map_at hx3
      have eb : B.take (m + 1) = B.take m ++ [z] := take_at hz
      refine ⟨rfl, _, rfl, _, rfl, t9, M, z, rfl, .inr (SqT.of (u1 _ _ hT2)), (fun q hq => by have := hM3 q hq; omega), by omega, fun H4 u3 => ⟨_, rfl, ?_⟩⟩
      by_cases y9 : fit M z = true
      · refine iteP y9 ⟨_, rfl, _, u3 _ _ u2, len_lt ?_, Same.upd (u1.trans u3) hD3, ?_⟩
        · rw [List.length_map]
          have := List.length_filter_le (fun x => fit M x) (B.take m)
          have := List.length_take_le' m B
          omega
        · rw [upd_same, eb, List.filter_append, filt_yes (by exact y9), List.map_append]
          rfl
      · refine iteN y9 ⟨u1.trans u3, ?_⟩
        rw [u3 _ _ u2, eb, List.filter_append, filt_no (by exact y9), List.append_nil]
    rintro H3 ⟨u1, u2⟩
    rw [List.length_map, List.take_length] at u2
    refine ⟨(by show 0 ≤ sizeLine; decide), fun n0 hn0 => eqL (ms := []) (SqL.of (Same.new hn0 _ _ u2)) (SqL.of upd_same) ?_⟩
    rw [free_filter]
    refine ⟨_, rfl, ?_⟩
    have u1 := u1.trans (Same.new hn0 (o := .lst []))
    generalize upd H3 n0 (.lst []) = H4 at u1
    by_cases y9 : freeB B M = true
    · refine iteP y9 ⟨_, rfl, _, u1 _ _ p2, len_lt (by rw [List.length_map]; omega), Same.upd (p1.trans u1) hu0, us ++ [t9], ?_, ?_⟩
      · rw [upd_same, List.map_append]
        rfl
      · rw [et, List.filter_append, filt_yes (by exact y9)]
        exact TL.upd (u1 _ _ p2) ((p3.same u1).app (TL.one (u1 _ _ hT2)))
    · refine iteN y9 ⟨p1.trans u1, us, u1 _ _ p2, ?_⟩
      rw [et, List.filter_append, filt_no (by exact y9), List.append_nil]
      exact p3.same u1
  rintro H2 ⟨p1, us, p2, p3⟩
  rw [List.length_map, lts, List.take_length] at p3
  have R : S6 d c y t l n u A L B ts us Ms H2 := ⟨D1.same p1, p1 _ _ hy1, p1 _ _ ht1, p1 _ _ hl, hT.same p1, p1 _ _ hn1, p2, p3, ⟨yd1, yd2⟩, ld, nd, D1.ne hu0⟩
  clear p1 p2 p3 hu0 hl hT hn1 hy1 ht1 D1 H1
  dsimp only [gName]
  have due_all : ∀ M ∈ Ms.filter (freeB B), M.length ≤ 6 ∧ ∀ n ∈ M, n.natAbs.log2 < 1920 := fun M hM => by
    have hMc := pe.mem_iff.mp (List.mem_filter.mp hM).1
    exact ⟨hL.sml.len hMc, fun n hn => log_sm (hL.sml.sms hMc n hn) (by decide) (by decide)⟩
  have due_len : (Ms.filter (freeB B)).length ≤ 1024 := Nat.le_trans (List.length_filter_le _ _) lMs.2
  have pd : (Ms.filter (freeB B)).Perm ((cl L k).filter (freeB B)) := pe.filter _
  have vA : ∀ H', S6 d c y t l n u A L B ts us Ms H' → ValA K H' (.ref y) (some (A.map V.int)) := fun H' S => O_val8 (b := true) S.hy (by omega) fun n hn => sm_mono (sA n hn) (by decide)
  have vB : ∀ H', S6 d c y t l n u A L B ts us Ms H' → ValA K H' (.ref n) (some (B.map V.int)) := fun H' S => O_val8 (b := true) S.hn (by omega) fun n hn => sm_mono (sB n hn) (by decide)
  obtain ⟨bq, hbq⟩ : ∃ o, o = (bst (Ms.filter (freeB B)) (prd L).toNat).1 := ⟨_, rfl⟩
  obtain ⟨r9, z9, hr9, hno, hyes⟩ : ∃ (r9 : Str) (z9 : V), (∀ (v x : V) (H' : Hp), ValA K H' v (some (A.map V.int)) → ValA K H' x (some (B.map V.int)) → AskQ K H' v x r9 z9) ∧ (Ms.filter (freeB B) = [] → r9 = "refused" ∧ z9 = .int 1) ∧ (Ms.filter (freeB B) ≠ [] → r9 = "told" ∧ z9 = qV bq) := by
    by_cases e : Ms.filter (freeB B) = []
    · have e2 : (cl L k).filter (freeB B) = [] := List.Perm.eq_nil (by rw [e] at pd; exact pd.symm)
      exact ⟨"refused", .int 1, fun v x H' h1 h2 => ⟨_, _, h1, h2, .inr (.inr ⟨A, B, rfl, rfl, .inr ⟨L, k, hL, hk, .inl ⟨e2, rfl, rfl⟩⟩⟩)⟩, fun _ => ⟨rfl, rfl⟩, fun z => absurd e z⟩
    · have e2 : (cl L k).filter (freeB B) ≠ [] := fun z => e (List.Perm.eq_nil (by rw [z] at pd; exact pd))
      exact ⟨"told", qV bq, fun v x H' h1 h2 => ⟨_, _, h1, h2, .inr (.inr ⟨A, B, rfl, rfl, .inr ⟨L, k, hL, hk, .inr ⟨e2, rfl, by rw [hbq, bst_perm pd]⟩⟩⟩)⟩, fun z => absurd z e, fun _ => ⟨rfl, rfl⟩⟩
  refine ⟨_, rfl, _, rfl, .ref y, .ref n, r9, z9, rfl, hr9 _ _ _ (vA _ R) (vB _ R), fun p H3 s3 hp => ?_⟩
  have R3 := R.same s3
  dsimp only [gName]
  clear R s3
  refine sq_cut (fun σ H' => ∃ v8 v9 v10 v11 : Option V, σ = [some (.ref sc), some (.ref d), some (.ref y), some (.ref t), some (.int (prd L)), v5, some (.ref n), some (.ref u), v8, v9, v10, v11, none, none, none, none, none] ∧ S6 d c y t l n u A L B ts us Ms H') (fun Z hZ => ?_) ?_
  · refine ⟨_, rfl, (by show 0 ≤ sizeLine; decide), fun n0 hn0 => ?_⟩
    have R4 := R3.same (Same.new hn0 (o := .lst []))
    have hp4 := Same.new hn0 (o := .lst []) _ _ hp
    refine ⟨lotsD true (Ms.filter (freeB B)), lotsD true [], .lst (SqL.of R4.hu) (TL.dp R4.hU), .lst (SqL.of upd_same) .nil, shaped_lots true _, shaped_lots true _, ?_⟩
    rw [eqv_lotsL]
    generalize upd H3 n0 (.lst []) = H4 at R4 hp4
    refine ⟨_, rfl, ?_⟩
    by_cases e : Ms.filter (freeB B) = []
    · refine iteP (decide_eq_true e) ?_
      obtain ⟨rfl, rfl⟩ := hno e
      refine ⟨_, rfl, (by show 2 ≤ sizeLine; decide), fun p2 hp2 => ⟨.tuple [.str "refused", .int 1], .tuple [.str "refused", .int 1], note_dp (Same.new hp2 _ _ hp4), note_dp upd_same, by decide +kernel, by decide +kernel, ⟨_, rfl, iteN (by decide +kernel) (hZ _ _ ⟨_, _, _, _, rfl, R4.same (Same.new hp2)⟩)⟩⟩⟩
    · refine iteN (by simpa using e) ?_
      obtain ⟨rfl, rfl⟩ := hyes e
      have pp := prd_pos hL.sml.lot.ge
      refine ⟨_, rfl, _, rfl, u, prd L, us, _, rfl, R4.hu, R4.hU, by omega, hL.sml.sml, due_len, fun M hM => ⟨(due_all M hM).1, fun q9 hq9 => by have := (cl_lot (pe.mem_iff.mp (List.mem_filter.mp hM).1)).1.ge q9 hq9; omega⟩, fun H5 s5 => ?_⟩
      have R5 := R4.same s5
      have hp5 := s5 _ _ hp4
      rw [← hbq]
      clear hno hyes R4 hp4 s5 hp R3 hn0
      have bq_lt : ∀ b, bq = some b → leftQ (Ms.filter (freeB B)) b < (Ms.filter (freeB B)).length ∧ 0 ≤ b ∧ b < ((prd L).toNat : Int) := fun b hb => bst_lt _ _ _ (by rw [← hbq, hb])
      have rp : RpO (toldD bq) := rpO fun b hb => by
        obtain ⟨_, h1, h2⟩ := bq_lt b hb
        exact log_sm (sm_of h1 (Int.lt_of_lt_of_le (show b < 2001 by have := hL.sml.sml; omega) (by decide)) : sm 100 b) (by decide) (by decide)
      dsimp only [gName]
      refine ⟨_, rfl, .inr (.inr ⟨p, toldD bq, rfl, told_dp hp5, rp.a, rp.b, rp.c, rp.d, ?_⟩)⟩
      refine ⟨_, rfl, (by show 2 ≤ sizeLine; decide), fun p2 hp2 => .inr (.inr ⟨p2, toldD bq, rfl, told_dp upd_same, rp.a, rp.b, rp.c, rp.d, ?_⟩)⟩
      refine ⟨rfl, _, rfl, iteN (by simp) ?_⟩
      have R6 := R5.same (Same.new hp2 (o := .tup [.str "told", qV bq]))
      have hp6 := Same.new hp2 (o := .tup [.str "told", qV bq]) _ _ hp5
      generalize upd H5 p2 (.tup [.str "told", qV bq]) = H6 at R6 hp6
      clear R5 hp5 hp2
      refine ⟨_, rfl, y, _, rfl, .inl ⟨SqL.of R6.hy, fun y2 hy2 => ?_⟩⟩
      have R7 := R6.same (Same.new hy2 (o := .tup (A.map V.int)))
      have hp7 := Same.new hy2 (o := .tup (A.map V.int)) _ _ hp6
      have y2e : upd H6 y2 (.tup (A.map V.int)) y2 = some (SqO false A) := upd_same
      generalize upd H6 y2 (.tup (A.map V.int)) = H7 at R7 y2e hp7
      refine ⟨_, rfl, n, _, rfl, .inl ⟨SqL.of R7.hn, fun n2 hn2 => ?_⟩⟩
      have R8 := R7.same (Same.new hn2 (o := .tup (B.map V.int)))
      have hp8 := Same.new hn2 (o := .tup (B.map V.int)) _ _ hp7
      have n2e : upd H7 n2 (.tup (B.map V.int)) n2 = some (SqO false B) := upd_same
      have y2e := Same.new hn2 (o := .tup (B.map V.int)) _ _ y2e
      generalize upd H7 n2 (.tup (B.map V.int)) = H8 at R8 n2e y2e hp8
      clear R6 R7 hp6 hp7 hy2 hn2
      refine ⟨.ref y2, .ref n2, "told", qV bq, rfl, hr9 _ _ _ (O_val8 (b := false) y2e (by omega) fun n hn => sm_mono (sA n hn) (by decide)) (O_val8 (b := false) n2e (by omega) fun n hn => sm_mono (sB n hn) (by decide)), fun p3 H9 s9 hp3 => ?_⟩
      have R9 := R8.same s9
      have hp9 := s9 _ _ hp8
      refine .inr (.inr ⟨p3, toldD bq, rfl, told_dp hp3, rp.a, rp.b, rp.c, rp.d, ?_⟩)
      refine ⟨_, rfl, .inr (.inr ⟨p, toldD bq, rfl, told_dp hp9, rp.a, rp.b, rp.c, rp.d, ?_⟩)⟩
      refine ⟨rfl, _, rfl, iteN (by simp) ?_⟩
      clear R8 hp8 y2e n2e s9 hp3 hp9
      have nd_due : (Ms.filter (freeB B)).Nodup := pd.nodup_iff.mpr ((cl_nodup L k).sublist List.filter_sublist)
      have lU := R9.hU.len
      have dueL : ∀ M ∈ Ms.filter (freeB B), Lot M := fun M hM => (cl_lot (pe.mem_iff.mp (List.mem_filter.mp hM).1)).1
      have one := bst_none_iff nd_due e dueL (P := (prd L).toNat) (by omega) (fun M hM q9 hq9 => by
        obtain ⟨p9, hp9, z9⟩ := (cl_lot (pe.mem_iff.mp (List.mem_filter.mp hM).1)).2.2 q9 hq9
        have : (((prd L).toNat : Nat) : Int) = prd L := by omega
        rw [this]
        exact Int.dvd_trans z9 (dvd_prd hp9))
      rw [← hbq] at one
      have same1 : decide (qV bq = V.non) = decide ((((us.map V.ref).length : Nat) : Int) = 1) := by
        rw [Bool.eq_iff_iff, decide_eq_true_eq, decide_eq_true_eq, List.length_map, lU]
        constructor
        · intro z
          have : bq = none := by
            cases bq with
            | none => rfl
            | some b => cases z
          have := one.mp this
          omega
        · intro z
          rw [one.mpr (by omega)]
          rfl
      refine ⟨_, rfl, rfl, _, rfl, u, _, rfl, .inl (SqL.of R9.hu), rfl, rfl, _, rfl, iteN (by rw [same1]; simp) ?_⟩
      dsimp only [tNext]
      clear same1 one
      cases bq with
      | none => exact ⟨_, rfl, rfl, _, rfl, iteN (by simp [qV]) (hZ _ _ ⟨_, _, _, _, rfl, R9⟩)⟩
      | some b =>
        obtain ⟨b1, b2, b3⟩ := bq_lt b rfl
        have bs : sm 100 b := sm_of b2 (Int.lt_of_lt_of_le (show b < 2001 by have := hL.sml.sml; omega) (by decide))
        have np : ¬ pln b := fun z => by
          have := left_pln (fun M hM => (dueL M hM).ge) z (Ls := Ms.filter (freeB B))
          omega
        refine ⟨_, rfl, rfl, _, rfl, iteP (by simp [qV]) ?_⟩
        -- what is possible once it is told
        obtain ⟨R, hR, mem⟩ := cl_next hL hk np
        refine ⟨_, rfl, _, rfl, (by show 1 ≤ sizeLine; decide), fun e0 he0 => ?_⟩
        have R10 := R9.same (Same.new he0 (o := .lst [qV (some b)]))
        have e0e : upd H9 e0 (.lst [qV (some b)]) e0 = some (.lst [.int b]) := upd_same
        generalize upd H9 e0 (.lst [qV (some b)]) = G0 at R10 e0e
        refine ⟨y, e0, A.map V.int, [.int b], rfl, rfl, R10.hy, e0e, (by rw [List.length_map]; show A.length + 1 ≤ sizeLine; exact Nat.le_trans (show A.length + 1 ≤ 10 by omega) (by decide)), fun a1 ha1 => ?_⟩
        have R11 := R10.same (Same.new ha1 (o := .lst (A.map V.int ++ [.int b])))
        have a1e : upd G0 a1 (.lst (A.map V.int ++ [.int b])) a1 = some (SqO true (A ++ [b])) := by
          rw [upd_same]
          show _ = some (HO.lst ((A ++ [b]).map V.int))
          rw [List.map_append]
          rfl
        generalize upd G0 a1 (.lst (A.map V.int ++ [.int b])) = G1 at R11 a1e
        refine ⟨_, rfl, .ref a1, .ref n, rfl, Tel.mk (O_val8 (b := true) a1e (by rw [List.length_append, List.length_singleton]; omega) fun x hx => ?_) (vB _ R11) fun o ho => ?_⟩
        · rcases List.mem_append.mp hx with z | z
          · exact sm_mono (sA x z) (by decide)
          · rw [List.mem_singleton.mp z]
            exact sm_mono bs (by decide)
        rw [hR.un o ho]
        refine ⟨hR.sml, fun p1 us1 M1 k1 G2 s2 hp1 hU1 hs1 pe1 hk1 => ?_⟩
        have R12 := R11.same s2
        clear R9 R10 R11 s2 ha1 he0 e0e a1e ho o
        refine ⟨_, rfl, _, rfl, _, rfl, (by show 1 ≤ sizeLine; decide), fun e1 he1 => ?_⟩
        have q1 := Same.new he1 (o := .lst [qV (some b)])
        have R13 := R12.same q1
        have e1e : upd G2 e1 (.lst [qV (some b)]) e1 = some (.lst [.int b]) := upd_same
        have hp1 := q1 _ _ hp1
        have hU1 := hU1.same q1
        generalize upd G2 e1 (.lst [qV (some b)]) = G3 at R13 e1e hp1 hU1
        clear q1
        refine ⟨n, e1, B.map V.int, [.int b], rfl, rfl, R13.hn, e1e, (by rw [List.length_map]; show B.length + 1 ≤ sizeLine; exact Nat.le_trans (show B.length + 1 ≤ 10 by omega) (by decide)), fun a2 ha2 => ?_⟩
        have q1 := Same.new ha2 (o := .lst (B.map V.int ++ [.int b]))
        have R14 := R13.same q1
        have hp1 := q1 _ _ hp1
        have hU1 := hU1.same q1
        have a2e : upd G3 a2 (.lst (B.map V.int ++ [.int b])) a2 = some (SqO true (B ++ [b])) := by
          rw [upd_same]
          show _ = some (HO.lst ((B ++ [b]).map V.int))
          rw [List.map_append]
          rfl
        generalize upd G3 a2 (.lst (B.map V.int ++ [.int b])) = G4 at R14 a2e hp1 hU1
        clear q1
        refine ⟨.ref y, .ref a2, rfl, Tel.mk (vA _ R14) (O_val8 (b := true) a2e (by rw [List.length_append, List.length_singleton]; omega) fun x hx => ?_) fun o ho => ?_⟩
        · rcases List.mem_append.mp hx with z | z
          · exact sm_mono (sB x z) (by decide)
          · rw [List.mem_singleton.mp z]
            exact sm_mono bs (by decide)
        rw [hL.un o ho]
        refine ⟨hL.sml, fun p2 us2 M2 k2 G5 s5 hp2 hU2 hs2 pe2 hk2 => ?_⟩
        rw [cl_same hk2 hk] at pe2
        have R15 := R14.same s5
        have hp1 := s5 _ _ hp1
        have hU1 := hU1.same s5
        clear R12 R13 R14 s5 he1 ha2 e1e a2e ho o
        obtain ⟨sp1, sp2, sp3⟩ := due_split pd (mem k1 hk1) pe1 pe2
        have n1 : M1 ≠ [] := fun z => by
          rw [z] at sp2
          unfold leftQ at b1
          have : (0 : Nat) = manyQ (Ms.filter (freeB B)) b := sp2
          omega
        have n2 : M2 ≠ [] := fun z => by
          rw [z] at sp3
          unfold leftQ at b1
          have : (0 : Nat) = (Ms.filter (freeB B)).length - manyQ (Ms.filter (freeB B)) b := sp3
          omega
        have l1 : us1.length ≤ 1024 := by
          have := sp1.length_eq
          rw [List.length_append] at this
          have := hU1.len
          omega
        have l2 : us2.length ≤ 1024 := by
          have := sp1.length_eq
          rw [List.length_append] at this
          have := hU2.len
          omega
        refine ⟨_, _, rfl, ?_⟩
        dsimp only
        refine ⟨_, rfl, (by show 0 ≤ sizeLine; decide), fun t0 ht0 => ⟨lotsD false M1, lotsD false [], .tup (SqT.of (Same.new ht0 _ _ hp1)) (TL.dp (hU1.same (Same.new ht0))), .tup (SqT.of upd_same) .nil, shaped_lots false _, shaped_lots false _, ?_⟩⟩
        rw [eqv_lotsF]
        refine ⟨_, rfl, iteN (by simpa using n1) ?_⟩
        have q1 := Same.new ht0 (o := .tup [])
        have R16 := R15.same q1
        have hp1 := q1 _ _ hp1
        have hU1 := hU1.same q1
        have hp2 := q1 _ _ hp2
        have hU2 := hU2.same q1
        generalize upd G5 t0 (.tup []) = G6 at R16 hp1 hU1 hp2 hU2
        clear q1 R15 ht0
        refine ⟨_, rfl, (by show 0 ≤ sizeLine; decide), fun t1 ht1 => ⟨lotsD false M2, lotsD false [], .tup (SqT.of (Same.new ht1 _ _ hp2)) (TL.dp (hU2.same (Same.new ht1))), .tup (SqT.of upd_same) .nil, shaped_lots false _, shaped_lots false _, ?_⟩⟩
        rw [eqv_lotsF]
        refine ⟨_, rfl, iteN (by simpa using n2) ?_⟩
        have q1 := Same.new ht1 (o := .tup [])
        have R17 := R16.same q1
        have hp1 := q1 _ _ hp1
        have hU1 := hU1.same q1
        have hp2 := q1 _ _ hp2
        have hU2 := hU2.same q1
        generalize upd G6 t1 (.tup []) = G7 at R17 hp1 hU1 hp2 hU2
        clear q1 R16 ht1
        refine ⟨_, rfl, _, rfl, p1, p2, us1.map V.ref, us2.map V.ref, rfl, rfl, SqT.of hp1, SqT.of hp2, (by rw [List.length_map, List.length_map]; exact Nat.le_trans (show us1.length + us2.length ≤ 2048 by omega) (by decide)), fun p9 G8 s8 hS8 => ?_⟩
        dsimp only [tNil]
        refine sortTT (Ls := M1 ++ M2) (ts := us1 ++ us2) (by rw [List.map_append]; exact hS8) ((hU1.same s8).app (hU2.same s8)) ?_ fun us3 M3 p3 G9 s9 hp3n hp3 hT3 hs3 pe3 => ?_
        · rcases lexS_head hs1 with z | ⟨r, z⟩
          · refine .inl fun M hM => ?_
            rcases List.mem_append.mp hM with y | y
            · exact z M y
            · intro e9
              have := (List.mem_filter.mp (pe2.mem_iff.mp y)).2
              rw [freeB_app, e9] at this
              simp [fit] at this
          · exact .inr ⟨r ++ M2, by rw [z]; rfl⟩
        have e3 : M3 = Ms.filter (freeB B) := lexS_eq (pe3.trans sp1) hs3 (hs.filter _)
        subst e3
        have R18 := (R17.same s8).same s9
        refine ⟨_, rfl, lotsD true (Ms.filter (freeB B)), lotsD true (Ms.filter (freeB B)), .lst (SqL.of hp3) (TL.dp hT3), .lst (SqL.of R18.hu) (TL.dp R18.hU), shaped_lots true _, shaped_lots true _, ?_⟩
        rw [eqv_lotsL]
        exact ⟨_, rfl, iteN (by simp) (hZ _ _ ⟨_, _, _, _, rfl, R18⟩)⟩
  clear R3 hp hr9 hno hyes
  rintro σ H5 ⟨v8, v9, v10, v11, rfl, R⟩
  -- counts 0 and 1 alone, and what is none
  refine ⟨_, rfl, d, c, 3, rfl, R.dl, by decide, by decide, fun m H3 m0 m1 D3 k3 => ⟨m, rfl, (by omega), (by omega), fun e14 he0 => ?_⟩⟩
  have R3 := R.kp D3 k3
  have ed := R3.dl.ne he0
  refine lc_range (lo := 0) (n := m.toNat) (fun j H' => ∃ Z9 : List Int, Z9.length ≤ j ∧ (∀ n ∈ Z9, pln n) ∧ Dl H' d c ∧ Kp d c H3 H' ∧ H' e14 = some (.lst (Z9.map V.int))) ⟨[], Nat.zero_le _, fun n hn => (by simp at hn), R3.dl.same (Same.new he0), Kp.of (Same.new he0), upd_same⟩ ?_ ?_
  · rintro j H4 hj ⟨Z9, lZ, pZ, D4, k4, f4⟩
    refine ⟨rfl, _, rfl, d, c, 2, rfl, D4, by decide, by decide, fun z H5 z0 z1 D5 k5 => ⟨_, k5 _ _ ed.1 ed.2 f4, len_lt (by rw [List.length_map]; omega), Z9 ++ [z], by rw [List.length_append, List.length_singleton]; omega, fun x hx => ?_, D5.upd ed.1 ed.2, (k4.trans k5).updn he0, ?_⟩⟩
    · rcases List.mem_append.mp hx with e | e
      · exact pZ x e
      · rw [List.mem_singleton] at e
        subst e
        show x = 0 ∨ x = 1
        omega
    · rw [upd_same, List.map_append]
      rfl
  rintro H4 ⟨Z9, lZ, pZ, D4, k4, f4⟩
  have R4 := R3.kp D4 k4
  have vZ : ∀ H', H' e14 = some (.lst (Z9.map V.int)) → ValA K H' (.ref e14) (some (Z9.map V.int)) := fun H' h => O_val8 (b := true) h (by omega) fun n hn => by
    rcases pZ n hn with e | e <;> (rw [e]; decide)
  have iZ : ∀ ns : List Int, isIs (some (ns.map V.int)) = true := fun ns => by
    show (ns.map V.int).all isI = true
    rw [List.all_map, List.all_eq_true]
    exact fun _ _ => rfl
  clear k4 k3 D4 D3 R3 he0 R
  dsimp only [gName]
  refine ⟨_, rfl, _, rfl, .ref e14, .ref n, "refused", .int 0, rfl, ⟨_, _, vZ _ f4, vB _ R4, .inr (.inr ⟨Z9, B, rfl, rfl, .inl ⟨pZ, rfl, rfl⟩⟩)⟩, fun p1 H5 s5 hp1 => ?_⟩
  refine ⟨(by show 2 ≤ sizeLine; decide), fun p2 hp2 => ⟨.tuple [.str "refused", .int 0], .tuple [.str "refused", .int 0], note_dp (Same.new hp2 _ _ hp1), note_dp upd_same, by decide +kernel, by decide +kernel, ⟨_, rfl, iteN (by decide +kernel) ?_⟩⟩⟩
  have s6 := s5.trans (Same.new hp2 (o := .tup [.str "refused", .int 0]))
  have R5 := R4.same s6
  have f5 := s6 _ _ f4
  generalize upd H5 p2 (.tup [.str "refused", .int 0]) = H6 at R5 f5
  clear R4 f4 s5 s6 hp1 hp2
  refine ⟨_, rfl, _, rfl, (by show 1 ≤ sizeLine; decide), fun a1 ha1 => ⟨(by show 2 ≤ sizeLine; decide), fun a2 ha2 => ⟨(by show 2 ≤ sizeLine; decide), fun a3 ha3 => ?_⟩⟩⟩
  have s1 : Same H6 (upd H6 a1 (.lst [.int 0])) := Same.new ha1
  have s2 := s1.trans (Same.new ha2 (o := .lst [.int 1, .int 5]))
  have s3 := s2.trans (Same.new ha3 (o := .lst [.ref a1, .ref a2]))
  have a1d := R5.dl.ne ha1
  have a2d := (R5.same s1).dl.ne ha2
  have a3d := (R5.same s2).dl.ne ha3
  have a1e : upd (upd (upd H6 a1 (.lst [.int 0])) a2 (.lst [.int 1, .int 5])) a3 (.lst [.ref a1, .ref a2]) a1 = some (SqO true [0]) := Same.new ha3 _ _ (Same.new ha2 _ _ upd_same)
  have a2e : upd (upd (upd H6 a1 (.lst [.int 0])) a2 (.lst [.int 1, .int 5])) a3 (.lst [.ref a1, .ref a2]) a2 = some (SqO true [1, 5]) := Same.new ha3 _ _ upd_same
  have a3e : upd (upd (upd H6 a1 (.lst [.int 0])) a2 (.lst [.int 1, .int 5])) a3 (.lst [.ref a1, .ref a2]) a3 = some (.lst [.ref a1, .ref a2]) := upd_same
  have R6 := R5.same s3
  have f6 := s3 _ _ f5
  generalize upd (upd (upd H6 a1 (.lst [.int 0])) a2 (.lst [.int 1, .int 5])) a3 (.lst [.ref a1, .ref a2]) = H7 at a1e a2e a3e R6 f6
  clear s1 s2 s3 ha1 ha2 ha3 R5 f5
  refine ⟨d, c, a3, _, rfl, R6.dl, a3d.1, a3d.2, SqL.of a3e, by show 0 < 2; decide, by show 2 ≤ 1000; decide, fun j x H8 hx D8 k8 => ?_⟩
  have R8 := R6.kp D8 k8
  have f8 := k8 _ _ ed.1 ed.2 f6
  have a1f := k8 _ _ a1d.1 a1d.2 a1e
  have a2f := k8 _ _ a2d.1 a2d.2 a2e
  have hx2 := List.mem_of_getElem? hx
  obtain ⟨B2, hB2⟩ : ∃ B2 : List Int, ValA K H8 x (some (B2.map V.int)) := by
    simp only [List.mem_cons, List.not_mem_nil, or_false] at hx2
    rcases hx2 with rfl | rfl
    · exact ⟨_, O_val8 a1f (by decide) (by decide)⟩
    · exact ⟨_, O_val8 a2f (by decide) (by decide)⟩
  refine ⟨.ref e14, x, "refused", .int 0, rfl, ⟨_, _, vZ _ f8, hB2, .inr (.inr ⟨Z9, B2, rfl, rfl, .inl ⟨pZ, rfl, rfl⟩⟩)⟩, fun p1 H9 s9 hp1 => ?_⟩
  refine ⟨(by show 2 ≤ sizeLine; decide), fun p2 hp2 => ⟨.tuple [.str "refused", .int 0], .tuple [.str "refused", .int 0], note_dp (Same.new hp2 _ _ hp1), note_dp upd_same, by decide +kernel, by decide +kernel, ⟨_, rfl, iteN (by decide +kernel) ?_⟩⟩⟩
  have R9 := R8.same (s9.trans (Same.new hp2 (o := .tup [.str "refused", .int 0])))
  generalize upd H9 p2 (.tup [.str "refused", .int 0]) = H6 at R9
  clear R6 f6 a1e a2e a3e a1f a2f R8 f8 k8 D8 hB2 hx2 hx s9 hp1 hp2
  dsimp only [tNext]
  refine ⟨_, rfl, (by show 1 ≤ sizeLine; decide), fun a1 ha1 => ⟨(by show 1 ≤ sizeLine; decide), fun a2 ha2 => fun a4 ha4 => ⟨(by show 5 ≤ sizeLine; decide), fun a3 ha3 => ?_⟩⟩⟩
  have s1 : Same H6 (upd H6 a1 (.tup [.bl true])) := Same.new ha1
  have s2 := s1.trans (Same.new ha2 (o := .lst [.str "3"]))
  have s4 := s2.trans (Same.new ha4 (o := .dK []))
  have s3 := s4.trans (Same.new ha3 (o := .lst [.non, .ref a1, .ref a2, .ref a4, .str "3"]))
  have a1d := R9.dl.ne ha1
  have a2d := (R9.same s1).dl.ne ha2
  have a4d := (R9.same s2).dl.ne ha4
  have a3d := (R9.same s4).dl.ne ha3
  have a1e : (upd (upd (upd (upd H6 a1 (.tup [.bl true])) a2 (.lst [.str "3"])) a4 (.dK [])) a3 (.lst [.non, .ref a1, .ref a2, .ref a4, .str "3"])) a1 = some (.tup [.bl true]) := Same.new ha3 _ _ (Same.new ha4 _ _ (Same.new ha2 _ _ upd_same))
  have a2e : (upd (upd (upd (upd H6 a1 (.tup [.bl true])) a2 (.lst [.str "3"])) a4 (.dK [])) a3 (.lst [.non, .ref a1, .ref a2, .ref a4, .str "3"])) a2 = some (.lst [.str "3"]) := Same.new ha3 _ _ (Same.new ha4 _ _ upd_same)
  have a4e : (upd (upd (upd (upd H6 a1 (.tup [.bl true])) a2 (.lst [.str "3"])) a4 (.dK [])) a3 (.lst [.non, .ref a1, .ref a2, .ref a4, .str "3"])) a4 = some (.dK []) := Same.new ha3 _ _ upd_same
  have a3e : (upd (upd (upd (upd H6 a1 (.tup [.bl true])) a2 (.lst [.str "3"])) a4 (.dK [])) a3 (.lst [.non, .ref a1, .ref a2, .ref a4, .str "3"])) a3 = some (.lst [.non, .ref a1, .ref a2, .ref a4, .str "3"]) := upd_same
  have R6 := R9.same s3
  generalize upd (upd (upd (upd H6 a1 (.tup [.bl true])) a2 (.lst [.str "3"])) a4 (.dK [])) a3 (.lst [.non, .ref a1, .ref a2, .ref a4, .str "3"]) = H7 at a1e a2e a3e a4e R6
  clear s1 s2 s3 s4 ha1 ha2 ha3 ha4 R9
  refine ⟨d, c, a3, _, rfl, R6.dl, a3d.1, a3d.2, SqL.of a3e, by show 0 < 5; decide, by show 5 ≤ 1000; decide, fun j x H8 hx D8 k8 => ?_⟩
  have R8 := R6.kp D8 k8
  have a1f := k8 _ _ a1d.1 a1d.2 a1e
  have a2f := k8 _ _ a2d.1 a2d.2 a2e
  have a4f := k8 _ _ a4d.1 a4d.2 a4e
  have hx2 := List.mem_of_getElem? hx
  clear R6 a1e a2e a4e a3e a3d k8 D8 hx
  refine ⟨_, rfl, _, rfl, _, rfl, (by show 2 ≤ sizeLine; decide), fun a5 ha5 => ?_⟩
  have sA5 : Same H8 (upd H8 a5 (.lst [.ref n, .non])) := Same.new ha5
  have R9 := R8.same sA5
  have a5d := R8.dl.ne ha5
  refine ⟨d, c, a5, _, rfl, R9.dl, a5d.1, a5d.2, SqL.of upd_same, by show 0 < 2; decide, by show 2 ≤ 1000; decide, fun j2 x2 H9 hz D9 k9 => ?_⟩
  have R10 := R9.kp D9 k9
  have a1g := k9 _ _ a1d.1 a1d.2 (sA5 _ _ a1f)
  have a2g := k9 _ _ a2d.1 a2d.2 (sA5 _ _ a2f)
  have a4g := k9 _ _ a4d.1 a4d.2 (sA5 _ _ a4f)
  have hz2 := List.mem_of_getElem? hz
  obtain ⟨ms, hms, ims⟩ : ∃ ms, (∀ H', Same H9 H' → ValA K H' x ms) ∧ isIs ms = false := by
    simp only [List.mem_cons, List.not_mem_nil, or_false] at hx2
    rcases hx2 with rfl | rfl | rfl | rfl | rfl
    · exact ⟨_, fun _ _ => bad_non, rfl⟩
    · exact ⟨_, fun _ s => bad_tup (s _ _ a1g) itm_bl, rfl⟩
    · exact ⟨_, fun _ s => bad_lst (s _ _ a2g) itm_str, rfl⟩
    · exact ⟨_, fun _ s => bad_dict (s _ _ a4g), rfl⟩
    · exact ⟨_, fun _ _ => bad_str, rfl⟩
  obtain ⟨xs9, hxs9⟩ : ∃ xs, ValA K H9 x2 xs := by
    simp only [List.mem_cons, List.not_mem_nil, or_false] at hz2
    rcases hz2 with rfl | rfl
    · exact ⟨_, vB _ R10⟩
    · exact ⟨_, bad_non⟩
  refine ⟨x, x2, "question", .int 0, rfl, ⟨ms, xs9, hms _ (Same.refl _), hxs9, .inl ⟨ims, rfl, rfl⟩⟩, fun p1 G1 s9 hp1 => ?_⟩
  refine ⟨(by show 2 ≤ sizeLine; decide), fun p2 hp2 => ⟨.tuple [.str "question", .int 0], .tuple [.str "question", .int 0], note_dp (Same.new hp2 _ _ hp1), note_dp upd_same, by decide +kernel, by decide +kernel, ⟨_, rfl, iteP (by decide +kernel) ?_⟩⟩⟩
  have sF := s9.trans (Same.new hp2 (o := .tup [.str "question", .int 0]))
  have R11 := R10.same sF
  have hx11 := hms _ sF
  generalize upd G1 p2 (.tup [.str "question", .int 0]) = G2 at R11 hx11
  refine ⟨_, rfl, _, rfl, .ref y, x, "question", .int 1, rfl, ⟨_, ms, vA _ R11, hx11, .inr (.inl ⟨iZ A, ims, rfl, rfl⟩)⟩, fun p3 G3 s10 hp3 => ?_⟩
  exact ⟨(by show 2 ≤ sizeLine; decide), fun p4 hp4 => ⟨.tuple [.str "question", .int 1], .tuple [.str "question", .int 1], note_dp (Same.new hp4 _ _ hp3), note_dp upd_same, by decide +kernel, by decide +kernel, q _⟩⟩
end
end KV

/-! the end -/
namespace KV
open PySem PySem.Spec PyProof.Rows L2 He KM
section
variable {P : Program} {w : World} {K : PySem.W.Frag} {mg : Str → Option Value} {base : Heap} {Z : CXT} {k : Nat} {x : Str} {st : Stmt} {f : Addr} {fd : FuncData} {ps ks : List Str} {sp : Sp}
theorem mkCal (F : Fun K x x st f fd) (ok : FnOk P w K mg base Z k f fd ps sp) (g : mg x = some (.ref f))
    (h : ∀ (kV doc pm : Value) (an : Option Addr) (cdv ct : Value) (us : List Value), us.length = ps.length → bindArgs (PySem.W.fnOf x x (defArgs st) (defBody st) (defScope st) .none kV doc pm an cdv ct) ⟨us, []⟩ = pure (ps.zip us)) :
    Cal P w K mg base Z k x ps sp := ⟨_, _, ok, g, F.kp, F.binds h⟩
theorem mkCalK {b : Bool} (F : Fun K x x st f fd) (ok : FnOk P w K mg base Z k f fd ps sp) (g : mg x = some (.ref f))
    (h : ∀ (kV doc pm : Value) (an : Option Addr) (cdv ct : Value) (us : List Value), us.length = ps.length → bindArgs (PySem.W.fnOf x x (defArgs st) (defBody st) (defScope st) .none kV doc pm an cdv ct) ⟨[], ks.zip us⟩ = pure (ps.zip (rv b us))) :
    CalK P w K mg base Z k x ps ks b sp := ⟨_, _, ok, g, F.kp, KB.mk F h⟩
end
def gN : List Str := (["is_integer", "is_sequence", "check_integers", "product_of", "fits_lot", "common_moduli", "lot_of", "_is_plain", "_lot_of_one", "_check_tellings", "_is_told", "possible_lots"] : List Str) ++ (["_coarser_lots", "next_question", "_question_for", "_law_draw", "_law_any", "_law_of", "_law_mixed", "_law_divisor", "_law_inverse", "_law_fitting", "_law_parts", "_law_fits"] : List Str) ++ (["_law_coarser", "_law_small", "_law_asked", "_law_best", "law", "InvalidQuestion", "Refused"] : List Str)
def fN : List Str := ["isinstance", "int", "bool", "tuple", "list", "len", "range", "sorted", "all", "abs", "divmod", "repr", "min", "max", "enumerate", "any"]
def fa45 : List Fa := gN.map Fa.glo ++ fN.map Fa.free
def dI0 : FnD := ⟨("InvalidQuestion", some "__init__"), "__init__", "InvalidQuestion.__init__", PySem.LowX.iA ⟨7, 17, 7, 21⟩ ⟨7, 23, 7, 25⟩, PySem.LowX.iB ⟨8, 8, 8, 12⟩ ⟨8, 8, 8, 15⟩ ⟨8, 18, 8, 20⟩ ⟨8, 8, 8, 20⟩, PySem.LowX.iS⟩
def dI1 : FnD := ⟨("Refused", some "__init__"), "__init__", "Refused.__init__", PySem.LowX.iA ⟨11, 17, 11, 21⟩ ⟨11, 23, 11, 25⟩, PySem.LowX.iB ⟨12, 8, 12, 12⟩ ⟨12, 8, 12, 15⟩ ⟨12, 18, 12, 20⟩ ⟨12, 8, 12, 20⟩, PySem.LowX.iS⟩
def fn45 : List FnD := [dI0, dI1, dTop "is_integer" (top 6), dTop "is_sequence" (top 7), dTop "check_integers" (top 8), dTop "product_of" (top 9), dTop "fits_lot" (top 11), dTop "common_moduli" (top 13), dTop "lot_of" (top 15), dTop "_is_plain" (top 16), dTop "_lot_of_one" (top 17), dTop "_check_tellings" (top 19), dTop "_is_told" (top 20), dTop "possible_lots" (top 21), dTop "_coarser_lots" (top 22), dTop "next_question" (top 24), dTop "_question_for" (top 25), dTop "_law_draw" (top 27), dTop "_law_any" (top 28), dTop "_law_of" (top 29), dTop "_law_mixed" (top 30), dTop "_law_divisor" (top 31), dTop "_law_inverse" (top 32), dTop "_law_fitting" (top 33), dTop "_law_parts" (top 34), dTop "_law_fits" (top 35), dTop "_law_coarser" (top 36), dTop "_law_small" (top 37), dTop "_law_asked" (top 38), dTop "_law_best" (top 39), dTop "law" (top 40)]
def ex45 (K : PySem.W.Frag) : Bool := (lowB K "InvalidQuestion" && (lowB K "Refused" && (decide (PySem.W.exmOne K (.ref (ga K "Refused")) (.ref (ga K "InvalidQuestion")) = some false) && (bltB K "gcd" "math.gcd" && bltB K "lcm" "math.lcm"))))
theorem factG {K : PySem.W.Frag} (c : SaysE fa45 fn45 K) {f : Fa} (hf : f ∈ fa45) : f.ok K = true := by
  have c1 := (ba (show ((fa45.all fun f => f.ok K) && fn45.all fun d => (Fa.code d.at_ d.qual).ok K) = true from congrArg (fun z : Al => z.1) c)).1
  exact List.all_eq_true.mp c1 f hf
theorem mem_g {x : Str} (h : x ∈ gN) : Fa.glo x ∈ fa45 := List.mem_append_left _ (List.mem_map_of_mem h)
theorem mem_f {x : Str} (h : x ∈ fN) : Fa.free x ∈ fa45 := List.mem_append_right _ (List.mem_map_of_mem h)
theorem end45 {P : Program} {w : World} {K : PySem.W.Frag} {h : Heap} {mg : Str → Option Value} {f : Addr} (X : K.In h) (G : h.Ns mainGlobals mg) (hfa : mg ("law" : Str) = some (.ref f)) (c : SaysE fa45 fn45 K) (b : ex45 K = true) :
    ∃ fd : FuncData, (∀ (s : Shared) (u : Value), BindsTo s fd ⟨[u], []⟩ [("_law_script", u)]) ∧ ∀ base : Heap, K.In base → base.Ns mainGlobals mg → FnOkG P w K mg base 9 f fd ["_law_script"] (spLaw K) := by
  obtain ⟨z0, b⟩ := ba b
  obtain ⟨z1, b⟩ := ba b
  obtain ⟨z2, b⟩ := ba b
  obtain ⟨z3, b⟩ := ba b
  have z4 := b
  have g : ∀ x : Str, x ∈ gN → mg x = some (.ref (ga K x)) := fun x hx => glo_ok X G (factG c (mem_g hx))
  have fr : ∀ x : Str, x ∈ fN → mg x = none := fun x hx => free_ok X G (factG c (mem_f hx))
  have B : Bl mg := ⟨fr _ (by decide), fr _ (by decide), fr _ (by decide), fr _ (by decide), fr _ (by decide), fr _ (by decide), fr _ (by decide), fr _ (by decide), fr _ (by decide), fr _ (by decide), fr _ (by decide), fr _ (by decide), fr _ (by decide), fr _ (by decide), fr _ (by decide), fr _ (by decide), bltB_ok X G z3, bltB_ok X G z4⟩
  have T : PySem.LowX.LowTxt K mg "InvalidQuestion" "InvalidQuestion.__init__" (ga K "InvalidQuestion") (ma K (ga K "InvalidQuestion") "__init__") := low_of X G (d := dI0) rfl (saysFn c 0 rfl).1 (saysFn c 0 rfl).2 (factG c (mem_g (by decide))) z0
  have T2 : PySem.LowX.LowTxt K mg "Refused" "Refused.__init__" (ga K "Refused") (ma K (ga K "Refused") "__init__") := low_of X G (d := dI1) rfl (saysFn c 1 rfl).1 (saysFn c 1 rfl).2 (factG c (mem_g (by decide))) z1
  have tx := of_decide_eq_true z2
  obtain ⟨fd6, F6⟩ := saysFun c 2 rfl
  obtain ⟨fd7, F7⟩ := saysFun c 3 rfl
  obtain ⟨fd8, F8⟩ := saysFun c 4 rfl
  obtain ⟨fd9, F9⟩ := saysFun c 5 rfl
  obtain ⟨fd11, F11⟩ := saysFun c 6 rfl
  obtain ⟨fd13, F13⟩ := saysFun c 7 rfl
  obtain ⟨fd15, F15⟩ := saysFun c 8 rfl
  obtain ⟨fd16, F16⟩ := saysFun c 9 rfl
  obtain ⟨fd17, F17⟩ := saysFun c 10 rfl
  obtain ⟨fd19, F19⟩ := saysFun c 11 rfl
  obtain ⟨fd20, F20⟩ := saysFun c 12 rfl
  obtain ⟨fd21, F21⟩ := saysFun c 13 rfl
  obtain ⟨fd22, F22⟩ := saysFun c 14 rfl
  obtain ⟨fd24, F24⟩ := saysFun c 15 rfl
  obtain ⟨fd25, F25⟩ := saysFun c 16 rfl
  obtain ⟨fd27, F27⟩ := saysFun c 17 rfl
  obtain ⟨fd28, F28⟩ := saysFun c 18 rfl
  obtain ⟨fd29, F29⟩ := saysFun c 19 rfl
  obtain ⟨fd30, F30⟩ := saysFun c 20 rfl
  obtain ⟨fd31, F31⟩ := saysFun c 21 rfl
  obtain ⟨fd32, F32⟩ := saysFun c 22 rfl
  obtain ⟨fd33, F33⟩ := saysFun c 23 rfl
  obtain ⟨fd34, F34⟩ := saysFun c 24 rfl
  obtain ⟨fd35, F35⟩ := saysFun c 25 rfl
  obtain ⟨fd36, F36⟩ := saysFun c 26 rfl
  obtain ⟨fd37, F37⟩ := saysFun c 27 rfl
  obtain ⟨fd38, F38⟩ := saysFun c 28 rfl
  obtain ⟨fd39, F39⟩ := saysFun c 29 rfl
  obtain ⟨fd40, F40⟩ := saysFun c 30 rfl
  have e := hfa.symm.trans (g "law" (by decide))
  cases e
  have bL : ∀ (s : Shared) (u : Value), BindsTo s fd40 ⟨[u], []⟩ [("_law_script", u)] := by
    obtain ⟨oc, od, kV, doc, pm, an, cdv, ct, osl, rfl, lk, hcd⟩ := F40.ex
    exact fun s u => .of_eq rfl
  refine ⟨fd40, bL, fun base _ _ => ?_⟩
  have o6 := ok_isI (P := P) (w := w) (mg := mg) (base := base) B F6
  have c6 := mkCal (P := P) (w := w) (base := base) F6 o6 (g _ (by decide)) fun _ _ _ _ _ _ us hl => match us, hl with | [_], _ => rfl
  have o7 := ok_isSeq (P := P) (w := w) (mg := mg) (base := base) B F7
  have c7 := mkCal (P := P) (w := w) (base := base) F7 o7 (g _ (by decide)) fun _ _ _ _ _ _ us hl => match us, hl with | [_], _ => rfl
  have o8 := ok_chk (P := P) (w := w) (mg := mg) (base := base) B T c6 c7 F8
  have c8 := mkCal (P := P) (w := w) (base := base) F8 o8 (g _ (by decide)) fun _ _ _ _ _ _ us hl => match us, hl with | [_, _], _ => rfl
  have o9 := ok_prd (P := P) (w := w) (mg := mg) (base := base) F9
  have c9 := mkCal (P := P) (w := w) (base := base) F9 o9 (g _ (by decide)) fun _ _ _ _ _ _ us hl => match us, hl with | [_], _ => rfl
  have o11 := ok_FL (P := P) (w := w) (mg := mg) (base := base) B F11
  have c11 := mkCal (P := P) (w := w) (base := base) F11 o11 (g _ (by decide)) fun _ _ _ _ _ _ us hl => match us, hl with | [_, _], _ => rfl
  have o13 := ok_com (P := P) (w := w) (mg := mg) (base := base) B F13
  have c13 := mkCal (P := P) (w := w) (base := base) F13 o13 (g _ (by decide)) fun _ _ _ _ _ _ us hl => match us, hl with | [_, _], _ => rfl
  have o16 := ok_plain (P := P) (w := w) (mg := mg) (base := base) F16
  have c16 := mkCal (P := P) (w := w) (base := base) F16 o16 (g _ (by decide)) fun _ _ _ _ _ _ us hl => match us, hl with | [_], _ => rfl
  have o17 := ok_one (P := P) (w := w) (mg := mg) (base := base) B F17
  have c17 := mkCal (P := P) (w := w) (base := base) F17 o17 (g _ (by decide)) fun _ _ _ _ _ _ us hl => match us, hl with | [_], _ => rfl
  have o15 := ok_lotOf (P := P) (w := w) (mg := mg) (base := base) c8 c16 c17 c13 F15
  have c15 := mkCal (P := P) (w := w) (base := base) F15 o15 (g _ (by decide)) fun _ _ _ _ _ _ us hl => match us, hl with | [_], _ => rfl
  have o19 := ok_CT (P := P) (w := w) (mg := mg) (base := base) c8 F19
  have c19 := mkCal (P := P) (w := w) (base := base) F19 o19 (g _ (by decide)) fun _ _ _ _ _ _ us hl => match us, hl with | [_, _], _ => rfl
  have o20 := ok_Td (P := P) (w := w) (mg := mg) (base := base) B c11 F20
  have c20 := mkCal (P := P) (w := w) (base := base) F20 o20 (g _ (by decide)) fun _ _ _ _ _ _ us hl => match us, hl with | [_, _, _], _ => rfl
  have o22 := ok_coL (P := P) (w := w) (mg := mg) (base := base) B c9 F22
  have c22 := mkCal (P := P) (w := w) (base := base) F22 o22 (g _ (by decide)) fun _ _ _ _ _ _ us hl => match us, hl with | [_], _ => rfl
  have o21 := ok_poL (P := P) (w := w) (mg := mg) (base := base) B T2 c19 c15 c22 c20 F21
  have c21 := mkCal (P := P) (w := w) (base := base) F21 o21 (g _ (by decide)) fun _ _ _ _ _ _ us hl => match us, hl with | [_, _], _ => rfl
  have o25 := ok_QF (P := P) (w := w) (mg := mg) (base := base) B c11 F25
  have c25 := mkCal (P := P) (w := w) (base := base) F25 o25 (g _ (by decide)) fun _ _ _ _ _ _ us hl => match us, hl with | [_], _ => rfl
  have o24 := ok_NQ (P := P) (w := w) (mg := mg) (base := base) B T2 c21 c25 F24
  have c24 := mkCal (P := P) (w := w) (base := base) F24 o24 (g _ (by decide)) fun _ _ _ _ _ _ us hl => match us, hl with | [_, _], _ => rfl
  have o27 := ok_draw (P := P) (w := w) (mg := mg) (base := base) B F27
  have c27 := mkCal (P := P) (w := w) (base := base) F27 o27 (g _ (by decide)) fun _ _ _ _ _ _ us hl => match us, hl with | [_, _], _ => rfl
  have o28 := ok_any (P := P) (w := w) (mg := mg) (base := base) B F28
  have c28 := mkCal (P := P) (w := w) (base := base) F28 o28 (g _ (by decide)) fun _ _ _ _ _ _ us hl => match us, hl with | [_, _], _ => rfl
  have o29 := ok_of (P := P) (w := w) (mg := mg) (base := base) B c28 F29
  have c29 := mkCal (P := P) (w := w) (base := base) F29 o29 (g _ (by decide)) fun _ _ _ _ _ _ us hl => match us, hl with | [_, _], _ => rfl
  have o30 := ok_mixed (P := P) (w := w) (mg := mg) (base := base) B c28 F30
  have c30 := mkCal (P := P) (w := w) (base := base) F30 o30 (g _ (by decide)) fun _ _ _ _ _ _ us hl => match us, hl with | [_, _], _ => rfl
  have o31 := ok_div (P := P) (w := w) (mg := mg) (base := base) B F31
  have c31 := mkCal (P := P) (w := w) (base := base) F31 o31 (g _ (by decide)) fun _ _ _ _ _ _ us hl => match us, hl with | [_, _], _ => rfl
  have o32 := ok_invL (P := P) (w := w) (mg := mg) (base := base) B F32
  have c32 := mkCal (P := P) (w := w) (base := base) F32 o32 (g _ (by decide)) fun _ _ _ _ _ _ us hl => match us, hl with | [_, _], _ => rfl
  have o33 := ok_fit (P := P) (w := w) (mg := mg) (base := base) B c28 c32 F33
  have c33 := mkCal (P := P) (w := w) (base := base) F33 o33 (g _ (by decide)) fun _ _ _ _ _ _ us hl => match us, hl with | [_, _], _ => rfl
  have o34 := ok_pa (P := P) (w := w) (mg := mg) (base := base) B c31 F34
  have c34 := mkCal (P := P) (w := w) (base := base) F34 o34 (g _ (by decide)) fun _ _ _ _ _ _ us hl => match us, hl with | [_], _ => rfl
  have o35 := ok_LF (P := P) (w := w) (mg := mg) (base := base) B F35
  have c35 := mkCal (P := P) (w := w) (base := base) F35 o35 (g _ (by decide)) fun _ _ _ _ _ _ us hl => match us, hl with | [_, _], _ => rfl
  have o36 := ok_LC (P := P) (w := w) (mg := mg) (base := base) B c31 F36
  have c36 := mkCal (P := P) (w := w) (base := base) F36 o36 (g _ (by decide)) fun _ _ _ _ _ _ us hl => match us, hl with | [_], _ => rfl
  have o37 := ok_small (P := P) (w := w) (mg := mg) (base := base) B c28 c29 c33 c34 c30 F37
  have c37 := mkCal (P := P) (w := w) (base := base) F37 o37 (g _ (by decide)) fun _ _ _ _ _ _ us hl => match us, hl with | [_], _ => rfl
  have o39 := ok_best (P := P) (w := w) (mg := mg) (base := base) B c35 F39
  have c39 := mkCal (P := P) (w := w) (base := base) F39 o39 (g _ (by decide)) fun _ _ _ _ _ _ us hl => match us, hl with | [_, _], _ => rfl
  have k24 := mkCalK (ks := ["yes", "no"]) (b := false) F24 o24 (g _ (by decide)) fun _ _ _ _ _ _ us hl => match us, hl with | [_, _], _ => rfl
  exact ok_law B c27 c28 c29 c37 c36 c35 c39 (mkCal (P := P) (w := w) (base := base) F38 (ok_As (P := P) (w := w) (mg := mg) (base := base) B T T2 tx k24 F38) (g _ (by decide)) (fun _ _ _ _ _ _ us hl => match us, hl with | [_, _], _ => rfl)) c21 F40
abbrev R45 : PySem.W.OpenRow := PySem.W.OpenLaw.row PySem.Challenge.rw_batchnumbers_k45_whole_best_questions
abbrev hk45 : PySem.W.Hook := hookZ 5 fa45 fn45 ex45
def ob45 (s : PySem.W.SharedT) : Al × Bool := obsZ 5 fa45 fn45 ex45 (HandSHeadRun.getT s)
theorem ob45_eq (s : PySem.W.SharedT) : ob45 s = hk45.obs s.abs := obsZ_eq (HandSHeadRun.getT_eq s)
def loose45 : List Str := (["BatchError", "InvalidQuestion", "Refused", "is_integer", "is_sequence", "check_integers", "product_of", "fits_lot", "common_moduli", "lot_of", "_is_plain", "_lot_of_one"] : List Str) ++ (["_check_tellings", "_is_told", "possible_lots", "_coarser_lots", "next_question", "_question_for", "_law_draw", "_law_any", "_law_of", "_law_mixed", "_law_divisor", "_law_inverse"] : List Str) ++ (["_law_fitting", "_law_parts", "_law_fits", "_law_coarser", "_law_small", "_law_asked", "_law_best"] : List Str)
theorem run45 (w : World) : HandSHeadRun.RunEqI R45 (PySem.W.view R45.prog [0, 40]) hk45 ob45 6000 loose45 w := by
  unfold HandSHeadRun.RunEqI
  kernel_rfl
end KV
open PySem PySem.W PySem.Calls PyProof.Rows
set_option maxRecDepth 100000 in
set_option maxHeartbeats 8000000 in
theorem PySem.Challenge.cw_batchnumbers_k45_whole_best_questions_holds : PySem.Challenge.rw_batchnumbers_k45_whole_best_questions.Holds := by
  w_on; o_law
  refine HandSHeadRun.head_imp (r := OpenLaw.row PySem.Challenge.rw_batchnumbers_k45_whole_best_questions) (q := view (OpenLaw.row PySem.Challenge.rw_batchnumbers_k45_whole_best_questions).prog [0, 40]) (H := KV.hk45) (ob := KV.ob45) (M := 6000) (loose := KV.loose45) (d := HandSHeadRun.topDef (OpenLaw.row PySem.Challenge.rw_batchnumbers_k45_whole_best_questions).prog 40) (kwd := []) KV.ob45_eq
    KV.run45 (by kernel_rfl) (by kernel_rfl) (by kernel_rfl) (by rfl) (by first | assumption | decide +kernel) (by decide +kernel) ⟨rfl, rfl, rfl, rfl, rfl, by decide +kernel⟩ ?hw ?hc
  case hw => w_witness2
  case hc =>
    refine KV.walk_ofGE (l := PySem.Challenge.rw_batchnumbers_k45_whole_best_questions) (n := 63) (k := 9) (x := "_law_script") rfl (by decide) (by kernel_rfl) ⟨rfl, by decide, by decide⟩ ?F
    intro w mg fa h Y G hmg0
    obtain ⟨K, KX, c, b⟩ := Y
    have hmg : mg ("law" : PySem.Str) = some (.ref fa) := by
      have e : (HandSHeadRun.topDef (OpenLaw.row PySem.Challenge.rw_batchnumbers_k45_whole_best_questions).prog 40).name = ("law" : PySem.Str) := by kernel_rfl
      rw [← e]
      exact hmg0
    obtain ⟨fd, hb, hF⟩ := KV.end45 (P := (PySem.Challenge.rw_batchnumbers_k45_whole_best_questions).prog) (w := w) KX G hmg c b
    exact ⟨K, fd, KV.spLaw K, KX, hb, fun H a ns _ hS => ⟨a, ns, rfl, hS, fun _ => rfl⟩, hF⟩
