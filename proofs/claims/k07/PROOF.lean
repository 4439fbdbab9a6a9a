import PyProof.Rows.All
import Wide.All
import OpenK.AllK
import Wide.FinOn
import PyProof.EqAt
import PyProof.EqKinds
import PyProof.TupleCall
import PySem.Challenge.RW_batchnumbers_k07_whole_fitting_integers
import HandS.ForMost
import HandS.ForExc
import HandS.Wide
import HandS.WideMore
import HandS.WideBits
import HandS.Gcd
import HandS.IsInst
import HandS.SortInts
import HandS.Flow
import HandS.Style
import HandS.RaiseMore
import HandS.TupAny
import KE.GoesMore
import HandS.More
import HandS.Conv
import HandS.ExcOwn
import HandS.HeadEnd
import HandS.HeadHook1
import HandS.HeadHook2
import HandS.Head0
import HandS.Head1
import HandS.Head2
import HandS.Head3
set_option Elab.async false
set_option linter.all false
set_option maxRecDepth 100000
set_option maxHeartbeats 4000000
/-! rules of our own over the hand layer -/
namespace KV
open PySem PySem.Spec PyProof.Rows L2
/-- a def of the module, by its name: it stands there and keeps a promise -/
def Cal (P : Program) (w : World) (K : PySem.W.Frag) (mg : Str → Option Value) (base : Heap) (Z : CXT) (k : Nat) (x : Str) (ps : List Str) (sp : Sp) : Prop :=
  ∃ (f : Addr) (fd : FuncData), FnOk P w K mg base Z k f fd ps sp ∧ mg x = some (.ref f) ∧ PySem.W.keepIn K (.ref f) = true ∧ Binds K fd ps []
section
variable {X : Cx} {k j : Nat} {x : Str} {ps : List Str} {sp : Sp} {p pos : Pos} {e : Expr} {es : List Expr} {t : TA}
theorem pe_cal (C : Cal X.prog X.w X.K X.mg X.base CX0 k x ps sp) (hr : Room j X.A) (hj : k ≤ j) (ha : PA X (e :: es) t)
    (hg : Gl X x := by rfl) (hdb : (x == ("__debug__" : Str)) = false := by decide)
    (he : starEach (e :: es) X.env = (false, eval e X.env) :: starEach es X.env := by rfl)
    (hpl : (backTo pos (starEach es X.env)).any (·.1) = false := by rfl) :
    PE X (.Call (.Name x p) (e :: es) [] pos) (tCall sp [] E0 t) := by
  obtain ⟨f, fd, F, h1, h2, h3⟩ := C
  exact pe_call F (hr.mono hj) hg h1 h2 h3 .nil pass0 ha hdb he hpl
end

/-- repr of a truth value, of an int, of a tuple of ints -/
def rRepr (K : PySem.W.Frag) : List V → Hp → VK → Prop := fun xs H Q =>
  (∃ b : Bool, xs = [.bl b] ∧ Q (.str (if b then "True" else "False")) H) ∨ (∃ i : Int, xs = [.int i] ∧ i.natAbs.log2 < 1920 ∧ Q (.str (toString i)) H) ∨
  ∃ (a : Addr) (ns : List Int), xs = [.ref a] ∧ SqT K H a (ns.map V.int) ∧ (∀ n ∈ ns, n.natAbs.log2 < 1920) ∧ (PyData.tuple (ns.map PyData.int)).shown.length ≤ sizeLine ∧ Q (.str (PyData.tuple (ns.map PyData.int)).shown) H
theorem dp_ints {K : PySem.W.Frag} {H : Hp} : ∀ ns : List Int, DpAll K H (ns.map V.int) (ns.map PyData.int)
  | [] => .nil
  | n :: r => .cons (.int n) (dp_ints r)
theorem showAll_ints : ∀ ns : List Int, (∀ n ∈ ns, n.natAbs.log2 < 1920) → PyData.showableAll (ns.map PyData.int) = true
  | [], _ => rfl
  | n :: r, h => by
    have h1 := h n (by simp)
    have h2 := showAll_ints r fun m hm => h m (by simp [hm])
    simp only [List.map_cons, PyData.showableAll, PyData.showable, h2, h1, decide_true, Bool.and_self]
theorem noDict_ints : ∀ ns : List Int, PyData.hasDictAll (ns.map PyData.int) = false
  | [] => rfl
  | n :: r => by simp only [List.map_cons, PyData.hasDictAll, PyData.hasDict, noDict_ints r, Bool.or_self]
theorem depth_ints : ∀ ns : List Int, PyData.depthAll (ns.map PyData.int) = 0
  | [] => rfl
  | n :: r => by simp only [List.map_cons, PyData.depthAll, PyData.depth, depth_ints r, Nat.max_self]
theorem call_repr {X : Cx} (hg : X.A.guards = some []) (hu : X.A.units + 64 < cLine) : CallR X (.builtin "repr") (rRepr X.K) := by
  intro pins s σ H xs us Q I r h
  rcases h with ⟨b, rfl, q⟩ | ⟨i, rfl, hz, q⟩ | ⟨a, ns, rfl, hs, hb, hz, q⟩
  · obtain ⟨u, rfl, r1⟩ := vals1 r
    cases r1
    exact PySem.P.repr_of_bool ⟨.str _, H, I.tok _, ⟨_, rfl⟩, q⟩
  · obtain ⟨u, rfl, t, rfl⟩ := vals1 r
    exact PySem.P.repr_of_int hz ⟨.str _, H, I.tok _, ⟨_, rfl⟩, q⟩
  · obtain ⟨u, rfl, r1⟩ := vals1 r
    have r2 : RelV (.ref a) u := r1
    obtain ⟨as, rd⟩ := Dp.reads I (.tuple (ns.map PyData.int)) (.ref a) u (.tup hs (dp_ints ns)) r2
    cases r1
    refine repr_of_reads' rd (by simp only [PyData.showable]; exact showAll_ints ns hb) (fun z => ?_) hg (by simp only [PyData.depth, depth_ints]; omega) (fun _ _ z => z) (fun h' u tk kk => ?_) hz
    · simp only [PyData.hasDict, noDict_ints] at z
      exact absurd z Bool.false_ne_true
    · exact ⟨.str _, H, I.kept kk, ⟨_, rfl⟩, q⟩
end KV

/-! a def that is called where no repr is under way (the law's own def): the rule for its body, and the end -/
namespace KV
open PySem PySem.Spec PyProof.Rows L2
structure FnOkG (P : Program) (w : World) (K : PySem.W.Frag) (mg : Str → Option Value) (base : Heap) (k : Nat) (f : Addr) (fd : FuncData) (ps : List Str) (sp : Sp) : Prop where
  size : ∀ xs G R Z, sp xs G R Z → xs.length = ps.length
  go : ∀ (B : Around) (out : List Env) (st : Shared) (G : Hp) (ar : Args) (ws : List Value) (xs : List V) (R : VK) (Z : XK), Room k B → B.guards = some [] → Env0 P w K mg base B out st G →
    BindsTo st fd ar (ps.zip ws) → Vals xs ws → sp xs G R Z → codeAny (model P w) B (.call (.ref f) ar) (CR CX0 out P w G st R Z) st
theorem fn_ofG {P : Program} {w : World} {K : PySem.W.Frag} {mg : Str → Option Value} {base : Heap} {k : Nat} {f : Addr} {nm ql : Str} {pa : Arguments} {bo : List Stmt} {sc : Scope} {dv kv dc pm cd ct oc : Value} {an od : Option Addr}
    {sl : Array (Option Value)} {N ps : List Str} {sp : Sp} (there : K.lookup f = some ⟨oc, od, .func (PySem.W.fnOf nm ql pa bo sc dv kv dc pm an cd ct), sl⟩) (code : PySem.W.codeIn K cd ql = true) (S : FnScope N ps sc)
    (size : ∀ xs G R Z, sp xs G R Z → xs.length = ps.length)
    (bodyOk : ∀ (B : Around) (out : List Env) (st : Shared) (G : Hp) (xs : List V) (R : VK) (Z : XK), Room k (B.deeper (envOfC ql sc st.heap.objs.size f cd)) → B.guards = some [] → sp xs G R Z →
      ∃ t, PSs (cxOf CX0 P w K mg base N ql sc f cd B out st G Z) bo t ∧ t { nx := fun _ G' => R .non G', rt := R } (start N xs) G) :
    FnOkG P w K mg base (k + 1) f (PySem.W.fnOf nm ql pa bo sc dv kv dc pm an cd ct) ps sp := by
  constructor
  · exact size
  intro B out st G ar ws xs R Z room gd e0 bnd rel want
  have len := size _ _ _ _ want
  have inK : K.In st.heap := e0.mod.kin.keeps fun b o q => (e0.bs b o q).1
  have noLim : st.heap.NoLimit := e0.mod.nolimit.keeps fun b o q => (e0.bs b o q).1
  have kinds : ∀ y ∈ ps.zip ws, sc.names.lookup y.1 = some .local ∨ (sc.names.lookup y.1 = some .cell ∧ ((cellsFrom (st.heap.objs.size + 1) sc.names []).lookup y.1).isSome = true) := by
    rintro ⟨n, v⟩ hy
    rcases S.par n (List.of_mem_zip hy).1 with q | q
    · exact .inl q
    · exact .inr ⟨q, PySem.W.cellsFrom_some _ _ _ (.inl q)⟩
  refine codeAny_call_function room.depth (inK _ _ there) rfl S.co S.gen rfl (PySem.W.codeRec_of inK code) (bnd _ _ _ _ ?_)
  refine wpAny_newFunctionEnv_cells S.kind kinds fun env henv s2 x => ?_
  subst henv
  refine ⟨noLim.keeps x.toInCall.keep, codeAny_func ?_⟩
  obtain ⟨t, ht, hq⟩ := bodyOk B out st G xs R Z (room.deeper _) gd want
  have J := inv_start (CX := CX0) (E := Z) S room.hd e0 len rel x
  refine wpAny_mono (ht.run [] s2 (start N xs) G _ J hq) (fun fl s3 hs => ?_) (fun _ _ z => z)
  cases fl with
  | brk => exact hs.elim fun _ ⟨_, _, z⟩ => z.elim
  | cont => exact hs.elim fun _ ⟨_, _, z⟩ => z.elim
  | ret u =>
    obtain ⟨v, σ3, G3, J3, rv, q⟩ := hs
    exact ⟨v, G3, J3.os, J3.bare, J3.base, J3.hok, rv, q⟩
  | next =>
    obtain ⟨σ3, G3, J3, q⟩ := hs
    exact ⟨V.non, G3, J3.os, J3.bare, J3.base, J3.hok, rfl, q⟩

/-- the law's call, behind the top -/
theorem law_callG {P : Program} {w : World} {K : PySem.W.Frag} {mg mb : Str → Option Value} {k : Nat} {fa a : Addr} {fd : FuncData} {x : Str} {sp : Sp} {st : Shared} {vs : List Value} {ns : List Int}
    (inK : K.In st.heap) (gl : st.heap.Ns mainGlobals mg) (bl : st.heap.Ns builtinsNs mb) (blb : ∀ y : Str, y ≠ "__name__" → mb y = bootBuiltins y) (noLim : st.heap.NoLimit) (gens : st.gens = #[])
    (scr : st.heap.get? a = some { cls := .type "list", data := .seq vs.toArray }) (isI : IntsAre vs ns) (few : ns.length ≤ sizeLine) (room : Room k callerA)
    (F : ∀ base : Heap, K.In base → base.Ns mainGlobals mg → FnOkG P w K mg base k fa fd [x] sp) (bnd : ∀ (s : Shared) (u : Value), BindsTo s fd ⟨[u], []⟩ [(x, u)])
    (want : ∀ G : Hp, SqL K G a (ns.map V.int) → sp [.ref a] G (fun v _ => v = .bl true) fun _ _ _ => False) :
    codeAny (model P w) callerA (.call (.ref fa) ⟨[.ref a], []⟩) (fun r s' => r = .ok (.ret (.bool true)) ∧ OldK st.heap s'.heap ∧ s'.os = st.os ∧ AllBare s'.gens) st := by
  have rel := vals_ints isI
  have lens := isI.length
  have core : ∀ G : Hp, Only G → SqL K G a (ns.map V.int) → HOk P w G st.heap → (∀ b, G b ≠ none → b = a) → (G a ≠ none → K.lookup a = none) →
      codeAny (model P w) callerA (.call (.ref fa) ⟨[.ref a], []⟩) (fun r s' => r = .ok (.ret (.bool true)) ∧ OldK st.heap s'.heap ∧ s'.os = st.os ∧ AllBare s'.gens) st := by
    intro G only sq ok one out
    have free : ∀ {b : Addr} {o : Obj} {es : Array DictEntry} {ep : Nat}, st.heap.get? b = some o → o.data = .dict es ep → G b = none := by
      intro b o es ep q d
      cases z : G b with
      | none => rfl
      | some u =>
        have : b = a := one b (by simp [z])
        subst this
        rw [scr] at q
        cases q
        cases (show Data.seq vs.toArray _ = Data.dict es ep from d)
    have ns2 : ∀ {b : Addr} {m : Str → Option Value}, st.heap.Ns b m → (hidT st.heap G).Ns b m := fun ⟨o, es, ep, q, d, r⟩ => ⟨o, es, ep, hidT_get q (free q d), d, r⟩
    have inB : K.In (hidT st.heap G) := by
      intro b o q
      refine hidT_get (inK b o q) ?_
      cases z : G b with
      | none => rfl
      | some u =>
        have : b = a := one b (by simp [z])
        subst this
        rw [out (by simp [z])] at q
        cases q
    have hm : Mod K mg (hidT st.heap G) := ⟨inB, ns2 gl, ⟨mb, ns2 bl, blb⟩, let ⟨mc, h1, h2⟩ := noLim; ⟨mc, ns2 h1, h2⟩⟩
    have e0 : Env0 P w K mg (hidT st.heap G) callerA [] st G :=
      ⟨rfl, hm, fun b o q => of_hidT q, Nat.le_of_eq (hidT_size _ _), trivial, fun b hb => absurd (show b ∈ ([] : List Addr) from hb) (by simp), ok, .of_eq gens⟩
    refine codeAny_mono ((F _ inB (ns2 gl)).go callerA [] st G ⟨[.ref a], []⟩ [.ref a] [.ref a] _ _ room rfl e0 (bnd st (.ref a)) (.cons rfl .nil) (want G sq)) fun r s' h => ?_
    cases r with
    | error e => exact False.elim h
    | ok fl =>
      cases fl with
      | next => exact False.elim h
      | brk => exact False.elim h
      | cont => exact False.elim h
      | ret u =>
        obtain ⟨v, G', os, bare, un, ok', r', q⟩ := h
        have q2 : v = .bl true := q
        subst q2
        have u2 : u = Value.bool true := r'
        subst u2
        refine ⟨rfl, OldK.of_keep fun b o e => ?_, os, bare⟩
        cases z : G b with
        | none => exact un.keep b o e z (by intro y; exact absurd (show b ∈ ([] : List Addr) from y) (by simp)) (by simp)
        | some u =>
          rcases only b with y | ⟨ob, xs, y⟩
          · rw [z] at y
            cases y
          · have y2 := un.frzs b ob _ y
            have f1 := (ok b _ y).1
            have f2 := (ok' b _ y2).1
            rw [e] at f1
            cases f1
            exact f2
  cases hk : K.lookup a with
  | none =>
    refine core (fun b => if b = a then some (.frz { cls := .type "list", data := .seq vs.toArray } (.lst (ns.map V.int))) else none) (fun b => ?_)
      (.inl (.inr ⟨{ cls := .type "list", data := .seq vs.toArray }, if_pos rfl⟩)) (fun b u z => ?_) (fun b z => ?_) (fun _ => hk)
    · by_cases hb : b = a
      · exact .inr ⟨_, _, if_pos hb⟩
      · exact .inl (if_neg hb)
    · by_cases hb : b = a
      · have z2 := (if_pos hb).symm.trans z
        cases z2
        subst hb
        exact ⟨scr, by rw [List.length_map]; exact few, vs, _, rel, scr⟩
      · have z2 := (if_neg hb).symm.trans z
        cases z2
    · by_cases hb : b = a
      · exact hb
      · exact absurd (if_neg hb) z
  | some o =>
    have e := inK a o hk
    rw [scr] at e
    cases e
    refine core (fun _ => none) (fun _ => .inl rfl) (.inr ⟨_, vs.toArray, _, hk, rfl, rfl, rfl, ?_, by simpa using rel⟩) (fun b u z => ?_) (fun b z => absurd rfl z) (fun z => absurd rfl z)
    · rw [List.size_toArray, lens]
      exact few
    · cases (show (none : Option HO) = some u from z)
/-- what k_head leaves, from the law's promise -/
theorem walk_ofG {l : PySem.W.OpenLaw} {n k : Nat} {q : Program} {loose : List Str} {XP : (Str → Option Value) → Heap → Prop} {YP : World → Heap → Prop} {d : DefRec} {K : Params → PySem.W.Frag} {sp : World → Sp} {x : Str}
    (most : l.most = some n) (fits : n ≤ sizeLine) (plain : d.params.defaults = []) (room : Room k callerA) (hY : ∀ (w : World) (h : Heap), YP w h → (K w.params).In h)
    (F : ∀ (w : World) (mg : Str → Option Value) (fa : Addr) (h : Heap), (K w.params).In h → h.Ns mainGlobals mg → mg d.name = some (.ref fa) →
      ∃ fd : FuncData, (∀ (s : Shared) (u : Value), BindsTo s fd ⟨[u], []⟩ [(x, u)]) ∧ ∀ base : Heap, (K w.params).In base → base.Ns mainGlobals mg → FnOkG l.prog w (K w.params) mg base k fa fd [x] (sp w))
    (want : ∀ (w : World) (G : Hp) (a : Addr) (ns : List Int), ns.length ≤ n → SqL (K w.params) G a (ns.map V.int) → sp w [.ref a] G (fun v _ => v = .bl true) fun _ _ _ => False) :
    PySem.W.WalkO q loose XP YP l.row.toRowW d [] (fun f vs => PySem.call f vs) := by
  refine Att.attach_call most plain fun w s0 s1 mg mb fa o pm cd doc a vs ns G Y ho hd hcd hmg hobj hints hlen hg => ?_
  obtain ⟨fd, hb, hF⟩ := F w mg fa _ (hY w _ Y) G.T.g hmg
  exact law_callG (hY w _ Y) G.T.g G.T.b G.T.builtins G.T.nolimit hg hobj hints (Nat.le_trans hlen fits) room hF hb fun H hS => want w H a ns hlen hS
end KV

namespace PySem
namespace LowX
open PySem.W PySem.Calls PyProof.Rows PySem.HandSPX
/-! ### the text of __init__ -/
def iA (p1 p2 : Pos) : Arguments := { posonlyargs := [], args := [{ arg := "self", annotation := none, pos := p1 }, { arg := "at", annotation := none, pos := p2 }], vararg := none, kwonlyargs := [], kw_defaults := [], kwarg := none, defaults := [] }
def iB (q1 q2 q3 q4 : Pos) : List Stmt := [.Assign [.Attribute (.Name "self" q1) "at" q2] (.Name "at" q3) q4]
def iS : Scope := { kind := .function, names := [(PySem.Str.ofString "self", .local), (PySem.Str.ofString "at", .local)], isGenerator := false, isCoroutine := false, more := [] }
/-- what the written part says of Low, at C, and of its __init__, at fI -/
structure LowTxt (K : Frag) (mg : Str → Option Value) (nm ql : Str) (C fI : Addr) : Prop where
  gC : mg nm = some (.ref C)
  nd : (nm == ("__debug__" : Str)) = false
  cls : ∃ nm q N bs bm sn sub ab col dd k0 k1 k2 k3 k5, K.lookup C = some (excClassObj nm q C N bs bm true sn sub ab col dd k0 k1 k2 k3 k5 "ValueError.__new__") ∧ refsVE bm = true
  sa : findIn K (.ref C) "__setattr__" = some (some (.builtin "object.__setattr__"))
  ga : findIn K (.ref C) "__getattribute__" = some (some (.builtin "BaseException.__getattribute__"))
  gg : findIn K (.ref C) "__getattr__" = some none
  noN : findIn K (.ref C) "at" = some none
  iC : findIn K (.ref C) "__init__" = some (some (.ref fI))
  tC : typeIn K (.ref fI) = some (.type "function")
  kC : keepIn K (.ref C) = true
  exC : subIn K (.ref C) (.type "BaseException") = some true
  tyC : typeIn K (.ref C) = some (.type "type")
  hdC : hasDictIn K C = true
  te : exmOne K (.ref C) (.ref C) = some true
  fn : ∃ (oc : Value) (od : Option Addr) (doc pm : Value) (an : Option Addr) (cdv ct : Value) (osl : Array (Option Value)) (p1 p2 q1 q2 q3 q4 : Pos),
    K.lookup fI = some ⟨oc, od, .func (fnOf "__init__" ql (iA p1 p2) (iB q1 q2 q3 q4) iS .none .none doc pm an cdv ct), osl⟩ ∧ codeIn K cdv ql = true
theorem one_size (v : Value) : [v].length ≤ sizeLine := by
  rw [sizeLine_eq]
  exact (by decide : 1 ≤ 16777216)
theorem kept_but {K : Frag} {h h' : Heap} {x : Addr} (X : K.In h) (hx : K.lookup x = none) (k : ∀ b o, b ≠ x → h.get? b = some o → h'.get? b = some o) : K.In h' := fun a o e =>
  k a o (fun z => by rw [z, hx] at e; cases e) (X a o e)
theorem ldC {M : Model} {s : Shared} {name : Str} {scope : Scope} {L a : Addr} {cd : Value} {m : Str → Option Value} {x : Str} {pos : Pos} {v : Value} {Q : Value → Shared → Prop} {A : Around} {E : Value → Shared → Prop} (hn : s.heap.Ns L m) (hv : m x = some v) (h : Q v s)
    (hk : scope.kind = .function := by rfl) (hl : (envOfC name scope L a cd).kindOf x = some .local := by rfl) (hd : (x == ("__debug__" : Str)) = false := by decide) :
    wpAny M A (eval (.Name x pos) (envOfC name scope L a cd)) Q E s := wpAny_Name (wpAny_loadName_local hk hl hn hv h) hd
/-- what __init__ leaves of a fresh exception at x -/
structure InitEnd (h h' : Heap) (x C dx t1 : Addr) (v : Value) : Prop where
  keep : ∀ b o, b ≠ x → h.get? b = some o → h'.get? b = some o
  obj : h'.get? x = some { cls := .ref C, dict := some dx, data := .fields #[.ref t1, .none, .none, .none, .bool false, .none] }
  dbig : h.objs.size ≤ dx
  dne : dx ≠ x
  ns : h'.Ns1 dx (fun y => if y = "at" then some v else none)
/-- a made Low -/
structure OwnMade (h h' : Heap) (e C d : Addr) (v : Value) : Prop where
  keep : ∀ b o, h.get? b = some o → h'.get? b = some o
  new : h.objs.size ≤ e
  obj : ∃ oe vs, h'.get? e = some oe ∧ oe.cls = .ref C ∧ oe.dict = some d ∧ oe.data = .fields vs ∧ vs[1]? = some .none
  dbig : h.objs.size ≤ d
  dne : d ≠ e
  ns : h'.Ns1 d (fun y => if y = "at" then some v else none)
section
variable {prog : Program} {w : World} {A : Around} {E : Value → Shared → Prop} {R : Result → Shared → Prop} {s : Shared} {K : Frag} {mg : Str → Option Value} {nm ql : Str} {C fI : Addr}
theorem low_init (T : LowTxt K mg nm ql C fI) {x t0 : Addr} {v : Value} (X : K.In s.heap) (hlim : s.heap.NoLimit) (hx : s.heap.get? x = some (excO C t0)) (hnx : K.lookup x = none) (hroom : A.depth < recursionLimit)
    (hq : ∀ h' tk dx, InitEnd s.heap h' x C dx t0 v → R (.ok (.ret .none)) { s with heap := h', toks := tk }) :
    codeAny (model prog w) A (.call (.ref fI) ⟨[.ref x, v], []⟩) R s := by
  obtain ⟨oc, od, doc, pm, an, cdv, ct, osl, p1, p2, q1, q2, q3, q4, ho, hcd⟩ := T.fn
  obtain ⟨nm, q, N, bs, bm, sn, sub, ab, col, dd, k0, k1, k2, k3, k5, hC, hbm⟩ := T.cls
  have hcl : clsIn K C = some { name := nm, bases := bs, mro := .ref C :: bm, ns := N, qualname := q, hasDict := true, slotNames := sn, subclasses := sub, abstract := ab, collection := col, hasDel := false } := by unfold clsIn; rw [hC] <;> rfl
  refine Att.call_fn (binds := [("self", .ref x), ("at", v)]) X hlim ho hcd hroom (BindsTo.of_eq (by first | rfl | with_unfolding_all rfl)) (by first | rfl | decide | with_unfolding_all rfl) (fun s₁ IC => ?_) rfl rfl rfl
  obtain ⟨h₁, tk₁, rfl⟩ := IC.toInCall.same
  have k : ∀ b o, s.heap.get? b = some o → h₁.get? b = some o := IC.toInCall.keep
  have hn := IC.toInCall.ns
  have hxL : s.heap.objs.size ≠ x := Nat.ne_of_gt (Heap.lt_size hx)
  have X₁ : K.In h₁ := X.keeps k
  have hx₁ := k _ _ hx
  -- self.by = by
  show wpAny _ _ (execs _ _) _ _ _
  refine wpAny_execs_cons (plainObj_wpAny_Assign_Attribute ?_)
  refine ldC (v := v) hn (by first | rfl | with_unfolding_all rfl | kernel_rfl) (ldC (v := .ref x) hn (by first | rfl | with_unfolding_all rfl | kernel_rfl) ?_)
  refine set_plain X₁ (ox := excO C t0) (od := none) ⟨hx₁, rfl, rfl, trivial⟩ T.sa ?_
  refine exc_osa X₁ hx₁ hcl (show refsVE (.ref C :: bm) = true from hbm) rfl T.noN (fun h₃ tk₃ dx k₃ dn dne hx₃ hn₃ => ?_)
  show wpAny _ _ (execs _ _) _ _ _
  have z : s.heap.objs.size < h₁.objs.size := hn.lt
  exact wpAny_execs_nil (hq h₃ tk₃ dx ⟨fun b o hb e => k₃ b o hb (k b o e), hx₃, Nat.le_of_lt (Nat.lt_of_lt_of_le z dn), dne, hn₃⟩)
theorem low_made (T : LowTxt K mg nm ql C fI) {v : Value} (X : K.In s.heap) (hlim : s.heap.NoLimit) (hroom : A.depth + 1 < recursionLimit)
    (hq : ∀ h' tk e d, OwnMade s.heap h' e C d v → R (.ok (.ret (.ref e))) { s with heap := h', toks := tk }) :
    codeAny (model prog w) A (.call (.ref C) ⟨[v], []⟩) R s := by
  obtain ⟨nm, q, N, bs, bm, sn, sub, ab, col, dd, k0, k1, k2, k3, k5, hC, hbm⟩ := T.cls
  obtain ⟨hp, g, dr, tk, os⟩ := s
  have k : ∀ b o, hp.get? b = some o → ((hp.push (kdv_tup [v])).push (excO C hp.objs.size)).get? b = some o := fun b o e => Heap.get?_push_of_some _ (Heap.get?_push_of_some _ e)
  have hget : ((hp.push (kdv_tup [v])).push (excO C hp.objs.size)).get? (hp.objs.size + 1) = some (excO C hp.objs.size) := by heap_get
  have hnx : K.lookup (hp.objs.size + 1) = none := by
    cases e : K.lookup (hp.objs.size + 1) with
    | none => rfl
    | some o =>
      have z : hp.get? (hp.objs.size + 1) = some o := X _ _ e
      exact absurd (Nat.lt_of_succ_lt (Heap.lt_size z)) (Nat.lt_irrefl _)
  refine call_own F.excBase_ValueError (fun X => refsVE_contains X bm hbm) (X _ _ hC) (looks_findIn X T.iC) (fun self => bind_fn X self T.tC) (one_size v) ?_
  refine low_init (s := ⟨(hp.push (kdv_tup [v])).push (excO C hp.objs.size), g, dr, tk, os⟩) T (X.keeps k) (hlim.keeps k) hget hnx ?_ fun h' tk' dx ⟨k', hx, dn, dne, hns⟩ => ?_
  · show A.depth + 1 < recursionLimit
    exact hroom
  · have old : ∀ b o, hp.get? b = some o → h'.get? b = some o := fun b o e => k' b o (Nat.ne_of_lt (Nat.lt_succ_of_lt (Heap.lt_size e))) (k b o e)
    have z : hp.objs.size + 1 + 1 ≤ dx := by
      first
        | (simpa only [Heap.size_push] using dn)
        | exact dn
        | (have q := dn; rw [Heap.size_push, Heap.size_push] at q; exact q)
    exact ⟨rfl, hq h' tk' (hp.objs.size + 1) dx ⟨old, Nat.le_succ _, ⟨_, _, hx, rfl, rfl, rfl, rfl⟩, Nat.le_trans (Nat.le_trans (Nat.le_succ _) (Nat.le_succ _)) z, dne, hns⟩⟩
end
end LowX
end PySem
namespace L2
open PySem PySem.Spec PyProof.Rows
theorem relO_low {v : V} {v' : Value} (r : RelV v v') (f : Str) : RelO (List.lookup f [(("at" : Str), v)]) (if f = "at" then some v' else none) := by
  by_cases hw : f = "at"
  · subst hw
    rw [if_pos rfl]
    have q : List.lookup ("at" : Str) [(("at" : Str), v)] = some v := by simp [List.lookup]
    rw [q]
    exact r
  · rw [if_neg hw]
    have qw : (f == ("at" : Str)) = false := by simpa using hw
    have q2 : List.lookup f [(("at" : Str), v)] = none := by simp [List.lookup, qw]
    rw [q2]
    trivial
section
variable {X : Cx} {nm ql : Str} {C fI : Addr}
/-- Low(e) -/
def tMkLow (C : Addr) (ta : TA) : St → Hp → XK → Prop := fun σ H Q => ta σ H fun vs H1 => ∃ v, vs = [v] ∧ ∀ d, H1 d = none → Q (.ref C) (some d) (upd H1 d (.xd [(("at" : Str), v)]))
theorem pmk_low {a : Expr} {ta : TA} {p pos : Pos} {k : Nat} (T : PySem.LowX.LowTxt X.K X.mg nm ql C fI) (hr : Room k X.A) (ha : PA X [a] ta) (hg : Gl X nm := by rfl)
    (he : starEach (a :: []) X.env = (false, eval a X.env) :: starEach [] X.env := by rfl) (hpl : (backTo pos (starEach [] X.env)).any (·.1) = false := by rfl) :
    PMk X (.Call (.Name nm p) [a] [] pos) (tMkLow C ta) := by
  intro pins s σ H Q I h
  refine wpAny_Call_Name_kw (ld_glob I hg T.gC ?_ T.nd)
  refine PySem.W.callWith_K (h₀ := X.base) I.ok.mod.kin T.kC (thn (ha.run pos pins s σ H _ I h) fun us s1 hh => ?_) he hpl
  obtain ⟨vs, H1, I1, r1, v, ev, q1⟩ := hh
  subst ev
  refine ⟨I1.kIn, ?_⟩
  cases r1 with
  | cons rv rn =>
    rename_i v' us'
    cases rn
    show wpAny _ _ (call (.ref C) [v']) _ _ _
    have hlim := I1.nolimit
    obtain ⟨hp, g, dr, tk, os⟩ := s1
    refine wpAny_call (PySem.LowX.low_made T I1.kIn hlim (by have := hr.dp; omega) fun h' tk' e d M => ?_)
    show MkP X pins σ Q (.ref e) ⟨h', g, dr, tk', os⟩
    obtain ⟨oe, fv, hoe, hc, hd, hdat, h1⟩ := M.obj
    have hns := M.ns
    obtain ⟨G', g1, g2⟩ := restrict h' fun b => decide (b ≠ e)
    have gk : ∀ b, b ≠ e → G'.get? b = h'.get? b := fun b hb => g1 b (decide_eq_true hb)
    have ge : G'.get? e = none := g2 e (by simp)
    have old : ∀ b o, hp.get? b = some o → G'.get? b = some o := fun b o q => (gk b (Nat.ne_of_lt (Nat.lt_of_lt_of_le (Heap.lt_size q) M.new))).trans (M.keep b o q)
    have ob : ObjOk X.prog X.w (upd H1 d (.xd [(("at" : Str), v)])) G' d (.xd [(("at" : Str), v)]) :=
      ⟨_, hns.at (fun o q => (gk d M.dne).trans q), fun f => relO_low rv f⟩
    have J : Inv X pins σ (upd H1 d (.xd [(("at" : Str), v)])) ⟨G', g, dr, tk', os⟩ := I1.laid (t' := tk') old M.dbig ob
    refine ⟨e, oe, fv, ⟨G', g, dr, tk', os⟩, _, .ref C, some d, rfl, J, fun b o q => ?_, ge, hoe, ⟨hc, hd⟩, hdat, h1, ?_, rfl, I1.bare, raises_own T.exC T.tyC, q1 d (I1.hok.fresh M.dbig)⟩
    · by_cases hb : b = e
      · have q' : G'.get? b = some o := q
        rw [hb, ge] at q'; cases q'
      · exact (gk b hb).symm.trans q
    · rw [upd_ne (Ne.symm M.dne)]
      exact I1.hok.fresh M.new
/-- raise Low(e) -/
def tRaiseLow (C : Addr) (W : WX) (ta : TA) : TS := fun _ σ H => tMkLow C ta σ H fun cls d H' => W cls d σ H'
theorem ps_raiseLow {a : Expr} {ta : TA} {W : WX} {p pos pos2 : Pos} {k : Nat} (hc : X.calm = true) (T : PySem.LowX.LowTxt X.K X.mg nm ql C fI) (hr : Room k X.A) (tk : Takes X W) (ha : PA X [a] ta) (hg : Gl X nm := by rfl)
    (he : starEach (a :: []) X.env = (false, eval a X.env) :: starEach [] X.env := by rfl) (hpl : (backTo pos (starEach [] X.env)).any (·.1) = false := by rfl) :
    PS X (.Raise (some (.Call (.Name nm p) [a] [] pos)) none pos2) (tRaiseLow C W ta) := ps_raise hc tk (pmk_low T hr ha hg he hpl)
/-- low.by, low the exception that the suite holds (at a; its class cls, its dict d) -/
def tByLow (C : Addr) (a : Addr) (cls : Value) (d : Option Addr) (te : TE) : TE := fun σ H Q => te σ H fun x H1 => x = .ref a ∧ cls = .ref C ∧ ∃ (dd : Addr) (v : V), d = some dd ∧ H1 dd = some (.xd [(("at" : Str), v)]) ∧ Q v H1
theorem pe_byLow {a : Addr} {oe : Obj} {cls : Value} {d : Option Addr} {pn : List (Addr × Obj)} {e : Expr} {te : TE} {pos : Pos} (T : PySem.LowX.LowTxt X.K X.mg nm ql C fI) (hz : Zc cls d oe) (hf : ∃ vs, oe.data = .fields vs) (he : PE (X.suite a ((a, oe) :: pn)) e te)
    (hb : attributeBase e "at" X.env (eval e X.env) = eval e X.env := by rfl) :
    PE (X.suite a ((a, oe) :: pn)) (.Attribute e "at" pos) (tByLow C a cls d te) := by
  refine ⟨fun pins s σ H Q I h => ?_⟩
  refine attr_of hb (thn (he.run pins s σ H _ I h) fun u s1 hh => ?_)
  obtain ⟨x, H1, I1, rx, ex, ec, dd, v, ed, ea, q⟩ := hh
  subst ex
  obtain rfl : u = Value.ref a := rx
  subst ec
  subst ed
  obtain ⟨ha, _⟩ := I1.pin (a, oe) (List.mem_append_left _ List.mem_cons_self)
  obtain ⟨vs, hd⟩ := hf
  have hx : ObjOk X.prog X.w H1 s1.heap dd (.xd [(("at" : Str), v)]) := I1.hok dd _ ea
  obtain ⟨mA, hns, hr⟩ := hx
  obtain ⟨od, ho, hl⟩ := lookIn_ns hns
  have l : List.lookup ("at" : Str) [(("at" : Str), v)] = some v := by simp [List.lookup]
  obtain ⟨u, hu, ru⟩ := RelO.some_of (v := v) (o := mA "at") (by rw [← l]; exact hr "at")
  have J : PySem.W.InstAt s1.heap a oe C (some od) := ⟨ha, hz.1, by unfold PySem.W.notCls; rw [hd] <;> rfl, by rw [hz.2]; exact ho⟩
  exact HandSPX.exc_get I1.kIn J T.ga T.gg T.exC (PySem.W.findObj_own T.hdC T.noN rfl (by rw [hl, hu])) (handed_of ru) ⟨v, H1, I1.tok _, ru, q⟩
end
end L2

/-! the text -/
namespace KV
open PySem PySem.Spec PyProof.Rows L2
def top (i : Nat) : Stmt := PySem.Challenge.pw_batchnumbers_k07_whole_fitting_integers.main.body.getD i (.Pass ⟨0, 0, 0, 0⟩)
/-- the built-in names that no global hides -/
structure Bl (mg : Str → Option Value) : Prop where
  isi : mg "isinstance" = none
  int : mg "int" = none
  bool : mg "bool" = none
  tuple : mg "tuple" = none
  list : mg "list" = none
  len : mg "len" = none
  range : mg "range" = none
  sorted : mg "sorted" = none
  all : mg "all" = none
  abs : mg "abs" = none
  divmod : mg "divmod" = none
  repr : mg "repr" = none
  min : mg "min" = none
  max : mg "max" = none
  enumerate : mg "enumerate" = none
  gcd : mg "gcd" = some (.builtin "math.gcd")
end KV

/-! the mathematics of fitting integers -/
namespace KM
/-- the product -/
def prd : List Int → Int
  | [] => 1
  | n :: r => n * prd r
theorem prd_app : ∀ a b : List Int, prd (a ++ b) = prd a * prd b
  | [], b => by show prd b = 1 * prd b; rw [Int.one_mul]
  | n :: r, b => by
    show n * prd (r ++ b) = n * prd r * prd b
    rw [prd_app r b, Int.mul_assoc]
theorem take_at {α : Type} : ∀ {l : List α} {i : Nat} {x : α}, l[i]? = some x → l.take (i + 1) = l.take i ++ [x]
  | [], i, x, h => by simp at h
  | a :: l, 0, x, h => by
    have e : a = x := Option.some.inj h
    subst e
    rfl
  | a :: l, i + 1, x, h => by
    have ih := take_at (l := l) (i := i) (x := x) h
    show a :: l.take (i + 1) = a :: l.take i ++ [x]
    rw [ih]
    rfl
theorem drop_at {α : Type} : ∀ {l : List α} {i : Nat} {x : α}, l[i]? = some x → l.drop i = x :: l.drop (i + 1)
  | [], i, x, h => by simp at h
  | a :: l, 0, x, h => by
    have e : a = x := Option.some.inj h
    subst e
    rfl
  | a :: l, i + 1, x, h => drop_at (l := l) (i := i) (x := x) h
theorem prd_one (n : Int) : prd [n] = n := Int.mul_one n
theorem prd_at {l : List Int} {i : Nat} {x : Int} (h : l[i]? = some x) : prd (l.take (i + 1)) = prd (l.take i) * x := by
  rw [take_at h, prd_app, prd_one]
/-- moduli -/
structure Lot (ns : List Int) : Prop where
  ge : ∀ n ∈ ns, 3 ≤ n
  lt : ns.Pairwise (fun a b => a < b)
  co : ns.Pairwise (fun a b => Int.gcd a b = 1)
theorem Lot.nil : Lot [] := ⟨fun _ h => by simp at h, .nil, .nil⟩
theorem Lot.take {ns : List Int} (h : Lot ns) (i : Nat) : Lot (ns.take i) :=
  ⟨fun n m => h.ge n (List.mem_of_mem_take m), h.lt.sublist (List.take_sublist i ns), h.co.sublist (List.take_sublist i ns)⟩
theorem prd_pos : ∀ {ns : List Int}, (∀ n ∈ ns, 3 ≤ n) → 0 < prd ns
  | [], _ => by decide
  | n :: r, h => Int.mul_pos (by have := h n (by simp); omega) (prd_pos fun m hm => h m (by simp [hm]))
theorem dvd_prd : ∀ {ns : List Int} {n : Int}, n ∈ ns → n ∣ prd ns
  | m :: r, n, h => by
    rcases List.mem_cons.mp h with e | e
    · subst e
      exact ⟨prd r, rfl⟩
    · obtain ⟨c, hc⟩ := dvd_prd e
      exact ⟨m * c, by show m * prd r = _; rw [hc, ← Int.mul_assoc, ← Int.mul_assoc, Int.mul_comm m n]⟩
theorem gcd_mul_one {q a b : Int} (h1 : Int.gcd q a = 1) (h2 : Int.gcd q b = 1) : Int.gcd q (a * b) = 1 := by
  unfold Int.gcd at *
  rw [Int.natAbs_mul]
  exact Nat.Coprime.mul_right h1 h2
theorem gcd_of_mul {q a b : Int} (h : Int.gcd q (a * b) = 1) : Int.gcd q a = 1 ∧ Int.gcd q b = 1 := by
  unfold Int.gcd at *
  rw [Int.natAbs_mul] at h
  exact Nat.coprime_mul_iff_right.mp h
theorem gcd_prd {q : Int} : ∀ {ns : List Int}, (∀ n ∈ ns, Int.gcd q n = 1) → Int.gcd q (prd ns) = 1
  | [], _ => by show Int.gcd q 1 = 1; simp
  | n :: r, h => gcd_mul_one (h n (by simp)) (gcd_prd fun m hm => h m (by simp [hm]))
theorem gcd_prd_inv {q : Int} : ∀ {ns : List Int}, Int.gcd q (prd ns) = 1 → ∀ n ∈ ns, Int.gcd q n = 1
  | m :: r, h, n, hn => by
    obtain ⟨h1, h2⟩ := gcd_of_mul (show Int.gcd q (m * prd r) = 1 from h)
    rcases List.mem_cons.mp hn with e | e
    · rw [e]
      exact h1
    · exact gcd_prd_inv h2 n e
theorem dvd_mul_co {a b c : Int} (g : Int.gcd a b = 1) (h1 : a ∣ c) (h2 : b ∣ c) : a * b ∣ c := by
  have e1 := Int.natAbs_dvd_natAbs.mpr h1
  have e2 := Int.natAbs_dvd_natAbs.mpr h2
  have e := Nat.Coprime.mul_dvd_of_dvd_of_dvd (show Nat.Coprime a.natAbs b.natAbs from g) e1 e2
  rw [← Int.natAbs_mul] at e
  exact Int.natAbs_dvd_natAbs.mp e
theorem prd_dvd : ∀ {ns : List Int} {c : Int}, ns.Pairwise (fun a b => Int.gcd a b = 1) → (∀ n ∈ ns, n ∣ c) → prd ns ∣ c
  | [], c, _, _ => ⟨c, by show c = 1 * c; rw [Int.one_mul]⟩
  | n :: r, c, h, hd => by
    obtain ⟨h1, h2⟩ := List.pairwise_cons.mp h
    exact dvd_mul_co (gcd_prd h1) (hd n (by simp)) (prd_dvd h2 fun m hm => hd m (by simp [hm]))
/-- an integer fits -/
def fit (ns : List Int) (n : Int) : Bool := ns.all fun q => decide (n % q < 2)
theorem fit_iff {ns : List Int} {n : Int} : fit ns n = true ↔ ∀ q ∈ ns, n % q < 2 := by
  unfold fit
  simp only [List.all_eq_true, decide_eq_true_eq]
/-- all numbers below the product that fit, ascending -/
def canon (ns : List Int) : List Int := ((List.range (prd ns).toNat).map Int.ofNat).filter (fit ns)
theorem canon_lt (ns : List Int) : (canon ns).Pairwise (fun a b => a < b) := by
  unfold canon
  refine List.Pairwise.filter _ (List.pairwise_map.mpr ?_)
  exact List.pairwise_lt_range.imp fun h => Int.ofNat_lt.mpr h
theorem canon_nodup (ns : List Int) : (canon ns).Nodup := (canon_lt ns).imp fun h e => by subst e; exact absurd h (Int.lt_irrefl _)
theorem mem_canon {ns : List Int} {n : Int} (hp : 0 < prd ns) : n ∈ canon ns ↔ 0 ≤ n ∧ n < prd ns ∧ ∀ q ∈ ns, n % q < 2 := by
  unfold canon
  rw [List.mem_filter, fit_iff, List.mem_map]
  constructor
  · rintro ⟨⟨a, ha, rfl⟩, h⟩
    have := List.mem_range.mp ha
    refine ⟨Int.natCast_nonneg a, ?_, h⟩
    show (a : Int) < prd ns
    omega
  · rintro ⟨h0, h1, h⟩
    exact ⟨⟨n.toNat, List.mem_range.mpr (by omega), by show (n.toNat : Int) = n; omega⟩, h⟩
/-- a sorted list with the same members is it -/
theorem is_canon {ns l s : List Int} (hp : 0 < prd ns) (nd : l.Nodup) (mem : ∀ n, n ∈ l ↔ 0 ≤ n ∧ n < prd ns ∧ ∀ q ∈ ns, n % q < 2) (pe : s.Perm l) (so : s.Pairwise (fun a b => a ≤ b)) : s = canon ns := by
  have p2 : s.Perm (canon ns) := pe.trans ((List.perm_ext_iff_of_nodup nd (canon_nodup ns)).mpr fun a => (mem a).trans (mem_canon hp).symm)
  refine List.Perm.eq_of_pairwise (le := fun a b => a ≤ b) (fun a b _ _ h1 h2 => Int.le_antisymm h1 h2) so ((canon_lt ns).imp fun h => Int.le_of_lt h) p2
/-! the program's way -/
def Rs (ns : List Int) (i : Nat) (l : List Int) : Prop := l.Nodup ∧ ∀ n, n ∈ l ↔ 0 ≤ n ∧ n < prd ns ∧ (∀ q ∈ ns.take i, n % q < 2) ∧ ∀ q ∈ ns.drop i, n % q = 0
theorem Rs.start {ns : List Int} (h : Lot ns) : Rs ns 0 [0] := by
  refine ⟨by simp, fun n => ?_⟩
  rw [List.mem_singleton]
  constructor
  · rintro rfl
    refine ⟨Int.le_refl _, prd_pos h.ge, fun q hq => ?_, fun q _ => Int.zero_emod q⟩
    simp at hq
  · rintro ⟨h0, h1, _, h3⟩
    have d : prd ns ∣ n := prd_dvd h.co fun q hq => Int.dvd_of_emod_eq_zero (h3 q (by simpa using hq))
    obtain ⟨c, rfl⟩ := d
    have pp := prd_pos h.ge
    have c0 : c = 0 := by
      rcases Int.lt_trichotomy c 0 with z | z | z
      · have := Int.mul_neg_of_pos_of_neg pp z
        omega
      · exact z
      · have : prd ns * 1 ≤ prd ns * c := Int.mul_le_mul_of_nonneg_left (by omega) (by omega)
        omega
    rw [c0, Int.mul_zero]
theorem mod_mod {n Q q : Int} (h : q ∣ Q) : n % Q % q = n % q := Int.emod_emod_of_dvd n h
theorem add_mod0 {r s q : Int} (h : s % q = 0) : (r + s) % q = r % q := by
  rw [Int.add_emod, h, Int.add_zero, Int.emod_emod]
theorem sub_mod0 {r s q : Int} (h : s % q = 0) : (r - s) % q = r % q := by
  rw [Int.sub_emod, h, Int.sub_zero, Int.emod_emod]
theorem Rs.next {ns l : List Int} {i : Nat} {q s : Int} (h : Lot ns) (R : Rs ns i l) (hq : ns[i]? = some q) (hs : s % q = 1) (ho : ∀ p ∈ ns, p ≠ q → s % p = 0) :
    Rs ns (i + 1) (l ++ l.map fun r => (r + s) % prd ns) := by
  obtain ⟨nd, mem⟩ := R
  have pp := prd_pos h.ge
  have hqm : q ∈ ns := List.mem_of_getElem? hq
  have q3 := h.ge q hqm
  have dropE := drop_at hq
  have takeE := take_at hq
  have apart : ∀ p, p ∈ ns.take i ∨ p ∈ ns.drop (i + 1) → p ∈ ns ∧ p ≠ q := by
    intro p hp
    have e : ns = ns.take i ++ (q :: ns.drop (i + 1)) := by rw [← dropE, List.take_append_drop]
    have lt := h.lt
    rw [e] at lt
    obtain ⟨_, l2, l3⟩ := List.pairwise_append.mp lt
    obtain ⟨l4, _⟩ := List.pairwise_cons.mp l2
    rcases hp with hp | hp
    · have := l3 p hp q (by simp)
      exact ⟨List.mem_of_mem_take hp, by omega⟩
    · have := l4 p hp
      exact ⟨List.mem_of_mem_drop hp, by omega⟩
  have rest0 : ∀ n, n ∈ l → n % q = 0 := fun n hn => ((mem n).mp hn).2.2.2 q (by rw [dropE]; simp)
  have qQ : q ∣ prd ns := dvd_prd hqm
  have shiftq : ∀ r, r ∈ l → ((r + s) % prd ns) % q = 1 := fun r hr => by
    rw [mod_mod qQ, Int.add_emod, rest0 r hr, hs]
    exact Int.emod_eq_of_lt (by omega) (by omega)
  refine ⟨List.nodup_append.mpr ⟨nd, ?_, ?_⟩, fun n => ?_⟩
  · refine List.pairwise_map.mpr ((List.Pairwise.and_mem.mp nd).imp ?_)
    rintro a b ⟨ha, hb, hab⟩ e
    obtain ⟨a0, a1, _⟩ := (mem a).mp ha
    obtain ⟨b0, b1, _⟩ := (mem b).mp hb
    have z := Int.emod_eq_emod_iff_emod_sub_eq_zero.mp e
    have e2 : a + s - (b + s) = a - b := by omega
    rw [e2] at z
    have z2 := Int.emod_eq_emod_iff_emod_sub_eq_zero.mpr z
    rw [Int.emod_eq_of_lt a0 a1, Int.emod_eq_of_lt b0 b1] at z2
    exact hab z2
  · intro a ha b hb e
    subst e
    obtain ⟨r, hr, e⟩ := List.mem_map.mp hb
    have h1 := shiftq r hr
    rw [e, rest0 a ha] at h1
    omega
  · rw [List.mem_append, List.mem_map, mem]
    constructor
    · rintro (⟨h0, h1, h2, h3⟩ | ⟨r, hr, rfl⟩)
      · refine ⟨h0, h1, fun p hp => ?_, fun p hp => h3 p (by rw [dropE]; exact List.mem_cons_of_mem _ hp)⟩
        rw [takeE] at hp
        rcases List.mem_append.mp hp with hp | hp
        · exact h2 p hp
        · have : p = q := by simpa using hp
          subst this
          have := h3 p (by rw [dropE]; simp)
          omega
      · obtain ⟨r0, r1, r2, r3⟩ := (mem r).mp hr
        have same : ∀ p, p ∈ ns.take i ∨ p ∈ ns.drop (i + 1) → ((r + s) % prd ns) % p = r % p := fun p hp => by
          obtain ⟨pm, pq⟩ := apart p hp
          rw [mod_mod (dvd_prd pm), add_mod0 (ho p pm pq)]
        refine ⟨Int.emod_nonneg _ (by omega), Int.emod_lt_of_pos _ pp, fun p hp => ?_, fun p hp => ?_⟩
        · rw [takeE] at hp
          rcases List.mem_append.mp hp with hp | hp
          · rw [same p (.inl hp)]
            exact r2 p hp
          · have : p = q := by simpa using hp
            subst this
            rw [shiftq r hr]
            omega
        · rw [same p (.inr hp)]
          exact r3 p (by rw [dropE]; exact List.mem_cons_of_mem _ hp)
    · rintro ⟨h0, h1, h2, h3⟩
      have nq := h2 q (by rw [takeE]; simp)
      have nq0 := Int.emod_nonneg n (show q ≠ 0 by omega)
      by_cases z : n % q = 0
      · refine .inl ⟨h0, h1, fun p hp => h2 p (by rw [takeE]; exact List.mem_append_left _ hp), fun p hp => ?_⟩
        rw [dropE] at hp
        rcases List.mem_cons.mp hp with e | e
        · rw [e]
          exact z
        · exact h3 p e
      · have z1 : n % q = 1 := by omega
        have same : ∀ p, p ∈ ns.take i ∨ p ∈ ns.drop (i + 1) → ((n - s) % prd ns) % p = n % p := fun p hp => by
          obtain ⟨pm, pq⟩ := apart p hp
          rw [mod_mod (dvd_prd pm), sub_mod0 (ho p pm pq)]
        refine .inr ⟨(n - s) % prd ns, (mem _).mpr ⟨Int.emod_nonneg _ (by omega), Int.emod_lt_of_pos _ pp, fun p hp => ?_, fun p hp => ?_⟩, ?_⟩
        · rw [same p (.inl hp)]
          exact h2 p (by rw [takeE]; exact List.mem_append_left _ hp)
        · rw [dropE] at hp
          rcases List.mem_cons.mp hp with e | e
          · subst e
            rw [mod_mod qQ, Int.sub_emod, z1, hs]
            rfl
          · rw [same p (.inr e)]
            exact h3 p e
        · rw [Int.emod_add_emod]
          have e : n - s + s = n := by omega
          rw [e]
          exact Int.emod_eq_of_lt h0 h1
theorem Rs.done {ns l s : List Int} (h : Lot ns) (R : Rs ns ns.length l) (pe : s.Perm l) (so : s.Pairwise (fun a b => a ≤ b)) : s = canon ns :=
  is_canon (prd_pos h.ge) R.1 (fun n => by rw [R.2, List.take_length, List.drop_length]; simp) pe so
theorem Rs.bd {ns l : List Int} {i : Nat} (R : Rs ns i l) {n : Int} (hn : n ∈ l) : 0 ≤ n ∧ n < prd ns := ⟨((R.2 n).mp hn).1, ((R.2 n).mp hn).2.1⟩
/-! the law's way -/
def Ls (ns : List Int) (i : Nat) (l : List Int) : Prop := l.Nodup ∧ ∀ n, n ∈ l ↔ 0 ≤ n ∧ n < prd (ns.take i) ∧ ∀ q ∈ ns.take i, n % q < 2
theorem Ls.start {ns : List Int} : Ls ns 0 [0] := by
  refine ⟨by simp, fun n => ?_⟩
  rw [List.mem_singleton]
  constructor
  · rintro rfl
    exact ⟨Int.le_refl _, by show (0 : Int) < 1; decide, fun q hq => by simp at hq⟩
  · rintro ⟨h0, h1, _⟩
    have e : prd (ns.take 0) = 1 := rfl
    omega
/-- one more modulus: what leaves e by q, and the same by the others -/
def lift (W q o n e : Int) : Int := n + W * ((e - n) * o % q)
def longer (W q o : Int) (l : List Int) : List Int := l.flatMap fun n => [lift W q o n 0, lift W q o n 1]
theorem lift_mod {W q o n e : Int} (ho : (o * W) % q = 1) (h0 : 0 ≤ e) (h1 : e < q) : lift W q o n e % q = e := by
  unfold lift
  have e1 : W * ((e - n) * o % q) % q = (e - n) % q := by
    rw [Int.mul_emod, Int.emod_emod, ← Int.mul_emod]
    have e2 : W * ((e - n) * o) = (e - n) * (o * W) := by rw [Int.mul_comm W, Int.mul_assoc]
    rw [e2, Int.mul_emod, ho, Int.mul_one, Int.emod_emod]
  rw [Int.add_emod, e1, ← Int.add_emod]
  have e3 : n + (e - n) = e := by omega
  rw [e3]
  exact Int.emod_eq_of_lt h0 h1
theorem lift_low {W q o n e : Int} (hn : 0 ≤ n) (hW : n < W) : lift W q o n e % W = n := by
  unfold lift
  rw [Int.add_mul_emod_self_left]
  exact Int.emod_eq_of_lt hn hW
theorem lift_bd {W q o n e : Int} (hn : 0 ≤ n) (hW : n < W) (hq : 0 < q) : 0 ≤ lift W q o n e ∧ lift W q o n e < W * q := by
  unfold lift
  have k0 := Int.emod_nonneg ((e - n) * o) (show q ≠ 0 by omega)
  have k1 := Int.emod_lt_of_pos ((e - n) * o) hq
  have h1 : 0 ≤ W * ((e - n) * o % q) := Int.mul_nonneg (by omega) k0
  have h2 : W * ((e - n) * o % q) ≤ W * (q - 1) := Int.mul_le_mul_of_nonneg_left (by omega) (by omega)
  have h3 : W * (q - 1) = W * q - W := by rw [Int.mul_sub, Int.mul_one]
  omega
theorem lift_only {W q o n : Int} (hW : 0 < W) (hq : 0 < q) (g : Int.gcd W q = 1) (ho : (o * W) % q = 1) (h0 : 0 ≤ n) (h1 : n < W * q) (he : n % q < q) : n = lift W q o (n % W) (n % q) := by
  have a0 := Int.emod_nonneg n (show W ≠ 0 by omega)
  have a1 := Int.emod_lt_of_pos n hW
  have b0 := Int.emod_nonneg n (show q ≠ 0 by omega)
  obtain ⟨c0, c1⟩ := lift_bd (W := W) (q := q) (o := o) (n := n % W) (e := n % q) a0 a1 hq
  have d1 : (n - lift W q o (n % W) (n % q)) % W = 0 := by
    rw [Int.sub_emod, lift_low a0 a1, Int.sub_self]
    exact Int.zero_emod W
  have d2 : (n - lift W q o (n % W) (n % q)) % q = 0 := by
    rw [Int.sub_emod, lift_mod ho b0 he, Int.sub_self]
    exact Int.zero_emod q
  obtain ⟨c, hc⟩ := dvd_mul_co g (Int.dvd_of_emod_eq_zero d1) (Int.dvd_of_emod_eq_zero d2)
  have pp : 0 < W * q := Int.mul_pos hW hq
  have cz : c = 0 := by
    rcases Int.lt_trichotomy c 0 with z | z | z
    · have : W * q * c ≤ W * q * (-1) := Int.mul_le_mul_of_nonneg_left (by omega) (by omega)
      omega
    · exact z
    · have : W * q * 1 ≤ W * q * c := Int.mul_le_mul_of_nonneg_left (by omega) (by omega)
      omega
  rw [cz, Int.mul_zero] at hc
  omega
theorem Ls.next {ns l : List Int} {i : Nat} {q o : Int} (h : Lot ns) (R : Ls ns i l) (hq : ns[i]? = some q) (ho : (o * prd (ns.take i)) % q = 1) : Ls ns (i + 1) (longer (prd (ns.take i)) q o l) := by
  obtain ⟨nd, mem⟩ := R
  have hqm : q ∈ ns := List.mem_of_getElem? hq
  have q3 := h.ge q hqm
  have Wp : 0 < prd (ns.take i) := prd_pos (h.take i).ge
  have takeE := take_at hq
  have prdE := prd_at hq
  have g : Int.gcd (prd (ns.take i)) q = 1 := by
    rw [Int.gcd_comm]
    refine gcd_prd fun n hn => ?_
    have co := (h.take (i + 1)).co
    rw [takeE] at co
    rw [Int.gcd_comm]
    exact (List.pairwise_append.mp co).2.2 n hn q (by simp)
  refine ⟨?_, fun n => ?_⟩
  · refine List.pairwise_flatMap.mpr ⟨fun a ha => ?_, (List.Pairwise.and_mem.mp nd).imp ?_⟩
    · refine List.pairwise_cons.mpr ⟨fun b hb e => ?_, List.pairwise_singleton ..⟩
      have hb' : b = lift (prd (ns.take i)) q o a 1 := by simpa using hb
      have e1 := congrArg (· % q) (e.trans hb')
      simp only [lift_mod ho (Int.le_refl 0) (by omega : (0 : Int) < q), lift_mod ho (by decide : (0 : Int) ≤ 1) (by omega : (1 : Int) < q)] at e1
      omega
    · rintro a b ⟨ha, hb, hab⟩ x hx y hy e
      obtain ⟨a0, a1, _⟩ := (mem a).mp ha
      obtain ⟨b0, b1, _⟩ := (mem b).mp hb
      have ex : x % prd (ns.take i) = a := by
        simp only [List.mem_cons, List.not_mem_nil, or_false] at hx
        rcases hx with e | e <;> (rw [e]; exact lift_low a0 a1)
      have ey : y % prd (ns.take i) = b := by
        simp only [List.mem_cons, List.not_mem_nil, or_false] at hy
        rcases hy with e | e <;> (rw [e]; exact lift_low b0 b1)
      rw [e, ey] at ex
      exact hab ex.symm
  · unfold longer
    rw [List.mem_flatMap, prdE, takeE]
    have dW : ∀ p ∈ ns.take i, p ∣ prd (ns.take i) := fun p hp => dvd_prd hp
    constructor
    · rintro ⟨a, ha, hn⟩
      obtain ⟨a0, a1, a2⟩ := (mem a).mp ha
      have go : ∀ e : Int, 0 ≤ e → e < 2 → n = lift (prd (ns.take i)) q o a e → 0 ≤ n ∧ n < prd (ns.take i) * q ∧ ∀ p ∈ ns.take i ++ [q], n % p < 2 := by
        rintro e e0 e1 rfl
        obtain ⟨c0, c1⟩ := lift_bd (o := o) (e := e) a0 a1 (show 0 < q by omega)
        refine ⟨c0, c1, fun p hp => ?_⟩
        rcases List.mem_append.mp hp with hp | hp
        · rw [← mod_mod (dW p hp), lift_low a0 a1]
          exact a2 p hp
        · have : p = q := by simpa using hp
          subst this
          rw [lift_mod ho e0 (by omega)]
          exact e1
      simp only [List.mem_cons, List.not_mem_nil, or_false] at hn
      rcases hn with e | e
      · exact go 0 (by omega) (by omega) e
      · exact go 1 (by omega) (by omega) e
    · rintro ⟨h0, h1, h2⟩
      have nq := h2 q (by simp)
      have nq0 := Int.emod_nonneg n (show q ≠ 0 by omega)
      refine ⟨n % prd (ns.take i), (mem _).mpr ⟨Int.emod_nonneg _ (by omega), Int.emod_lt_of_pos _ Wp, fun p hp => ?_⟩, ?_⟩
      · rw [mod_mod (dW p hp)]
        exact h2 p (List.mem_append_left _ hp)
      · have e := lift_only Wp (show 0 < q by omega) g ho h0 h1 (by omega)
        simp only [List.mem_cons, List.not_mem_nil, or_false]
        rcases (show n % q = 0 ∨ n % q = 1 by omega) with z | z
        · left
          rw [z] at e
          exact e
        · right
          rw [z] at e
          exact e
theorem Ls.done {ns l s : List Int} (h : Lot ns) (R : Ls ns ns.length l) (pe : s.Perm l) (so : s.Pairwise (fun a b => a ≤ b)) : s = canon ns :=
  is_canon (prd_pos h.ge) R.1 (fun n => by rw [R.2, List.take_length]) pe so
/-! Euclid's way -/
structure Eu (m x r o t u : Int) : Prop where
  r0 : 0 ≤ r
  o0 : 0 < o
  dr : m ∣ r - t * x
  dO : m ∣ o - u * x
  g : Int.gcd r o = Int.gcd x m
  bd : o * (t.natAbs : Int) + r * (u.natAbs : Int) = m
  sg : (0 ≤ t ∧ u ≤ 0) ∨ (t ≤ 0 ∧ 0 ≤ u)
  ro : r < o
  om : o ≤ m
  ub : (u.natAbs : Int) ≤ m
theorem Eu.tb {m x r o t u : Int} (h : Eu m x r o t u) : (t.natAbs : Int) ≤ m := by
  have bd := h.bd
  have o1 := h.o0
  have r0 := h.r0
  have p1 : (t.natAbs : Int) ≤ o * (t.natAbs : Int) := by
    have := Int.mul_le_mul_of_nonneg_right (show (1 : Int) ≤ o by omega) (Int.natCast_nonneg t.natAbs)
    rw [Int.one_mul] at this
    exact this
  have p2 : 0 ≤ r * (u.natAbs : Int) := Int.mul_nonneg r0 (Int.natCast_nonneg _)
  omega
theorem Eu.start {m x : Int} (hm : 0 < m) : Eu m x (x % m) m 1 0 :=
  ⟨Int.emod_nonneg _ (by omega), hm, by
    refine Int.dvd_of_emod_eq_zero ?_
    rw [Int.one_mul, Int.sub_emod, Int.emod_emod, Int.sub_self]
    exact Int.zero_emod m, by rw [Int.zero_mul, Int.sub_zero]; exact Int.dvd_refl m, by
    unfold Int.gcd
    have e : (x % m).natAbs.gcd m.natAbs = x.natAbs.gcd m.natAbs := by
      have e1 : x % m = x - m * (x / m) := Int.emod_def x m
      have e2 := Int.gcd_sub_mul_right_left m x (x / m)
      rw [e1]
      rw [Int.mul_comm]
      exact e2
    exact e, by simp, .inl ⟨by decide, Int.le_refl 0⟩, Int.emod_lt_of_pos _ hm, Int.le_refl _, by simp; omega⟩
theorem Eu.step {m x r o t u : Int} (h : Eu m x r o t u) (hr : r ≠ 0) : Eu m x (o - o / r * r) r (u - o / r * t) t ∧ (o - o / r * r).toNat < r.toNat := by
  have r1 : 0 < r := by have := h.r0; omega
  have o1 := h.o0
  have em : o - o / r * r = o % r := by
    have := Int.emod_def o r
    rw [this, Int.mul_comm r]
  have s0 : 0 ≤ o / r := Int.ediv_nonneg (by omega) (by omega)
  have m0 := Int.emod_nonneg o hr
  have m1 := Int.emod_lt_of_pos o r1
  have ro := h.ro
  have om := h.om
  refine ⟨⟨by omega, r1, ?_, h.dr, ?_, ?_, ?_, by omega, by omega, h.tb⟩, by omega⟩
  · have e : o - o / r * r - (u - o / r * t) * x = (o - u * x) - o / r * (r - t * x) := by
      rw [Int.sub_mul, Int.mul_sub, Int.mul_assoc]
      omega
    rw [e]
    exact Int.dvd_sub h.dO (Int.dvd_trans h.dr (Int.dvd_mul_left _ _))
  · rw [← h.g, Int.gcd_comm r o]
    exact Int.gcd_sub_mul_right_left r o (o / r)
  · have ab : ((u - o / r * t).natAbs : Int) = (u.natAbs : Int) + o / r * (t.natAbs : Int) := by
      rcases h.sg with ⟨a, b⟩ | ⟨a, b⟩
      · have p := Int.mul_nonneg s0 a
        rw [Int.ofNat_natAbs_of_nonpos (by omega), Int.ofNat_natAbs_of_nonpos b, Int.natAbs_of_nonneg a]
        omega
      · have p : 0 ≤ o / r * (-t) := Int.mul_nonneg s0 (by omega)
        have p2 : o / r * (-t) = -(o / r * t) := Int.mul_neg _ _
        rw [Int.natAbs_of_nonneg (by omega), Int.natAbs_of_nonneg b, Int.ofNat_natAbs_of_nonpos a, p2]
        omega
    rw [ab]
    have bd := h.bd
    have e1 : r * ((u.natAbs : Int) + o / r * (t.natAbs : Int)) = r * (u.natAbs : Int) + o / r * r * (t.natAbs : Int) := by
      rw [Int.mul_add]
      congr 1
      rw [← Int.mul_assoc, Int.mul_comm r]
    have e2 : (o - o / r * r) * (t.natAbs : Int) = o * (t.natAbs : Int) - o / r * r * (t.natAbs : Int) := Int.sub_mul _ _ _
    rw [e1, e2]
    omega
  · rcases h.sg with ⟨a, b⟩ | ⟨a, b⟩
    · have p := Int.mul_nonneg s0 a
      exact .inr ⟨by omega, a⟩
    · have p : 0 ≤ o / r * (-t) := Int.mul_nonneg s0 (by omega)
      have p2 : o / r * (-t) = -(o / r * t) := Int.mul_neg _ _
      exact .inl ⟨by omega, a⟩
theorem Eu.end_ {m x o t u : Int} (h : Eu m x 0 o t u) (g : Int.gcd x m = 1) : o = 1 ∧ m ∣ 1 - u * x := by
  have e := h.g
  rw [g] at e
  have e2 : Int.gcd 0 o = o.natAbs := Int.gcd_zero_left o
  have o1 := h.o0
  have e3 : o = 1 := by omega
  refine ⟨e3, ?_⟩
  have d := h.dO
  rw [e3] at d
  exact d
end KM

open L2 KV in
local macro_rules | `(tactic| walk_at "kn") => `(tactic| first
  | exact L2.pv 0 | exact L2.pv 1 | exact L2.pv 2 | exact L2.pv 3 | exact L2.pv 4 | exact L2.pv 5 | exact L2.pv 6 | exact L2.pv 7 | exact L2.pv 8 | exact L2.pv 9 | exact L2.pv 10 | exact L2.pv 11 | exact L2.pv 12 | exact L2.pv 13)
local macro_rules | `(tactic| walk_at "kg") => `(tactic| first
  | exact L2.pg_name (i := 0) (by assumption) (by rfl) (by first | exact Or.inl rfl | exact Or.inr rfl)
  | exact L2.pg_name (i := 1) (by assumption) (by rfl) (by first | exact Or.inl rfl | exact Or.inr rfl)
  | exact L2.pg_name (i := 2) (by assumption) (by rfl) (by first | exact Or.inl rfl | exact Or.inr rfl)
  | exact L2.pg_name (i := 3) (by assumption) (by rfl) (by first | exact Or.inl rfl | exact Or.inr rfl)
  | exact L2.pg_name (i := 4) (by assumption) (by rfl) (by first | exact Or.inl rfl | exact Or.inr rfl)
  | exact L2.pg_name (i := 5) (by assumption) (by rfl) (by first | exact Or.inl rfl | exact Or.inr rfl)
  | exact L2.pg_name (i := 6) (by assumption) (by rfl) (by first | exact Or.inl rfl | exact Or.inr rfl)
  | exact L2.pg_name (i := 7) (by assumption) (by rfl) (by first | exact Or.inl rfl | exact Or.inr rfl)
  | exact L2.pg_name (i := 8) (by assumption) (by rfl) (by first | exact Or.inl rfl | exact Or.inr rfl)
  | exact L2.pg_name (i := 9) (by assumption) (by rfl) (by first | exact Or.inl rfl | exact Or.inr rfl)
  | exact L2.pg_name (i := 10) (by assumption) (by rfl) (by first | exact Or.inl rfl | exact Or.inr rfl)
  | exact L2.pg_name (i := 11) (by assumption) (by rfl) (by first | exact Or.inl rfl | exact Or.inr rfl)
  | exact L2.pg_name (i := 12) (by assumption) (by rfl) (by first | exact Or.inl rfl | exact Or.inr rfl))

namespace KV
open PySem PySem.Spec PyProof.Rows L2
section
variable {P : Program} {w : World} {K : PySem.W.Frag} {mg : Str → Option Value} {base : Heap}
/-- is_integer(value) -/
def isIntV : V → Bool
  | .int _ => true
  | _ => false
def spIsInt (K : PySem.W.Frag) : Sp := fun vs H Q _ => ∃ (v : V) (t : Value) (b c : Bool), vs = [v] ∧ TyX K H v t ∧ PySem.W.kitOne K t (.type "int") = some b ∧ PySem.W.kitOne K t (.type "bool") = some c ∧ Q (.bl (b && !c)) H
theorem sc2 : FnScope ["value"] ["value"] (defScope (top 5)) := ⟨rfl, rfl, rfl, by decide +kernel, rfl, by decide +kernel, by decide +kernel⟩
theorem ok_isInt {f : Addr} {fd : FuncData} (B : Bl mg) (F : Fun K "is_integer" "is_integer" (top 5) f fd) : FnOk P w K mg base CX0 1 f fd ["value"] (spIsInt K) := by
  refine F.ok sc2 (fun vs H Q E h => ?_) (fun cdv A outer s H vs Q E hr h => ⟨?t, ?d, ?r⟩)
  · obtain ⟨v, t, b, c, rfl, _⟩ := h
    rfl
  case t => exact tRet (tAndV (tCB (rIsi K) (tCons (tVar 0) (tCons (tC (.ty "int")) tNil))) (tNotV (tCB (rIsi K) (tCons (tVar 0) (tCons (tC (.ty "bool")) tNil)))))
  case d =>
    exact pss_one (ps_ret (pe_and (pe_callB call_isi (by rfl) B.isi (by decide +kernel) (pa_cons (by walk_at "kn") (pa_cons (pe_bltn (by rfl) B.int PyProof.Rows.boot_int rfl) pa_nil)))
      (pe_one (pe_not (pe_callB call_isi (by rfl) B.isi (by decide +kernel) (pa_cons (by walk_at "kn") (pa_cons (pe_bltn (by rfl) B.bool (by decide +kernel) rfl) pa_nil)))))))
  case r =>
    obtain ⟨v, t, b, c, rfl, ty, h1, h2, q⟩ := h
    refine ⟨_, rfl, v, _, t, _, b, rfl, .ty _, ty, h1, b, rfl, ?_⟩
    cases b with
    | false => exact q
    | true => exact ⟨_, rfl, v, _, t, _, c, rfl, .ty _, ty, h2, c, rfl, q⟩
end
end KV

/-! sizes, small words -/
namespace KV
open PySem PySem.Spec PyProof.Rows L2 KM
abbrev sm (k : Nat) (n : Int) : Prop := n.natAbs < 2 ^ k
theorem sm_mono {j k : Nat} {n : Int} (h : sm j n) (hk : j ≤ k) : sm k n := Nat.lt_of_lt_of_le h (Nat.pow_le_pow_right (by decide) hk)
theorem sm_of {k : Nat} {n : Int} (h0 : 0 ≤ n) (h1 : n < 2 ^ k) : sm k n := by
  have e : ((2 ^ k : Nat) : Int) = (2 : Int) ^ k := by simp
  show n.natAbs < 2 ^ k
  omega
theorem sm_le {k : Nat} {n m : Int} (h0 : 0 ≤ n) (h1 : n ≤ m) (h : sm k m) : sm k n := Nat.lt_of_le_of_lt (by omega) h
theorem sm_abs {k : Nat} {n m : Int} (h1 : (n.natAbs : Int) ≤ m) (h : sm k m) : sm k n := Nat.lt_of_le_of_lt (by omega) h
theorem sm_add {k : Nat} {n m : Int} (h1 : sm k n) (h2 : sm k m) : sm (k + 1) (n + m) := by
  have a := Int.natAbs_add_le n m
  have e : 2 ^ (k + 1) = 2 ^ k * 2 := Nat.pow_succ ..
  have h1' : n.natAbs < 2 ^ k := h1
  have h2' : m.natAbs < 2 ^ k := h2
  show (n + m).natAbs < 2 ^ (k + 1)
  omega
theorem sm_neg {k : Nat} {n : Int} (h : sm k n) : sm k (-n) := by
  show (-n).natAbs < 2 ^ k
  rw [Int.natAbs_neg]
  exact h
theorem sm_sub {k : Nat} {n m : Int} (h1 : sm k n) (h2 : sm k m) : sm (k + 1) (n - m) := by
  rw [Int.sub_eq_add_neg]
  exact sm_add h1 (sm_neg h2)
theorem sm_mul {j k : Nat} {n m : Int} (h1 : sm j n) (h2 : sm k m) : sm (j + k) (n * m) := wide_lt h1 h2
theorem mulW {j k : Nat} {n m : Int} (h1 : sm j n) (h2 : sm k m) (hj : 0 < j) (hk : 0 < k) (h : j + k ≤ 1000000) : CMulW n m := wide_mul h1 h2 hj hk h
theorem divW {k : Nat} {n m : Int} (h0 : 0 < m) (h : sm k m) (hk : 0 < k) (h9 : k ≤ 9000) : CDivW n m := wide_div h0 h hk h9
theorem iop_mulW {X : Cx} : OpR X (inplaceOp .Mult) (rI CMulW fun i j => .int (i * j)) := opI fun _ _ _ _ _ _ _ hc q => imul_int q hc.ok
/-- a lot with few, small moduli -/
structure LotS (ns : List Int) : Prop extends Lot ns where
  few : ns.length ≤ 4
  sml : ∀ n ∈ ns, n < 2 ^ 100
theorem LotS.m {ns : List Int} (h : LotS ns) {n : Int} (hn : n ∈ ns) : sm 100 n := sm_of (by have := h.ge n hn; omega) (h.sml n hn)
theorem prd_le : ∀ {ns : List Int}, (∀ n ∈ ns, 3 ≤ n) → (∀ n ∈ ns, n < 2 ^ 100) → prd ns ≤ 2 ^ (100 * ns.length)
  | [], _, _ => by show (1 : Int) ≤ 1; decide
  | n :: r, h, g => by
    have ih := prd_le (ns := r) (fun m hm => h m (by simp [hm])) fun m hm => g m (by simp [hm])
    have h1 := h n (by simp)
    have g1 := g n (by simp)
    have pp := prd_pos (ns := r) fun m hm => h m (by simp [hm])
    have e : (2 : Int) ^ (100 * (n :: r).length) = 2 ^ 100 * 2 ^ (100 * r.length) := by
      rw [List.length_cons, Nat.mul_succ, Nat.add_comm, Int.pow_add]
    show n * prd r ≤ _
    rw [e]
    exact Int.mul_le_mul (by omega) ih (by omega) (by omega)
theorem LotS.prdT {ns : List Int} (h : LotS ns) (i : Nat) : sm 401 (prd (ns.take i)) := by
  have ht := h.toLot.take i
  have h1 := prd_le (ns := ns.take i) ht.ge fun n hn => h.sml n (List.mem_of_mem_take hn)
  have pp := prd_pos ht.ge
  have l : (ns.take i).length ≤ 4 := Nat.le_trans (by rw [List.length_take]; omega) h.few
  have e : (2 : Int) ^ (100 * (ns.take i).length) ≤ 2 ^ 400 := by
    have := Nat.pow_le_pow_right (show 0 < 2 by decide) (show 100 * (ns.take i).length ≤ 400 by omega)
    exact_mod_cast this
  refine sm_of (by omega) ?_
  have e2 : (2 : Int) ^ 400 < 2 ^ 401 := by decide
  omega
theorem LotS.prd {ns : List Int} (h : LotS ns) : sm 401 (prd ns) := by
  have := h.prdT ns.length
  rw [List.take_length] at this
  exact this
theorem map_at {f : Int → V} {ns : List Int} {i : Nat} {x : V} (h : (ns.map f)[i]? = some x) : ∃ n, ns[i]? = some n ∧ x = f n := by
  rw [List.getElem?_map] at h
  cases e : ns[i]? with
  | none => rw [e] at h; cases h
  | some n => rw [e] at h; exact ⟨n, rfl, (Option.some.inj h).symm⟩
theorem Same.seqT {K : PySem.W.Frag} {H H' : Hp} {a : Addr} {xs : List V} (e : Same H H') (h : SqT K H a xs) : SqT K H' a xs := by
  rcases h with (h | ⟨o, h⟩) | h
  · exact .inl (.inl (e _ _ h))
  · exact .inl (.inr ⟨o, e _ _ h⟩)
  · exact .inr h
theorem Same.upd {H H' : Hp} {a : Addr} {o : HO} (e : Same H H') (h : H a = none) : Same H (upd H' a o) := fun b u q => by
  rw [upd_ne (ne_of_none q h)]
  exact e b u q
theorem Same.new {H : Hp} {a : Addr} {o : HO} (h : H a = none) : Same H (L2.upd H a o) := Same.upd (Same.refl H) h
end KV

/-! the program: small defs -/
namespace KV
open PySem PySem.Spec PyProof.Rows L2 KM
section
variable {P : Program} {w : World} {K : PySem.W.Frag} {mg : Str → Option Value} {base : Heap}
def spProd (K : PySem.W.Frag) : Sp := fun vs H Q _ => ∃ (a : Addr) (ns : List Int), vs = [.ref a] ∧ SqT K H a (ns.map V.int) ∧ LotS ns ∧ Q (.int (prd ns)) H
theorem sc3 : FnScope ["numbers", "whole", "number"] ["numbers"] (defScope (top 6)) := ⟨rfl, rfl, rfl, by decide +kernel, rfl, by decide +kernel, by decide +kernel⟩
theorem ok_prod {f : Addr} {fd : FuncData} (F : Fun K "product_of" "product_of" (top 6) f fd) : FnOk P w K mg base CX0 1 f fd ["numbers"] (spProd K) := by
  refine F.ok sc3 (fun vs H Q E h => ?_) (fun cdv A outer s H vs Q E hr h => ⟨_, pss_cons (ps_set (i := 1) sc3.nd rfl (.inl rfl) pe_int)
    (pss_cons (ps_for PassesOwn.never rfl (pi_tup (pv 0)) (pg_name (i := 2) sc3.nd rfl (.inl rfl)) (pss_one (ps_aug (i := 1) sc3.nd rfl (.inl rfl) (pv 2) iop_mulW))) (pss_one (ps_ret (pv 1)))), ?_⟩)
  · obtain ⟨a, ns, rfl, _⟩ := h
    rfl
  obtain ⟨a, ns, rfl, hS, hL, q⟩ := h
  refine ⟨_, rfl, a, rfl, ⟨_, hS⟩, for_tup (xs := ns.map V.int) (fun i σ H' => (∃ v : Option V, σ = [some (.ref a), some (.int (prd (ns.take i))), v]) ∧ H' = H) ⟨⟨none, rfl⟩, rfl⟩ ?_ ?_ ?_⟩
  · rintro i σ H' _ ⟨_, rfl⟩
    exact hS
  · rintro i x σ H' hx ⟨⟨v, rfl⟩, rfl⟩
    obtain ⟨n, hn, rfl⟩ := map_at hx
    refine ⟨_, rfl, _, rfl, _, _, rfl, rfl, mulW (hL.prdT i) (hL.m (List.mem_of_getElem? hn)) (by decide) (by decide) (by decide), ⟨some (.int n), ?_⟩, rfl⟩
    rw [prd_at hn]
    rfl
  · rintro σ H' ⟨⟨v, rfl⟩, rfl⟩
    rw [List.length_map, List.take_length]
    exact ⟨_, rfl, q⟩

def spInv : Sp := fun vs H Q _ => ∃ x m : Int, vs = [.int x, .int m] ∧ 3 ≤ m ∧ sm 100 m ∧ Int.gcd x m = 1 ∧ ∀ (y : Int) (H' : Hp), Same H H' → 0 ≤ y → y < m → (y * x) % m = 1 → Q (.int y) H'
theorem sc4 : FnScope ["number", "modulus", "one", "other", "low", "high", "times"] ["number", "modulus"] (defScope (top 7)) := ⟨rfl, rfl, rfl, by decide +kernel, rfl, by decide +kernel, by decide +kernel⟩
theorem inv_end {m u x : Int} (hm : 3 ≤ m) (d : m ∣ 1 - u * x) : (u % m * x) % m = 1 := by
  have e : (u % m * x) % m = (u * x) % m := by rw [Int.mul_emod, Int.emod_emod, ← Int.mul_emod]
  rw [e]
  have z := Int.emod_eq_emod_iff_emod_sub_eq_zero.mpr (Int.emod_eq_zero_of_dvd d)
  rw [← z]
  exact Int.emod_eq_of_lt (by omega) (by omega)
theorem ok_inv {f : Addr} {fd : FuncData} (F : Fun K "inverse" "inverse" (top 7) f fd) : FnOk P w K mg base CX0 1 f fd ["number", "modulus"] spInv := by
  refine F.ok sc4 (fun vs H Q E h => ?_) (fun cdv A outer s H vs Q E hr h => ⟨_, pss_cons (ps_par (i := 2) (j := 3) rfl sc4.nd rfl rfl (by decide) rfl rfl (pa_cons (pv 1) (pa_cons (pe_op op_mod (pv 0) (pv 1)) pa_nil)) (by rfl))
    (pss_cons (ps_asg (pe_tup (pa_cons pe_int (pa_cons pe_int pa_nil))) (pg_tup rfl (pgs_cons (pg_name (i := 4) sc4.nd rfl (.inl rfl)) (pgs_cons (pg_name (i := 5) sc4.nd rfl (.inl rfl)) pgs_nil))))
    (pss_cons (ps_while PassesOwn.never (pt_truth (pv 3) (by intro _; rfl)) (pss_cons (ps_set (i := 6) sc4.nd rfl (.inl rfl) (pe_op op_fdivW (pv 2) (pv 3)))
      (pss_cons (ps_par (i := 2) (j := 3) rfl sc4.nd rfl rfl (by decide) rfl rfl (pa_cons (pv 3) (pa_cons (pe_op op_sub (pv 2) (pe_op op_mulW (pv 6) (pv 3))) pa_nil)) (by rfl))
      (pss_one (ps_par (i := 4) (j := 5) rfl sc4.nd rfl rfl (by decide) rfl rfl (pa_cons (pv 5) (pa_cons (pe_op op_sub (pv 4) (pe_op op_mulW (pv 6) (pv 5))) pa_nil)) (by rfl))))))
    (pss_one (ps_ret (pe_op op_mod (pv 4) (pv 1)))))), ?_⟩)
  · obtain ⟨x, m, rfl, _⟩ := h
    rfl
  obtain ⟨x, m, rfl, hm, hs, hg, q⟩ := h
  refine ⟨_, rfl, _, rfl, _, rfl, _, _, rfl, rfl, (by show (0 : Int) < m; omega), _, _, rfl, (by show 2 ≤ sizeLine; decide), fun p hp => ⟨_, _, rfl, SqT.of upd_same, rfl, _, _, rfl, _, _, rfl, rfl, ?_⟩⟩
  refine ⟨fun n σ H' => (∃ r o t u : Int, ∃ v : Option V, n = r.toNat ∧ Eu m x r o t u ∧ σ = [some (.int x), some (.int m), some (.int o), some (.int r), some (.int u), some (.int t), v]) ∧ Same H H',
    ⟨_, ⟨_, _, _, _, none, rfl, Eu.start (by omega), rfl⟩, Same.new hp⟩, ?_⟩
  rintro n σ H' ⟨⟨r, o, t, u, v, rfl, eu, rfl⟩, hH⟩
  refine ⟨_, rfl, _, rfl, ?_⟩
  by_cases hr : r = 0
  · subst hr
    obtain ⟨o1, d⟩ := eu.end_ hg
    refine iteF ⟨_, rfl, _, rfl, _, _, rfl, rfl, (by show (0 : Int) < m; omega), q _ _ hH (Int.emod_nonneg _ (by omega)) (Int.emod_lt_of_pos _ (by omega)) (inv_end hm d)⟩
  · have e : (r != 0) = true := by simpa using hr
    rw [e]
    obtain ⟨eu2, dec⟩ := eu.step hr
    have r0 := eu.r0
    have ro := eu.ro
    have om := eu.om
    have so : sm 100 o := sm_le (by omega) om hs
    have sr : sm 100 r := sm_le r0 (by omega) so
    have sq : sm 100 (o / r) := sm_le (Int.ediv_nonneg (by omega) r0) (Int.ediv_le_self r (by omega)) so
    have st : sm 100 t := sm_abs eu.tb hs
    refine iteT ⟨_, fun σ' H2 z => ⟨_, dec, z⟩, ?_⟩
    refine ⟨_, rfl, _, rfl, _, _, rfl, rfl, divW (by omega) sr (by decide) (by decide), ?_⟩
    refine ⟨_, rfl, _, rfl, _, rfl, _, rfl, _, _, rfl, rfl, mulW sq sr (by decide) (by decide) (by decide), _, _, rfl, rfl, _, _, rfl, ?_⟩
    refine ⟨_, rfl, _, rfl, _, rfl, _, rfl, _, _, rfl, rfl, mulW sq st (by decide) (by decide) (by decide), _, _, rfl, rfl, _, _, rfl, ?_⟩
    exact ⟨⟨_, _, _, _, _, rfl, eu2, rfl⟩, hH⟩
/-- the least number that leaves 1 by ones and 0 by zeros -/
def spLeave : Sp := fun vs H Q _ => ∃ q z : Int, vs = [.int q, .int z] ∧ 3 ≤ q ∧ sm 100 q ∧ sm 401 z ∧ Int.gcd z q = 1 ∧ ∀ (y : Int) (H' : Hp), Same H H' → sm 501 y → y % q = 1 → z ∣ y → Q (.int y) H'
theorem sc5 : FnScope ["ones", "zeros"] ["ones", "zeros"] (defScope (top 8)) := ⟨rfl, rfl, rfl, by decide +kernel, rfl, by decide +kernel, by decide +kernel⟩
theorem ok_leave {f : Addr} {fd : FuncData} (C : Cal P w K mg base CX0 1 "inverse" ["number", "modulus"] spInv) (F : Fun K "number_leaving" "number_leaving" (top 8) f fd) : FnOk P w K mg base CX0 2 f fd ["ones", "zeros"] spLeave := by
  refine F.ok sc5 (fun vs H Q E h => ?_) (fun cdv A outer s H vs Q E hr h => ⟨_, pss_one (ps_ret (pe_op op_mulW (pv 1) (pe_cal (X := L2.Cx.nox _) C hr (by decide) (pa_cons (pv 1) (pa_cons (pv 0) pa_nil))))), ?_⟩)
  · obtain ⟨x, m, rfl, _⟩ := h
    rfl
  obtain ⟨m, z, rfl, hm, hs, hz, hg, q⟩ := h
  refine ⟨_, rfl, _, rfl, _, rfl, z, m, rfl, hm, hs, hg, fun y H' hH y0 y1 ye => ?_⟩
  have sy : sm 100 y := sm_le y0 (by omega) hs
  refine ⟨_, _, rfl, rfl, mulW hz sy (by decide) (by decide) (by decide), q _ _ hH (sm_mul hz sy) (by rw [Int.mul_comm]; exact ye) (Int.dvd_mul_right z y)⟩
end
end KV

/-! what may be asked whether it is a lot -/
namespace KV
open PySem PySem.Spec PyProof.Rows L2 KM
theorem tyx_same {K : PySem.W.Frag} {H H' : Hp} (s : Same H H') {x : V} {t : Value} (h : TyX K H x t) : TyX K H' x t := by
  cases h with
  | base b =>
    refine .base ?_
    cases b with
    | non => exact .non
    | bl y => exact .bl y
    | int i => exact .int i
    | str y => exact .str y
    | flt y => exact .flt y
    | lst e => exact .lst (s _ _ e)
    | frz e => exact .frz (s _ _ e)
    | tup e => exact .tup (s _ _ e)
    | dK e => exact .dK (s _ _ e)
    | dT e => exact .dT (s _ _ e)
    | ins e a b c d f => exact .ins (s _ _ e) a b c d f
  | byt b => exact .byt b
  | set e => exact .set (s _ _ e)
  | kList e c => exact .kList e c
  | kTuple e c => exact .kTuple e c
  | kDict e c => exact .kDict e c
  | fTuple e => exact .fTuple (s _ _ e)
  | fDict e => exact .fDict (s _ _ e)
/-- an item: an int, or something of another kind -/
def Itm (K : PySem.W.Frag) (H : Hp) (x : V) : Prop := (∃ i : Int, x = .int i ∧ sm 120 i) ∨ ((∀ i : Int, x ≠ .int i) ∧ ∃ T : String, TyX K H x (.type T) ∧ (T = "bool" ∨ T = "NoneType" ∨ T = "str" ∨ T = "tuple"))
/-- a value: a tuple of items (some), or of another kind (none) -/
def ValT (K : PySem.W.Frag) (H : Hp) (v : V) : Option (List V) → Prop
  | some xs => ∃ a : Addr, v = .ref a ∧ SqT K H a xs ∧ TyX K H v (.type "tuple") ∧ (∀ x ∈ xs, Itm K H x) ∧ xs.length ≤ 8
  | none => ∃ T : String, TyX K H v (.type T) ∧ (T = "list" ∨ T = "NoneType" ∨ T = "int" ∨ T = "str" ∨ T = "dict")
theorem Itm.same {K : PySem.W.Frag} {H H' : Hp} (s : Same H H') {x : V} (h : Itm K H x) : Itm K H' x := by
  rcases h with h | ⟨h1, T, h2, h3⟩
  · exact .inl h
  · exact .inr ⟨h1, T, tyx_same s h2, h3⟩
theorem ValT.same {K : PySem.W.Frag} {H H' : Hp} (s : Same H H') {v : V} {ms : Option (List V)} (h : ValT K H v ms) : ValT K H' v ms := by
  cases ms with
  | none =>
    obtain ⟨T, h1, h2⟩ := h
    exact ⟨T, tyx_same s h1, h2⟩
  | some xs =>
    obtain ⟨a, h1, h2, h3, h4, h5⟩ := h
    exact ⟨a, h1, Same.seqT s h2, tyx_same s h3, fun x hx => (h4 x hx).same s, h5⟩
def isI : V → Bool
  | .int _ => true
  | _ => false
theorem itm_kit {K : PySem.W.Frag} {H : Hp} {x : V} (h : Itm K H x) : ∃ (t : Value) (b c : Bool), TyX K H x t ∧ PySem.W.kitOne K t (.type "int") = some b ∧ PySem.W.kitOne K t (.type "bool") = some c ∧ (b && !c) = isI x := by
  rcases h with ⟨i, rfl, _⟩ | ⟨ni, T, ty, hT⟩
  · exact ⟨.type "int", true, false, .base (.int i), kit_ty (by decide +kernel), kit_ty (by decide +kernel), rfl⟩
  · have e : isI x = false := by
      cases x <;> first | rfl | exact absurd rfl (ni _)
    rw [e]
    rcases hT with rfl | rfl | rfl | rfl
    · exact ⟨_, true, true, ty, kit_ty (by decide +kernel), kit_ty (by decide +kernel), rfl⟩
    · exact ⟨_, false, false, ty, kit_ty (by decide +kernel), kit_ty (by decide +kernel), rfl⟩
    · exact ⟨_, false, false, ty, kit_ty (by decide +kernel), kit_ty (by decide +kernel), rfl⟩
    · exact ⟨_, false, false, ty, kit_ty (by decide +kernel), kit_ty (by decide +kernel), rfl⟩
theorem val_kit {K : PySem.W.Frag} {H : Hp} {v : V} {ms : Option (List V)} (h : ValT K H v ms) : ∃ t : Value, TyX K H v t ∧ PySem.W.kitOne K t (.type "tuple") = some ms.isSome := by
  cases ms with
  | some xs =>
    obtain ⟨a, rfl, _, ty, _⟩ := h
    exact ⟨_, ty, (kit_ty (by decide +kernel) : PySem.W.kitOne K (.type "tuple") (.type "tuple") = some true)⟩
  | none =>
    obtain ⟨T, ty, hT⟩ := h
    rcases hT with rfl | rfl | rfl | rfl | rfl
    · exact ⟨_, ty, (kit_ty (by decide +kernel) : PySem.W.kitOne K (.type "list") (.type "tuple") = some false)⟩
    · exact ⟨_, ty, (kit_ty (by decide +kernel) : PySem.W.kitOne K (.type "NoneType") (.type "tuple") = some false)⟩
    · exact ⟨_, ty, (kit_ty (by decide +kernel) : PySem.W.kitOne K (.type "int") (.type "tuple") = some false)⟩
    · exact ⟨_, ty, (kit_ty (by decide +kernel) : PySem.W.kitOne K (.type "str") (.type "tuple") = some false)⟩
    · exact ⟨_, ty, (kit_ty (by decide +kernel) : PySem.W.kitOne K (.type "dict") (.type "tuple") = some false)⟩
/-! whether it is a lot -/
def least (ns : List Int) : Int := (ns.getLast?.map (· + 1)).getD 3
def okNext (ns : List Int) (q : Int) : Bool := decide (least ns ≤ q) && ns.all fun p => decide (Int.gcd q p = 1)
def lotGo : List Int → List V → Bool
  | _, [] => true
  | ns, .int q :: r => if okNext ns q = true then lotGo (ns ++ [q]) r else false
  | _, _ :: _ => false
def isL : Option (List V) → Bool
  | none => false
  | some xs => lotGo [] xs
theorem least_snoc (ns : List Int) (q : Int) : least (ns ++ [q]) = q + 1 := by simp [least]
theorem least_gt {ns : List Int} (h : Lot ns) : 3 ≤ least ns ∧ ∀ p ∈ ns, p < least ns := by
  cases e : ns.getLast? with
  | none =>
    have : ns = [] := List.getLast?_eq_none_iff.mp e
    subst this
    exact ⟨by decide, fun p hp => by simp at hp⟩
  | some l =>
    obtain ⟨ms, rfl⟩ := List.getLast?_eq_some_iff.mp e
    rw [least_snoc]
    have h3 := h.ge l (by simp)
    refine ⟨by omega, fun p hp => ?_⟩
    rcases List.mem_append.mp hp with hp | hp
    · have := (List.pairwise_append.mp h.lt).2.2 p hp l (by simp)
      omega
    · have : p = l := by simpa using hp
      omega
theorem okNext_iff {ns : List Int} {q : Int} : okNext ns q = true ↔ least ns ≤ q ∧ ∀ p ∈ ns, Int.gcd q p = 1 := by
  unfold okNext
  simp only [Bool.and_eq_true, decide_eq_true_eq, List.all_eq_true]
theorem Lot.snoc {ns : List Int} {q : Int} (h : Lot ns) (hq : okNext ns q = true) : Lot (ns ++ [q]) := by
  obtain ⟨h1, h2⟩ := okNext_iff.mp hq
  obtain ⟨g1, g2⟩ := least_gt h
  refine ⟨fun n hn => ?_, List.pairwise_append.mpr ⟨h.lt, List.pairwise_singleton .., fun a ha b hb => ?_⟩, List.pairwise_append.mpr ⟨h.co, List.pairwise_singleton .., fun a ha b hb => ?_⟩⟩
  · rcases List.mem_append.mp hn with hn | hn
    · exact h.ge n hn
    · have : n = q := by simpa using hn
      omega
  · have : b = q := by simpa using hb
    have := g2 a ha
    omega
  · have : b = q := by simpa using hb
    subst this
    rw [Int.gcd_comm]
    exact h2 a ha
theorem lotGo_lot : ∀ {ms ns : List Int}, Lot (ns ++ ms) → lotGo ns (ms.map V.int) = true
  | [], ns, _ => rfl
  | q :: r, ns, h => by
    have ok : okNext ns q = true := by
      refine okNext_iff.mpr ⟨?_, fun p hp => ?_⟩
      · cases e : ns.getLast? with
        | none =>
          have : ns = [] := List.getLast?_eq_none_iff.mp e
          subst this
          exact h.ge q (by simp)
        | some l =>
          obtain ⟨ks, rfl⟩ := List.getLast?_eq_some_iff.mp e
          rw [least_snoc]
          have := (List.pairwise_append.mp h.lt).2.2 l (by simp) q (by simp)
          omega
      · rw [Int.gcd_comm]
        exact (List.pairwise_append.mp h.co).2.2 p hp q (by simp)
    show (if okNext ns q = true then lotGo (ns ++ [q]) (r.map V.int) else false) = true
    rw [if_pos ok]
    exact lotGo_lot (by rw [List.append_assoc]; exact h)
theorem prd_sm {k : Nat} : ∀ {ns : List Int}, (∀ n ∈ ns, sm k n) → sm (k * ns.length + 1) (prd ns)
  | [], _ => by show (1 : Int).natAbs < 2 ^ (k * 0 + 1); simp
  | n :: r, h => by
    have ih := prd_sm (ns := r) fun m hm => h m (by simp [hm])
    have e : k * (n :: r).length + 1 = k + (k * r.length + 1) := by rw [List.length_cons, Nat.mul_succ]; omega
    rw [e]
    exact sm_mul (h n (by simp)) ih
section
variable {P : Program} {w : World} {K : PySem.W.Frag} {mg : Str → Option Value} {base : Heap}
def spFitL (K : PySem.W.Frag) : Sp := fun vs H Q _ => ∃ (a : Addr) (ns : List Int) (n : Int), vs = [.ref a, .int n] ∧ SqT K H a (ns.map V.int) ∧ Lot ns ∧ ns.length ≤ 8 ∧ ∀ H', Same H H' → Q (.bl (fit ns n)) H'
theorem sc11 : FnScope ["lot", "count", "modulus"] ["lot", "count"] (defScope (top 12)) := ⟨rfl, rfl, rfl, by decide +kernel, rfl, by decide +kernel, by decide +kernel⟩
theorem len_lt {n : Nat} (h : n ≤ 1000) : n < sizeLine := small1000 h
theorem ok_fitL {f : Addr} {fd : FuncData} (B : Bl mg) (F : Fun K "fits_lot" "fits_lot" (top 12) f fd) : FnOk P w K mg base CX0 1 f fd ["lot", "count"] (spFitL K) := by
  refine F.ok sc11 (fun vs H Q E h => ?_) (fun cdv A outer s H vs Q E hr h => ⟨_, pss_one (ps_ret (pe_callB (cr_all rfl) (by rfl) B.all (by decide +kernel) (pa_cons
    (pe_lc (own := [("modulus", 2)]) (g := gName 2) (tt := tYes) rfl sc11.nd (pi_tup (pv 0)) (blkOk_by (N := ["lot", "count", "modulus"]) (sc := defScope (top 12)) (by decide +kernel))
      (fun _ _ _ _ _ => pg_name (i := 2) sc11.nd rfl (Or.inl rfl)) (fun _ _ _ _ _ => pts_nil) (fun _ _ _ _ _ => pe_cmpR op_lt (pe_op op_mod (pv 1) (pv 2)) pe_int (nomark _))) pa_nil))), ?_⟩)
  · obtain ⟨a, ns, n, rfl, _⟩ := h
    rfl
  obtain ⟨a, ns, n, rfl, hS, hL, hl, q⟩ := h
  refine ⟨_, rfl, a, rfl, ⟨_, hS⟩, fun D hD => lc_tup (xs := ns.map V.int) (fun i H' => Same H H' ∧ H' D = some (.lst ((ns.take i).map fun q => V.bl (decide (n % q < 2))))) ⟨Same.new hD, upd_same⟩ (fun i H' _ p => Same.seqT p.1 hS) ?_ ?_⟩
  · rintro i x H' hx ⟨p1, p2⟩
    obtain ⟨m, hm, rfl⟩ := map_at hx
    have m3 := hL.ge m (List.mem_of_getElem? hm)
    refine ⟨rfl, _, rfl, _, rfl, _, _, rfl, rfl, (by show (0 : Int) < m; omega), _, _, rfl, rfl, _, p2, ?_, Same.upd p1 hD, ?_⟩
    · exact len_lt (by rw [List.length_map, List.length_take]; omega)
    · rw [upd_same, take_at hm, List.map_append]
      rfl
  · rintro H' ⟨p1, p2⟩
    rw [List.length_map, List.take_length] at p2
    refine ⟨D, ns.map fun q => decide (n % q < 2), rfl, SqL.of ?_, ?_⟩
    · rw [p2, List.map_map]
      rfl
    · have e : (ns.map fun q => decide (n % q < 2)).all id = fit ns n := by
        unfold fit
        rw [List.all_map]
        rfl
      rw [e]
      exact q H' p1
def spIsLot (K : PySem.W.Frag) : Sp := fun vs H Q _ => ∃ (v : V) (ms : Option (List V)), vs = [v] ∧ ValT K H v ms ∧ Q (.bl (isL ms)) H
theorem sc10 : FnScope ["value", "whole", "least", "modulus"] ["value"] (defScope (top 10)) := ⟨rfl, rfl, rfl, by decide +kernel, rfl, by decide +kernel, by decide +kernel⟩
theorem ok_isLot {f : Addr} {fd : FuncData} (B : Bl mg) (C : Cal P w K mg base CX0 1 "is_integer" ["value"] (spIsInt K)) (F : Fun K "is_lot" "is_lot" (top 10) f fd) : FnOk P w K mg base CX0 2 f fd ["value"] (spIsLot K) := by
  refine F.ok sc10 (fun vs H Q E h => ?_) (fun cdv A outer s H vs Q E hr h => ⟨_,
    pss_cons (ps_if (pt_not (pt_val (pe_callB call_isi (by rfl) B.isi (by decide +kernel) (pa_cons (pv 0) (pa_cons (pe_bltn (v := .ty "tuple") (by rfl) B.tuple (by decide +kernel) rfl) pa_nil))))) (pss_one (ps_ret pe_bl)) pss_nil)
    (pss_cons (ps_set (i := 1) sc10.nd rfl (.inl rfl) pe_int) (pss_cons (ps_set (i := 2) sc10.nd rfl (.inl rfl) pe_int)
    (pss_cons (ps_for PassesOwn.never rfl (pi_tup (pv 0)) (pg_name (i := 3) sc10.nd rfl (.inl rfl))
      (pss_cons (ps_if (PW.pt (pw_or (pt_not (pt_val (pe_cal (X := L2.Cx.nox _) C hr (by decide) (pa_cons (pv 3) pa_nil)))) (pw_or (pt_cmpR op_lt (pv 3) (pv 2) (nomark _))
          (pw_or1 (pt_cmpR op_gt (pe_callBfun cr_gcd (by rfl) B.gcd (pa_cons (pv 3) (pa_cons (pv 1) pa_nil))) pe_int (nomark _)))))) (pss_one (ps_ret pe_bl)) pss_nil)
      (pss_cons (ps_aug (i := 1) sc10.nd rfl (.inl rfl) (pv 3) iop_mulW) (pss_one (ps_set (i := 2) sc10.nd rfl (.inl rfl) (pe_op op_add (pv 3) pe_int))))))
    (pss_one (ps_ret pe_bl))))), ?_⟩)
  · obtain ⟨v, ms, rfl, _⟩ := h
    rfl
  obtain ⟨v, ms, rfl, hv, q⟩ := h
  obtain ⟨t, ty, hk⟩ := val_kit hv
  refine ⟨_, rfl, _, _, t, _, _, rfl, .ty _, ty, hk, _, rfl, ?_⟩
  cases ms with
  | none => exact iteT q
  | some xs =>
    refine iteF ?_
    obtain ⟨a, rfl, hS, _, hI, hl⟩ := hv
    refine ⟨_, rfl, a, rfl, ⟨_, hS⟩, for_tup (xs := xs) (fun i σ H' => (∃ (ns : List Int) (u : Option V), Lot ns ∧ (∀ n ∈ ns, sm 120 n) ∧ ns.length = i ∧ lotGo [] xs = lotGo ns (xs.drop i) ∧
        σ = [some (.ref a), some (.int (prd ns)), some (.int (least ns)), u]) ∧ H' = H) ⟨⟨[], none, Lot.nil, fun _ z => by simp at z, rfl, rfl, rfl⟩, rfl⟩ ?_ ?_ ?_⟩
    · rintro i σ H' _ ⟨_, rfl⟩
      exact hS
    · rintro i x σ H' hx ⟨⟨ns, u, hL, hsm, hlen, go, rfl⟩, rfl⟩
      have hi := (List.getElem?_eq_some_iff.mp hx).1
      have hit := hI x (List.mem_of_getElem? hx)
      obtain ⟨t', b, c, ty', k1, k2, kb⟩ := itm_kit hit
      rw [drop_at hx] at go
      refine ⟨_, rfl, x, t', b, c, rfl, ty', k1, k2, _, rfl, ?_⟩
      rw [kb]
      rcases hit with ⟨i', rfl, hs⟩ | ⟨ni, _⟩
      · refine iteF ⟨_, rfl, _, rfl, _, _, rfl, rfl, _, rfl, ?_⟩
        have key : lotGo ns (.int i' :: xs.drop (i + 1)) = if okNext ns i' = true then lotGo (ns ++ [i']) (xs.drop (i + 1)) else false := rfl
        by_cases h1 : i' < least ns
        · rw [decide_eq_true h1]
          refine iteT (iteT ?_)
          have : okNext ns i' = false := by
            cases z : okNext ns i' with
            | false => rfl
            | true => have := (okNext_iff.mp z).1; omega
          rw [this] at key
          have e : isL (some xs) = false := by
            show lotGo [] xs = false
            rw [go, key]
            rfl
          rw [e] at q
          exact q
        · rw [decide_eq_false h1]
          have sp := prd_sm hsm
          refine iteF ⟨_, rfl, _, rfl, _, _, rfl, _, _, rfl, rfl, _, rfl, ?_⟩
          obtain ⟨g1, g2⟩ := least_gt hL
          have pos : 0 < Int.gcd i' (prd ns) := Int.gcd_pos_of_ne_zero_left _ (by omega)
          have eg : ((Nat.gcd i'.natAbs (prd ns).natAbs : Nat) : Int) = ((Int.gcd i' (prd ns) : Nat) : Int) := rfl
          rw [eg]
          by_cases h2 : Int.gcd i' (prd ns) = 1
          · have z : decide ((1 : Int) < ((Int.gcd i' (prd ns) : Nat) : Int)) = false := decide_eq_false (by omega)
            rw [z]
            have ok : okNext ns i' = true := okNext_iff.mpr ⟨by omega, gcd_prd_inv h2⟩
            rw [if_pos ok] at key
            refine iteF ?_
            refine ⟨_, rfl, _, rfl, _, _, rfl, rfl, mulW sp hs (by omega) (by decide) (by rw [hlen]; omega), ?_⟩
            refine ⟨_, rfl, _, _, rfl, rfl, ?_⟩
            refine ⟨⟨ns ++ [i'], some (.int i'), Lot.snoc hL ok, fun n hn => ?_, by simp [hlen], by rw [go, key], ?_⟩, rfl⟩
            · rcases List.mem_append.mp hn with hn | hn
              · exact hsm n hn
              · have : n = i' := by simpa using hn
                rw [this]
                exact hs
            · rw [prd_app, prd_one, least_snoc]
              rfl
          · have z : decide ((1 : Int) < ((Int.gcd i' (prd ns) : Nat) : Int)) = true := decide_eq_true (by omega)
            rw [z]
            refine iteT ?_
            have : okNext ns i' = false := by
              cases y : okNext ns i' with
              | false => rfl
              | true => exact absurd (gcd_prd (okNext_iff.mp y).2) h2
            rw [this] at key
            have e : isL (some xs) = false := by
              show lotGo [] xs = false
              rw [go, key]
              rfl
            rw [e] at q
            exact q
      · have e0 : isI x = false := by
          cases x <;> first | rfl | exact absurd rfl (ni _)
        rw [e0]
        refine iteT (iteT ?_)
        have e : isL (some xs) = false := by
          show lotGo [] xs = false
          rw [go]
          cases x <;> first | rfl | exact absurd rfl (ni _)
        rw [e] at q
        exact q
    · rintro σ H' ⟨⟨ns, u, hL, hsm, hlen, go, rfl⟩, rfl⟩
      have e : isL (some xs) = true := by
        show lotGo [] xs = true
        rw [go, List.drop_length]
        rfl
      rw [e] at q
      exact q
end
end KV

/-! the program: residues and what comes of them -/
namespace KV
open PySem PySem.Spec PyProof.Rows L2 KM
theorem prd_split {ns : List Int} {i : Nat} {q : Int} (h : ns[i]? = some q) : prd ns = q * (prd (ns.take i) * prd (ns.drop (i + 1))) := by
  have e : ns = ns.take i ++ (q :: ns.drop (i + 1)) := by rw [← drop_at h, List.take_append_drop]
  have e2 : prd ns = prd (ns.take i) * (q * prd (ns.drop (i + 1))) := by
    conv => lhs; rw [e]
    rw [prd_app]
    rfl
  rw [e2, ← Int.mul_assoc, Int.mul_comm _ q, Int.mul_assoc]
theorem rest_facts {ns : List Int} {i : Nat} {q : Int} (hL : LotS ns) (h : ns[i]? = some q) :
    sm 401 (prd ns / q) ∧ Int.gcd (prd ns / q) q = 1 ∧ ∀ y, prd ns / q ∣ y → ∀ p ∈ ns, p ≠ q → y % p = 0 := by
  have q3 := hL.ge q (List.mem_of_getElem? h)
  have e := prd_split h
  have e2 : prd ns / q = prd (ns.take i) * prd (ns.drop (i + 1)) := by rw [e]; exact Int.mul_ediv_cancel_left _ (by omega)
  have es : ns = ns.take i ++ (q :: ns.drop (i + 1)) := by rw [← drop_at h, List.take_append_drop]
  have co := hL.co
  rw [es] at co
  obtain ⟨_, c2, c3⟩ := List.pairwise_append.mp co
  obtain ⟨c4, _⟩ := List.pairwise_cons.mp c2
  have pp := prd_pos hL.ge
  refine ⟨sm_le (Int.ediv_nonneg (by omega) (by omega)) (Int.ediv_le_self q (by omega)) hL.prd, ?_, fun y hy p hp hpq => ?_⟩
  · rw [e2, Int.gcd_comm]
    refine gcd_mul_one (gcd_prd fun n hn => ?_) (gcd_prd fun n hn => c4 n hn)
    rw [Int.gcd_comm]
    exact c3 n hn q (by simp)
  · rw [e2] at hy
    refine Int.emod_eq_zero_of_dvd (Int.dvd_trans ?_ hy)
    rw [es] at hp
    rcases List.mem_append.mp hp with hp | hp
    · exact Int.dvd_trans (dvd_prd hp) (Int.dvd_mul_right _ _)
    · rcases List.mem_cons.mp hp with hp | hp
      · exact absurd hp hpq
      · exact Int.dvd_trans (dvd_prd hp) (Int.dvd_mul_left _ _)
theorem lotV {K : PySem.W.Frag} {H : Hp} {a : Addr} {ns : List Int} (h : H a = some (.tup (ns.map V.int))) (hL : LotS ns) : ValT K H (.ref a) (some (ns.map V.int)) :=
  ⟨a, rfl, SqT.of h, .base (.tup h), fun x hx => by
    obtain ⟨n, hn, rfl⟩ := List.mem_map.mp hx
    exact .inl ⟨n, rfl, sm_mono (hL.m hn) (by decide)⟩, by rw [List.length_map]; have := hL.few; omega⟩
theorem isL_lot {ns : List Int} (hL : Lot ns) : isL (some (ns.map V.int)) = true := lotGo_lot (ms := ns) (ns := []) hL
section
variable {X : Cx} {k j : Nat} {x : Str} {ps : List Str} {sp : Sp} {p pos : Pos} {e : Expr} {es : List Expr} {t : TA}
/-- a call of a def that may raise, from one that may -/
theorem pe_calX {W : WX} {E : XK} (C : Cal X.prog X.w X.K X.mg X.base (L2.CX X.prog X.w) k x ps sp) (hr : Room j X.A) (hj : k ≤ j) (tk : Takes X W) (hW : ∀ cls d σ H, E cls d H → W cls d σ H) (ha : PA X (e :: es) t)
    (hg : Gl X x := by rfl) (hdb : (x == ("__debug__" : Str)) = false := by decide)
    (he : starEach (e :: es) X.env = (false, eval e X.env) :: starEach es X.env := by rfl)
    (hpl : (backTo pos (starEach es X.env)).any (·.1) = false := by rfl) :
    PE X (.Call (.Name x p) (e :: es) [] pos) (tCall sp [] E t) := by
  obtain ⟨f, fd, F, h1, h2, h3⟩ := C
  exact pe_call F (hr.mono hj) hg h1 h2 h3 .nil (passes_call tk hW) ha hdb he hpl
end
/-- the error InvalidQuestion(0) -/
def Bad (C : Addr) (H : Hp) (E : XK) : Prop := ∀ d : Addr, H d = none → E (.ref C) (some d) (L2.upd H d (.xd [(("at" : Str), .int 0)]))
section
variable {P : Program} {w : World} {K : PySem.W.Frag} {mg : Str → Option Value} {base : Heap} {C fI : Addr}
def spCheck (K : PySem.W.Frag) (C : Addr) : Sp := fun vs H Q E => ∃ (v : V) (ms : Option (List V)), vs = [v, .int 0] ∧ ValT K H v ms ∧ (isL ms = true → Q .non H) ∧ (isL ms = false → Bad C H E)
theorem sc17 : FnScope ["value", "at"] ["value", "at"] (defScope (top 11)) := ⟨rfl, rfl, rfl, by decide +kernel, rfl, by decide +kernel, by decide +kernel⟩
theorem ok_check {f : Addr} {fd : FuncData} (T : PySem.LowX.LowTxt K mg "InvalidQuestion" "InvalidQuestion.__init__" C fI) (CL : Cal P w K mg base CX0 2 "is_lot" ["value"] (spIsLot K)) (F : Fun K "check_lot" "check_lot" (top 11) f fd) :
    FnOk P w K mg base (L2.CX P w) 3 f fd ["value", "at"] (spCheck K C) := by
  refine F.okX sc17 (fun vs H Q E h => ?_) (fun cdv A outer s H vs Q E hr h => ⟨_, pss_one (ps_if (pt_not (pt_val (by exact (pe_cal CL hr (by decide) (pa_cons (pv 0) pa_nil)))))
    (pss_one (ps_raiseLow rfl T hr (takes_of rfl rfl rfl rfl) (by exact (pa_cons (pv 1) pa_nil)))) pss_nil), ?_⟩)
  · obtain ⟨v, ms, rfl, _⟩ := h
    rfl
  obtain ⟨v, ms, rfl, hv, h1, h2⟩ := h
  refine ⟨_, rfl, v, ms, rfl, hv, _, rfl, ?_⟩
  cases e : isL ms with
  | true => exact iteF (h1 e)
  | false => exact iteT ⟨_, rfl, _, rfl, fun d hd => h2 e d hd⟩
def spFits (K : PySem.W.Frag) (C : Addr) : Sp := fun vs H Q E => ∃ (v : V) (n : Int) (ms : Option (List V)), vs = [v, .int n] ∧ ValT K H v ms ∧
  ((isL ms = false ∧ Bad C H E) ∨ ∃ ns : List Int, ms = some (ns.map V.int) ∧ LotS ns ∧ ∀ H', Same H H' → Q (.bl (fit ns n)) H')
theorem sc12 : FnScope ["lot", "count"] ["lot", "count"] (defScope (top 13)) := ⟨rfl, rfl, rfl, by decide +kernel, rfl, by decide +kernel, by decide +kernel⟩
theorem ok_fits {f : Addr} {fd : FuncData} (CK : Cal P w K mg base (L2.CX P w) 3 "check_lot" ["value", "at"] (spCheck K C)) (CF : Cal P w K mg base CX0 1 "fits_lot" ["lot", "count"] (spFitL K)) (F : Fun K "fits" "fits" (top 13) f fd) :
    FnOk P w K mg base (L2.CX P w) 4 f fd ["lot", "count"] (spFits K C) := by
  refine F.okX sc12 (fun vs H Q E h => ?_) (fun cdv A outer s H vs Q E hr h => ⟨_, pss_cons (ps_expr (by exact (pe_calX CK hr (by decide) (takes_of rfl rfl rfl rfl) (fun _ _ _ _ z => z) (pa_cons (pv 0) (pa_cons pe_int pa_nil)))))
    (pss_one (ps_ret (by exact (pe_cal CF hr (by decide) (pa_cons (pv 0) (pa_cons (pv 1) pa_nil)))))), ?_⟩)
  · obtain ⟨v, n, ms, rfl, _⟩ := h
    rfl
  obtain ⟨v, n, ms, rfl, hv, h⟩ := h
  refine ⟨_, rfl, v, ms, rfl, hv, fun ht => ?_, fun hf => ?_⟩
  · rcases h with ⟨hf, _⟩ | ⟨ns, rfl, hL, q⟩
    · rw [ht] at hf
      cases hf
    · obtain ⟨a, rfl, hS, _⟩ := hv
      exact ⟨_, rfl, _, rfl, a, ns, n, rfl, hS, hL.toLot, (by have := hL.few; omega), q⟩
  · rcases h with ⟨_, z⟩ | ⟨ns, rfl, hL, q⟩
    · exact z
    · rw [isL_lot hL.toLot] at hf
      cases hf
def spRes (K : PySem.W.Frag) (C : Addr) : Sp := fun vs H Q E => ∃ (v : V) (ms : Option (List V)), vs = [v] ∧ ValT K H v ms ∧
  ((isL ms = false ∧ Bad C H E) ∨ ∃ ns : List Int, ms = some (ns.map V.int) ∧ LotS ns ∧ (canon ns).length ≤ 16 ∧ ∀ H' p, Same H H' → H p = none → H' p = some (.tup ((canon ns).map V.int)) → Q (.ref p) H')
theorem sc13 : FnScope ["lot", "whole", "rests", "modulus", "step", "rest"] ["lot"] (defScope (top 14)) := ⟨rfl, rfl, rfl, by decide +kernel, rfl, by decide +kernel, by decide +kernel⟩
end
theorem canon_len {ns : List Int} (hL : LotS ns) : (canon ns).length ≤ 16 := by
  -- the law's own way shows it: each modulus doubles
  have step : ∀ i, i ≤ ns.length → ∃ l : List Int, Ls ns i l ∧ l.length = 2 ^ i := by
    intro i
    induction i with
    | zero => exact fun _ => ⟨[0], Ls.start, rfl⟩
    | succ i ih =>
      intro hi
      obtain ⟨l, hl, len⟩ := ih (by omega)
      have hq : ns[i]? = some ns[i] := List.getElem?_eq_getElem (by omega)
      have q3 := hL.ge ns[i] (List.mem_of_getElem? hq)
      -- an inverse of the product so far
      have g : Int.gcd (prd (ns.take i)) ns[i] = 1 := by
        rw [Int.gcd_comm]
        refine gcd_prd fun n hn => ?_
        have co := (hL.toLot.take (i + 1)).co
        rw [take_at hq] at co
        rw [Int.gcd_comm]
        exact (List.pairwise_append.mp co).2.2 n hn _ (by simp)
      have inv : ∀ k r o t u : Int, Eu ns[i] (prd (ns.take i)) r o t u → r.toNat ≤ k.toNat → ∃ o' t' u', Eu ns[i] (prd (ns.take i)) 0 o' t' u' := by
        intro k
        generalize hk : k.toNat = m
        clear hk
        intro r o t u
        induction m generalizing r o t u with
        | zero =>
          intro h hr
          have : r = 0 := by have := h.r0; omega
          subst this
          exact ⟨_, _, _, h⟩
        | succ m ihm =>
          intro h hr
          by_cases z : r = 0
          · subst z
            exact ⟨_, _, _, h⟩
          · obtain ⟨h2, d⟩ := h.step z
            exact ihm _ _ _ _ h2 (by omega)
      obtain ⟨o', t', u', e⟩ := inv (prd (ns.take i) % ns[i]) _ _ _ _ (Eu.start (m := ns[i]) (x := prd (ns.take i)) (by omega)) (Nat.le_refl _)
      obtain ⟨_, d⟩ := e.end_ g
      have ho : (u' * prd (ns.take i)) % ns[i] = 1 := by
        have z := Int.emod_eq_emod_iff_emod_sub_eq_zero.mpr (Int.emod_eq_zero_of_dvd d)
        rw [← z]
        exact Int.emod_eq_of_lt (by omega) (by omega)
      refine ⟨_, hl.next hL.toLot hq ho, ?_⟩
      have : (longer (prd (ns.take i)) ns[i] u' l).length = 2 * l.length := by
        unfold longer
        generalize l = l'
        induction l' with
        | nil => rfl
        | cons a r ih2 =>
          rw [List.flatMap_cons, List.length_append, ih2]
          simp only [List.length_cons, List.length_nil]
          omega
      rw [this, len, Nat.pow_succ]
      omega
  obtain ⟨l, hl, len⟩ := step ns.length (Nat.le_refl _)
  have pe : l.Perm (canon ns) := (List.perm_ext_iff_of_nodup hl.1 (canon_nodup ns)).mpr fun a => by
    rw [hl.2, mem_canon (prd_pos hL.ge), List.take_length]
  rw [← pe.length_eq, len]
  exact Nat.pow_le_pow_right (by decide) hL.few
end KV

namespace KV
open PySem PySem.Spec PyProof.Rows L2 KM
section
variable {P : Program} {w : World} {K : PySem.W.Frag} {mg : Str → Option Value} {base : Heap} {C fI : Addr}
theorem ok_res {f : Addr} {fd : FuncData} (B : Bl mg) (CK : Cal P w K mg base (L2.CX P w) 3 "check_lot" ["value", "at"] (spCheck K C)) (CP : Cal P w K mg base CX0 1 "product_of" ["numbers"] (spProd K))
    (CN : Cal P w K mg base CX0 2 "number_leaving" ["ones", "zeros"] spLeave) (F : Fun K "residues" "residues" (top 14) f fd) : FnOk P w K mg base (L2.CX P w) 4 f fd ["lot"] (spRes K C) := by
  refine F.okX sc13 (fun vs H Q E h => ?_) (fun cdv A outer s H vs Q E hr h => ⟨_,
    pss_cons (ps_expr (by exact (pe_calX CK hr (by decide) (takes_of rfl rfl rfl rfl) (fun _ _ _ _ z => z) (pa_cons (pv 0) (pa_cons pe_int pa_nil)))))
    (pss_cons (ps_set (i := 1) sc13.nd rfl (.inr rfl) (by exact (pe_cal CP hr (by decide) (pa_cons (pv 0) pa_nil))))
    (pss_cons (ps_set (i := 2) sc13.nd rfl (.inl rfl) (pe_lst (pa_cons pe_int pa_nil)))
    (pss_cons (ps_for (passes_of rfl) rfl (pi_tup (pv 0)) (pg_name (i := 3) sc13.nd rfl (.inl rfl))
      (pss_cons (ps_set (i := 4) sc13.nd rfl (.inr rfl) (by exact (pe_cal CN hr (by decide) (pa_cons (pv 3) (pa_cons (pe_op op_fdivW (pv 1) (pv 3)) pa_nil)))))
      (pss_one (ps_set (i := 2) sc13.nd rfl (.inl rfl) (pe_op op_cat (pv 2)
        (pe_lc (own := [("rest", 5)]) (g := gName 5) (tt := tYes) rfl sc13.nd (pi_list (pv 2)) (blkOk_by (N := ["lot", "whole", "rests", "modulus", "step", "rest"]) (sc := defScope (top 14)) (by decide +kernel))
          (fun _ _ _ _ _ => pg_name (i := 5) sc13.nd rfl (Or.inl rfl)) (fun _ _ _ _ _ => pts_nil) (fun _ _ _ _ _ => pe_op op_mod (pe_op op_add (pv 5) (pv 4)) (pv 1))))))))
    (pss_one (ps_ret (pe_callTy call_tuple_of (by rfl) B.tuple (by decide +kernel) (pa_cons (pe_callB cr_sortedI (by rfl) B.sorted (by decide +kernel) (pa_cons (pv 2) pa_nil)) pa_nil))))))), ?_⟩)
  · obtain ⟨v, ms, rfl, _⟩ := h
    rfl
  obtain ⟨v, ms, rfl, hv, h⟩ := h
  refine ⟨_, rfl, v, ms, rfl, hv, fun ht => ?_, fun hf => ?_⟩
  case refine_2 =>
    rcases h with ⟨_, z⟩ | ⟨ns, rfl, hL, q⟩
    · exact z
    · rw [isL_lot hL.toLot] at hf
      cases hf
  rcases h with ⟨hf, _⟩ | ⟨ns, rfl, hL, hcl, q⟩
  · rw [ht] at hf
    cases hf
  obtain ⟨a, rfl, hS, _⟩ := hv
  have pp := prd_pos hL.ge
  refine ⟨_, rfl, a, ns, rfl, hS, hL, (by show 1 ≤ sizeLine; decide), fun l hl => ?_⟩
  refine ⟨_, rfl, a, rfl, ⟨_, Same.seqT (Same.new hl) hS⟩, for_tup (xs := ns.map V.int) (fun i σ H' => (∃ (l' : Addr) (R : List Int) (u v : Option V), Rs ns i R ∧ R.length = 2 ^ i ∧ H' l' = some (.lst (R.map V.int)) ∧
      σ = [some (.ref a), some (.int (prd ns)), some (.ref l'), u, v, none]) ∧ Same H H') ⟨⟨l, [0], none, none, Rs.start hL.toLot, rfl, upd_same, rfl⟩, Same.new hl⟩ ?_ ?_ ?_⟩
  · rintro i σ H' _ ⟨_, z⟩
    exact Same.seqT z hS
  · rintro i x σ H' hx ⟨⟨l', R, u, v, hR, hlen, hl', rfl⟩, hH⟩
    obtain ⟨m, hm, rfl⟩ := map_at hx
    have hmm := List.mem_of_getElem? hm
    have m3 := hL.ge m hmm
    have hi := (List.getElem?_eq_some_iff.mp hm).1
    have few := hL.few
    obtain ⟨f1, f2, f3⟩ := rest_facts hL hm
    have len16 : R.length ≤ 16 := by
      rw [hlen]
      exact Nat.pow_le_pow_right (by decide) (show i ≤ 4 by omega)
    refine ⟨_, rfl, _, rfl, _, rfl, _, _, rfl, rfl, divW (by omega) (hL.m hmm) (by decide) (by decide), m, prd ns / m, rfl, m3, hL.m hmm, f1, f2, fun y H2 hH2 sy y1 yd => ?_⟩
    have l2 : H2 l' = some (.lst (R.map V.int)) := hH2 _ _ hl'
    refine ⟨_, rfl, _, rfl, l', rfl, ⟨_, SqL.of l2⟩, fun D hD => lc_list (xs := R.map V.int) (fun j H3 => Same H2 H3 ∧ H3 D = some (.lst ((R.take j).map fun r => V.int ((r + y) % prd ns)))) ⟨Same.new hD, upd_same⟩ (fun j H3 _ p => p.1.seq (SqL.of l2)) ?_ ?_⟩
    · rintro j x H3 hx ⟨p1, p2⟩
      obtain ⟨r, hr', rfl⟩ := map_at hx
      refine ⟨rfl, _, rfl, _, rfl, _, _, rfl, rfl, _, rfl, _, _, rfl, rfl, pp, _, p2, ?_, Same.upd p1 hD, ?_⟩
      · exact len_lt (by rw [List.length_map, List.length_take]; omega)
      · rw [upd_same, take_at hr', List.map_append]
        rfl
    · rintro H3 ⟨p1, p2⟩
      rw [List.length_map, List.take_length] at p2
      refine ⟨l', D, _, _, rfl, rfl, p1 _ _ l2, p2, ?_, fun p hp => ⟨⟨p, _, _, _, hR.next hL.toLot hm y1 (f3 y yd), ?_, ?_, rfl⟩, ?_⟩⟩
      · rw [List.length_map, List.length_map]
        exact Nat.le_of_lt (len_lt (by omega))
      · rw [List.length_append, List.length_map, hlen, Nat.pow_succ]
        omega
      · rw [upd_same, List.map_append, List.map_map]
        rfl
      · exact Same.upd ((hH.trans hH2).trans p1) (((hH.trans hH2).trans p1).free hp)
  · rintro σ H' ⟨⟨l', R, u, v, hR, hlen, hl', rfl⟩, hH⟩
    rw [List.length_map] at hR
    refine ⟨_, rfl, l', R, rfl, SqL.of hl', fun ns' p pe so hp => ⟨p, _, rfl, .inl ⟨SqL.of upd_same, fun t ht => ?_⟩⟩⟩
    have e := hR.done hL.toLot pe so
    have s1 : Same H (L2.upd H' p (.lst (ns'.map V.int))) := Same.upd hH (hH.free hp)
    refine q _ t (Same.upd s1 (s1.free ht)) (s1.free ht) ?_
    rw [upd_same, e]
/-! the least fitting integer, how many fit -/
def nextF (ns : List Int) (n : Int) : Int := n - n % prd ns + (((canon ns).find? fun r => decide (n % prd ns ≤ r)).getD (prd ns))
theorem find_at {α : Type} {f : α → Bool} : ∀ {l : List α} {i : Nat} {x : α}, l[i]? = some x → f x = true → (∀ y ∈ l.take i, f y = false) → l.find? f = some x
  | [], i, x, h, _, _ => by simp at h
  | a :: l, 0, x, h, hx, _ => by
    have e : a = x := Option.some.inj h
    subst e
    rw [List.find?_cons, hx]
  | a :: l, i + 1, x, h, hx, hp => by
    have ha := hp a (by simp)
    rw [List.find?_cons, ha]
    exact find_at (l := l) (i := i) h hx fun y hy => hp y (by rw [List.take_succ_cons]; exact List.mem_cons_of_mem _ hy)
def nextL (R : List Int) (m n : Int) : Int := n - n % m + ((R.find? fun r => decide (n % m ≤ r)).getD m)
theorem nextF_eq (ns : List Int) (n : Int) : nextF ns n = nextL (canon ns) (prd ns) n := rfl
def spNextL (K : PySem.W.Frag) : Sp := fun vs H Q _ => ∃ (a : Addr) (R : List Int) (m n : Int), vs = [.ref a, .int m, .int n] ∧ SqT K H a (R.map V.int) ∧ 0 < m ∧ Q (.int (nextL R m n)) H
theorem sc17n : FnScope ["rests", "whole", "count", "start", "rest"] ["rests", "whole", "count"] (defScope (top 17)) := ⟨rfl, rfl, rfl, by decide +kernel, rfl, by decide +kernel, by decide +kernel⟩
theorem ok_nextL {f : Addr} {fd : FuncData} (F : Fun K "next_leaving" "next_leaving" (top 17) f fd) : FnOk P w K mg base CX0 1 f fd ["rests", "whole", "count"] (spNextL K) := by
  refine F.ok sc17n (fun vs H Q E h => ?_) (fun cdv A outer s H vs Q E hr h => ⟨_,
    pss_cons (ps_set (i := 3) sc17n.nd rfl (.inl rfl) (pe_op op_sub (pv 2) (pe_op op_mod (pv 2) (pv 1))))
    (pss_cons (ps_for PassesOwn.never rfl (pi_tup (pv 0)) (pg_name (i := 4) sc17n.nd rfl (.inl rfl))
      (pss_one (ps_if (pt_cmpR op_ge (pe_op op_add (pv 3) (pv 4)) (pv 2) (nomark _)) (pss_one (ps_ret (pe_op op_add (pv 3) (pv 4)))) pss_nil)))
    (pss_one (ps_ret (pe_op op_add (pv 3) (pv 1))))), ?_⟩)
  · obtain ⟨a, R, m, n, rfl, _⟩ := h
    rfl
  obtain ⟨a, R, m, n, rfl, hS, pp, q⟩ := h
  refine ⟨_, rfl, _, rfl, _, rfl, _, _, rfl, rfl, pp, _, _, rfl, rfl, ?_⟩
  refine ⟨_, rfl, a, rfl, ⟨_, hS⟩, for_tup (xs := R.map V.int) (fun i σ H2 => (∃ u : Option V, (∀ r ∈ R.take i, decide (n % m ≤ r) = false) ∧
      σ = [some (.ref a), some (.int m), some (.int n), some (.int (n - n % m)), u]) ∧ H2 = H) ⟨⟨none, fun r hr => by simp at hr, rfl⟩, rfl⟩ ?_ ?_ ?_⟩
  · rintro i σ H2 _ ⟨_, rfl⟩
    exact hS
  · rintro i x σ H2 hx ⟨⟨u, hu, rfl⟩, rfl⟩
    obtain ⟨r, hr', rfl⟩ := map_at hx
    refine ⟨_, rfl, _, rfl, _, _, rfl, rfl, _, rfl, _, _, rfl, rfl, _, rfl, ?_⟩
    by_cases z : n % m ≤ r
    · have e : decide (n ≤ n - n % m + r) = true := decide_eq_true (by omega)
      rw [e]
      refine iteT ⟨_, rfl, _, rfl, _, _, rfl, rfl, ?_⟩
      have e2 : nextL R m n = n - n % m + r := by
        unfold nextL
        rw [find_at hr' (decide_eq_true z) hu]
        rfl
      rw [e2] at q
      exact q
    · have e : decide (n ≤ n - n % m + r) = false := decide_eq_false (by omega)
      rw [e]
      refine iteF ⟨⟨some (.int r), fun r' h' => ?_, rfl⟩, rfl⟩
      rw [take_at hr'] at h'
      rcases List.mem_append.mp h' with h' | h'
      · exact hu r' h'
      · have : r' = r := by simpa using h'
        rw [this]
        exact decide_eq_false z
  · rintro σ H2 ⟨⟨u, hu, rfl⟩, rfl⟩
    rw [List.length_map, List.take_length] at hu
    refine ⟨_, rfl, _, rfl, _, _, rfl, rfl, ?_⟩
    have e2 : nextL R m n = n - n % m + m := by
      unfold nextL
      rw [List.find?_eq_none.mpr fun r hr => by rw [hu r hr]; exact Bool.false_ne_true]
      rfl
    rw [e2] at q
    exact q
def spNext (K : PySem.W.Frag) (C : Addr) : Sp := fun vs H Q E => ∃ (v : V) (n : Int) (ms : Option (List V)), vs = [v, .int n] ∧ ValT K H v ms ∧
  ((isL ms = false ∧ Bad C H E) ∨ ∃ ns : List Int, ms = some (ns.map V.int) ∧ LotS ns ∧ ∀ H', Same H H' → Q (.int (nextF ns n)) H')
theorem sc15n : FnScope ["lot", "count"] ["lot", "count"] (defScope (top 15)) := ⟨rfl, rfl, rfl, by decide +kernel, rfl, by decide +kernel, by decide +kernel⟩
theorem ok_next {f : Addr} {fd : FuncData} (CR : Cal P w K mg base (L2.CX P w) 4 "residues" ["lot"] (spRes K C)) (CP : Cal P w K mg base CX0 1 "product_of" ["numbers"] (spProd K))
    (CN : Cal P w K mg base CX0 1 "next_leaving" ["rests", "whole", "count"] (spNextL K)) (F : Fun K "next_fitting" "next_fitting" (top 15) f fd) : FnOk P w K mg base (L2.CX P w) 5 f fd ["lot", "count"] (spNext K C) := by
  refine F.okX sc15n (fun vs H Q E h => ?_) (fun cdv A outer s H vs Q E hr h => ⟨_,
    pss_one (ps_ret (by exact (pe_cal CN hr (by decide) (pa_cons (by exact (pe_calX CR hr (by decide) (takes_of rfl rfl rfl rfl) (fun _ _ _ _ z => z) (pa_cons (pv 0) pa_nil))) (pa_cons (by exact (pe_cal CP hr (by decide) (pa_cons (pv 0) pa_nil))) (pa_cons (pv 1) pa_nil)))))), ?_⟩)
  · obtain ⟨v, n, ms, rfl, _⟩ := h
    rfl
  obtain ⟨v, n, ms, rfl, hv, h⟩ := h
  refine ⟨_, rfl, v, ms, rfl, hv, ?_⟩
  rcases h with ⟨hf, z⟩ | ⟨ns, rfl, hL, q⟩
  · exact .inl ⟨hf, z⟩
  refine .inr ⟨ns, rfl, hL, canon_len hL, fun H' p hH hp hc => ?_⟩
  obtain ⟨a, rfl, hS, _⟩ := hv
  have pp := prd_pos hL.ge
  refine ⟨_, rfl, a, ns, rfl, Same.seqT hH hS, hL, _, rfl, p, canon ns, prd ns, n, rfl, SqT.of hc, pp, q _ hH⟩
def below (R : List Int) (Q b : Int) : Int := b / Q * (R.length : Int) + ((R.filter fun r => decide (r < b % Q)).length : Int)
def spBelow (K : PySem.W.Frag) : Sp := fun vs H Q _ => ∃ (a : Addr) (R : List Int) (m b : Int), vs = [.ref a, .int m, .int b] ∧ SqT K H a (R.map V.int) ∧ R.length ≤ 16 ∧ 0 < m ∧ sm 401 m ∧ sm 500 b ∧ ∀ H', Same H H' → Q (.int (below R m b)) H'
theorem sc16 : FnScope ["rests", "whole", "bound", "rounds", "left", "rest"] ["rests", "whole", "bound"] (defScope (top 19)) := ⟨rfl, rfl, rfl, by decide +kernel, rfl, by decide +kernel, by decide +kernel⟩
theorem div_sm {b m : Int} {k : Nat} (hm : 0 < m) (h : sm k b) : sm k (b / m) := by
  show (b / m).natAbs < 2 ^ k
  have h1 : b.natAbs < 2 ^ k := h
  have e : (b / m).natAbs ≤ b.natAbs := Int.natAbs_ediv_le_natAbs b m
  omega
/-- what a list filtered so far holds -/
theorem filt_at {f : Int → Bool} {l : List Int} {i : Nat} {x : Int} (h : l[i]? = some x) : (l.take (i + 1)).filter f = (l.take i).filter f ++ if f x = true then [x] else [] := by
  rw [take_at h, List.filter_append]
  congr 1
  by_cases z : f x = true
  · rw [if_pos z, List.filter_cons_of_pos z]
    rfl
  · rw [if_neg z, List.filter_cons_of_neg z]
    rfl
theorem ok_below {f : Addr} {fd : FuncData} (B : Bl mg) (F : Fun K "_leaving_below" "_leaving_below" (top 19) f fd) : FnOk P w K mg base CX0 1 f fd ["rests", "whole", "bound"] (spBelow K) := by
  refine F.ok sc16 (fun vs H Q E h => ?_) (fun cdv A outer s H vs Q E hr h => ⟨_,
    pss_cons (ps_asg (pe_callB call_divmodW (by rfl) B.divmod (by decide +kernel) (pa_cons (pv 2) (pa_cons (pv 1) pa_nil))) (pg_tup rfl (pgs_cons (pg_name (i := 3) sc16.nd rfl (.inl rfl)) (pgs_cons (pg_name (i := 4) sc16.nd rfl (.inr rfl)) pgs_nil))))
    (pss_one (ps_ret (pe_op op_add (pe_op op_mulW (pv 3) (pe_callB call_len_seq (by rfl) B.len PySem.boot_len (pa_cons (pv 0) pa_nil)))
      (pe_callB call_len_seq (by rfl) B.len PySem.boot_len (pa_cons
        (pe_lc (own := [("rest", 5)]) (g := gName 5) rfl sc16.nd (pi_tup (pv 0)) (blkOk_by (N := ["rests", "whole", "bound", "rounds", "left", "rest"]) (sc := defScope (top 19)) (by decide +kernel))
          (fun _ _ _ _ _ => pg_name (i := 5) sc16.nd rfl (Or.inl rfl)) (fun _ _ _ _ _ => pts_one (pt_cmpR op_lt (pv 5) (pv 4) (nomark _))) (fun _ _ _ _ _ => pv 5)) pa_nil))))), ?_⟩)
  · obtain ⟨a, R, m, b, rfl, _⟩ := h
    rfl
  obtain ⟨a, R, m, b, rfl, hS, hl, hm, sm1, sb, q⟩ := h
  refine ⟨_, rfl, _, rfl, _, _, rfl, divp_ok hm ?_, fun p hp => ⟨_, _, rfl, SqT.of upd_same, rfl, _, _, rfl, _, _, rfl, rfl, ?_⟩⟩
  · have := PyProof.Rows.intBits_le (show b.natAbs < 2 ^ 500 from sb)
    omega
  have s1 : Same H (L2.upd H p (.tup [.int (b / m), .int (b % m)])) := Same.new hp
  refine ⟨_, rfl, _, rfl, a, _, rfl, .inr (Same.seqT s1 hS), _, _, rfl, rfl, mulW (div_sm hm sb) (show sm 10 _ from ?_) (by decide) (by decide) (by decide), ?_⟩
  · show (((R.map V.int).length : Nat) : Int).natAbs < 2 ^ 10
    rw [List.length_map]
    omega
  refine ⟨_, rfl, a, rfl, ⟨_, Same.seqT s1 hS⟩, fun D hD => lc_tup (xs := R.map V.int) (fun i H' => Same (L2.upd H p (.tup [.int (b / m), .int (b % m)])) H' ∧ H' D = some (.lst (((R.take i).filter fun r => decide (r < b % m)).map V.int)))
    ⟨Same.new hD, upd_same⟩ (fun i H' _ z => Same.seqT (s1.trans z.1) hS) ?_ ?_⟩
  · rintro i x H' hx ⟨p1, p2⟩
    obtain ⟨r, hr', rfl⟩ := map_at hx
    refine ⟨rfl, _, rfl, _, rfl, _, _, rfl, rfl, _, rfl, ?_⟩
    have fa := filt_at (f := fun r => decide (r < b % m)) hr'
    by_cases z : r < b % m
    · rw [if_pos (decide_eq_true z)] at fa
      rw [decide_eq_true z]
      refine iteT ⟨_, rfl, _, p2, ?_, Same.upd p1 hD, ?_⟩
      · refine len_lt ?_
        rw [List.length_map]
        have := List.length_filter_le (fun r => decide (r < b % m)) (R.take i)
        rw [List.length_take] at this
        omega
      · rw [upd_same, fa, List.map_append]
        rfl
    · rw [if_neg (by rw [decide_eq_false z]; exact Bool.false_ne_true), List.append_nil] at fa
      rw [decide_eq_false z]
      refine iteF ⟨p1, ?_⟩
      rw [fa]
      exact p2
  · rintro H' ⟨p1, p2⟩
    rw [List.length_map, List.take_length] at p2
    refine ⟨D, _, rfl, .inl (SqL.of p2), _, _, rfl, rfl, ?_⟩
    rw [List.length_map, List.length_map]
    exact q _ (s1.trans p1)
def betw (ns : List Int) (lo hi : Int) : Int := if lo ≥ hi then 0 else below (canon ns) (prd ns) hi - below (canon ns) (prd ns) lo
def spBetwL (K : PySem.W.Frag) : Sp := fun vs H Q _ => ∃ (a : Addr) (R : List Int) (m lo hi : Int), vs = [.ref a, .int m, .int lo, .int hi] ∧ SqT K H a (R.map V.int) ∧ R.length ≤ 16 ∧ 0 < m ∧ sm 401 m ∧ sm 500 lo ∧ sm 500 hi ∧ ∀ H', Same H H' → Q (.int (if lo ≥ hi then 0 else below R m hi - below R m lo)) H'
theorem sc18b : FnScope ["rests", "whole", "low", "high"] ["rests", "whole", "low", "high"] (defScope (top 18)) := ⟨rfl, rfl, rfl, by decide +kernel, rfl, by decide +kernel, by decide +kernel⟩
theorem ok_betwL {f : Addr} {fd : FuncData} (CB : Cal P w K mg base CX0 1 "_leaving_below" ["rests", "whole", "bound"] (spBelow K)) (F : Fun K "leaving_between" "leaving_between" (top 18) f fd) : FnOk P w K mg base CX0 2 f fd ["rests", "whole", "low", "high"] (spBetwL K) := by
  refine F.ok sc18b (fun vs H Q E h => ?_) (fun cdv A outer s H vs Q E hr h => ⟨_,
    pss_cons (ps_if (pt_cmpR op_ge (pv 2) (pv 3) (nomark _)) (pss_one (ps_ret pe_int)) pss_nil)
    (pss_one (ps_ret (pe_op op_sub (by exact (pe_cal (X := L2.Cx.nox _) CB hr (by decide) (pa_cons (pv 0) (pa_cons (pv 1) (pa_cons (pv 3) pa_nil))))) (by exact (pe_cal (X := L2.Cx.nox _) CB hr (by decide) (pa_cons (pv 0) (pa_cons (pv 1) (pa_cons (pv 2) pa_nil)))))))), ?_⟩)
  · obtain ⟨a, R, m, lo, hi, rfl, _⟩ := h
    rfl
  obtain ⟨a, R, m, lo, hi, rfl, hS, hl, hm, sm1, slo, shi, q⟩ := h
  refine ⟨_, rfl, _, rfl, _, _, rfl, rfl, _, rfl, ?_⟩
  by_cases z : hi ≤ lo
  · rw [decide_eq_true z]
    refine iteT ?_
    have qq := q _ (Same.refl H)
    rw [if_pos z] at qq
    exact qq
  · rw [decide_eq_false z]
    refine iteF ⟨_, rfl, _, rfl, _, rfl, a, R, m, hi, rfl, hS, hl, hm, sm1, shi, fun H2 h2 => ?_⟩
    refine ⟨_, rfl, _, rfl, _, rfl, a, R, m, lo, rfl, Same.seqT h2 hS, hl, hm, sm1, slo, fun H3 h3 => ?_⟩
    refine ⟨_, _, rfl, rfl, ?_⟩
    have qq := q _ (h2.trans h3)
    rw [if_neg z] at qq
    exact qq
def spBetw (K : PySem.W.Frag) (C : Addr) : Sp := fun vs H Q E => ∃ (v : V) (lo hi : Int) (ms : Option (List V)), vs = [v, .int lo, .int hi] ∧ ValT K H v ms ∧ sm 500 lo ∧ sm 500 hi ∧
  ((isL ms = false ∧ Bad C H E) ∨ ∃ ns : List Int, ms = some (ns.map V.int) ∧ LotS ns ∧ ∀ H', Same H H' → Q (.int (betw ns lo hi)) H')
theorem sc16b : FnScope ["lot", "low", "high"] ["lot", "low", "high"] (defScope (top 16)) := ⟨rfl, rfl, rfl, by decide +kernel, rfl, by decide +kernel, by decide +kernel⟩
theorem ok_betw {f : Addr} {fd : FuncData} (CR : Cal P w K mg base (L2.CX P w) 4 "residues" ["lot"] (spRes K C)) (CP : Cal P w K mg base CX0 1 "product_of" ["numbers"] (spProd K))
    (CB : Cal P w K mg base CX0 2 "leaving_between" ["rests", "whole", "low", "high"] (spBetwL K)) (F : Fun K "fitting_between" "fitting_between" (top 16) f fd) : FnOk P w K mg base (L2.CX P w) 5 f fd ["lot", "low", "high"] (spBetw K C) := by
  refine F.okX sc16b (fun vs H Q E h => ?_) (fun cdv A outer s H vs Q E hr h => ⟨_,
    pss_one (ps_ret (by exact (pe_cal CB hr (by decide) (pa_cons (by exact (pe_calX CR hr (by decide) (takes_of rfl rfl rfl rfl) (fun _ _ _ _ z => z) (pa_cons (pv 0) pa_nil))) (pa_cons (by exact (pe_cal CP hr (by decide) (pa_cons (pv 0) pa_nil))) (pa_cons (pv 1) (pa_cons (pv 2) pa_nil))))))), ?_⟩)
  · obtain ⟨v, lo, hi, ms, rfl, _⟩ := h
    rfl
  obtain ⟨v, lo, hi, ms, rfl, hv, slo, shi, h⟩ := h
  refine ⟨_, rfl, v, ms, rfl, hv, ?_⟩
  rcases h with ⟨hf, z⟩ | ⟨ns, rfl, hL, q⟩
  · exact .inl ⟨hf, z⟩
  refine .inr ⟨ns, rfl, hL, canon_len hL, fun H' p hH hp hc => ?_⟩
  obtain ⟨a, rfl, hS, _⟩ := hv
  have pp := prd_pos hL.ge
  refine ⟨_, rfl, a, ns, rfl, Same.seqT hH hS, hL, _, rfl, _, rfl, p, canon ns, prd ns, lo, hi, rfl, SqT.of hc, canon_len hL, pp, hL.prd, slo, shi, fun H2 h2 => q _ (hH.trans h2)⟩
end
end KV

/-! enumerate(tuple) in a for -/
namespace KV
open PySem PySem.Spec PyProof.Rows L2
open AutoSeq1 (wpAny_loadPart')
/-- what stands behind enumerate(t) -/
def enumHeap (hp : Heap) (a : Addr) : Heap :=
  (hp.push { cls := .type "tuple_iterator", data := .fields #[.ref a, .int 0 0] }).push { cls := .type "enumerate", data := .fields #[.none, .bool false, .ref hp.objs.size, rawInt 0, .none, .none] }
theorem enum_newT (a : Addr) (xs : Array Value) (k : Nat) (dd : Option Addr) (sl : Array (Option Value)) :
    Meets (Builtin.«enumerate.__new__» ⟨[.type "enumerate", .ref a], []⟩) (fun _ R st => st.heap.get? a = some { cls := .type "tuple", dict := dd, data := .seq xs k, slots := sl } ∧
      R (.ok (.ret (.ref (st.heap.push { cls := .type "tuple_iterator", data := .fields #[.ref a, .int 0 0] }).objs.size))) { st with heap := enumHeap st.heap a }) :=
  .of_wp fun P w B R st z => by
    obtain ⟨hp, gn, dr, tk, os⟩ := st; obtain ⟨ho, z⟩ := z
    have hsub := sub_enumerate
    have hT : Heap.IsTuple (Shared.heap ⟨hp, gn, dr, tk, os⟩) a xs := ⟨_, ho, rfl, k, rfl⟩
    wp_walk using wpAny_loadPart' ho
    refine wpAny_stack_any fun stk => wpAny_pure ?_
    split
    · rename_i c _ _ _ _ _
      cases (c == Value.type "enumerate")
      · wp_walk using wpAny_loadPart' ho, wpAny_pyIter_tuple hT
        exact ⟨_, rfl, z⟩
      · wp_walk using wpAny_loadPart' ho, wpAny_pyIter_tuple hT
        exact ⟨_, rfl, z⟩
    · wp_walk using wpAny_loadPart' ho, wpAny_pyIter_tuple hT
      exact ⟨_, rfl, z⟩
theorem call_enumT {P : Program} {w : World} {B : Around} {E : Value → Shared → Prop} {st : Shared} {a : Addr} {xs : Array Value} {Q : Value → Shared → Prop} (hT : IsTup st.heap a xs)
    (z : IsEnum (enumHeap st.heap a) (st.heap.objs.size + 1) st.heap.objs.size 0 .none → (enumHeap st.heap a).IsTupleIter st.heap.objs.size a 0 →
      (∀ b o, st.heap.get? b = some o → (enumHeap st.heap a).get? b = some o) → Q (.ref (st.heap.objs.size + 1)) { st with heap := enumHeap st.heap a }) :
    wpAny (model P w) B (call (.type "enumerate") [.ref a]) Q E st := by
  obtain ⟨⟨c, dd, dt, sl⟩, ho, hc, k, hd⟩ := hT
  have hc2 : c = .type "tuple" := hc
  have hd2 : dt = .seq xs k := hd
  subst hc2 hd2
  refine callType_new F.called_enumerate (by decide) (F.typeCall_enumerate_1 _) (F.newCall_enumerate_1 _) (fun obj => F.args_object_init_2 obj _) F.entry_enumerate_new (enum_newT a xs k dd sl) ⟨ho, ?_⟩
  have one : (st.heap.push { cls := .type "tuple_iterator", data := .fields #[.ref a, .int 0 0] }).objs.size = st.heap.objs.size + 1 := Heap.size_push ..
  show _ ∧ _
  rw [one]
  have en : IsEnum (enumHeap st.heap a) (st.heap.objs.size + 1) st.heap.objs.size 0 .none := by
    have q := Heap.get?_push_size (st.heap.push { cls := .type "tuple_iterator", data := .fields #[.ref a, .int 0 0] })
      (o := { cls := .type "enumerate", data := .fields #[.none, .bool false, .ref st.heap.objs.size, rawInt 0, .none, .none] }) rfl
    rw [one] at q
    exact q
  exact ⟨⟨_, en, rfl⟩, z en ⟨_, Heap.get?_push_of_some _ (Heap.get?_push_size _ rfl), rfl, rfl⟩ fun b o x => Heap.get?_push_of_some _ (Heap.get?_push_of_some _ x)⟩
/-- each item of the tuple at a, in a new pair -/
def Iet (K : PySem.W.Frag) (a : Addr) : It :=
  ⟨fun i H => ∃ (xs : List V) (x : V), SqT K H a xs ∧ xs[i]? = some x,
   fun i H v H' => ∃ T x, v = .ref T ∧ H T = none ∧ H' = upd H T (.tup [.int (i : Nat), x]) ∧ ∀ xs, SqT K H a xs → xs[i]? = some x,
   fun i H => ∃ xs : List V, SqT K H a xs ∧ xs.length ≤ i⟩
theorem turn_enumT {P : Program} {w : World} {K : PySem.W.Frag} {elts : List Expr} {kk : Nat} {tpos : Pos} (a e it : Addr) (hai : a ≠ it) (hea : e ≠ a) :
    Turn P w K (.Tuple elts kk tpos) (Iet K a) [e, it] e (fun i h => (∃ old, IsEnum h e it ((i : Nat) : Int) old) ∧ h.IsTupleIter it a i ∧ e ≠ it) where
  mem := by simp
  self := fun B i st Q E q z => let ⟨⟨_, he⟩, _⟩ := q; wpAny_pyIter_enum he z
  obj := fun i h q b hb => by
    obtain ⟨⟨old, he⟩, ⟨o, ho, hc, hd⟩, _⟩ := q
    rcases (show b = e ∨ b = it by simpa using hb) with z | z
    · rw [z]
      exact ⟨_, he, fun v y => nomatch y⟩
    · rw [z]
      exact ⟨o, ho, fun v y => by rw [hd] at y; cases y⟩
  keep := fun i h h' q k => let ⟨⟨old, he⟩, hi, hne⟩ := q; ⟨⟨old, k e (by simp) _ he⟩, hi.at fun o y => k it (by simp) o y, hne⟩
  item := by
    intro X hP hw hK hc i pins st σ H E I hf q hg
    subst hP hw hK
    obtain ⟨⟨old, he⟩, hit, hne⟩ := q
    obtain ⟨xs, x, hq, hx⟩ := hg
    obtain ⟨its, rv, p, hz⟩ := I.tuple hq
    obtain ⟨u, hu, ru⟩ := rv.get hx
    have el : e < st.heap.objs.size := Heap.lt_size he
    have il : it < st.heap.objs.size := by obtain ⟨_, y, _⟩ := hit; exact Heap.lt_size y
    have D := Draws.tuple (prog := X.prog) (w := X.w) (A := X.A.in1) (by exact I.ok.hd hc) it a hai its.toArray
    have hlt : i < its.toArray.size := by
      obtain ⟨y, _⟩ := List.getElem?_eq_some_iff.mp hu
      simpa using y
    refine wpAny_pyNext_enum_itemD D he ⟨hit, p⟩ hlt hne (by simp; exact ⟨hne, hea⟩) fun v h' tk hv ho hst hT hsz hk => ?_
    have huv : v = u := by
      have y : its.toArray[i]? = some v := hv
      have y2 : its.toArray[i]? = some u := by simpa using hu
      rw [y2] at y
      exact (Option.some.inj y).symm
    subst huv
    refine ⟨_, rfl, wpAny_letOwnedTupleGo_enum (s := { st with heap := h', toks := tk + 1 }) ho fun h2 he2 sb => ?_⟩
    have hT2 : h2.get? st.heap.objs.size = some { cls := .type "tuple", data := .seq #[.int i tk, v] } := (sb.2 _ (Nat.ne_of_gt el)).trans hT
    have new : ObjOk X.prog X.w (upd H st.heap.objs.size (.tup [.int (i : Nat), x])) h2 st.heap.objs.size (.tup [.int (i : Nat), x]) :=
      ⟨by show 2 ≤ sizeLine; decide, [.int i tk, v], .cons ⟨_, rfl⟩ (.cons ru .nil), ⟨_, hT2, rfl, _, rfl⟩⟩
    have I2 : Inv X pins σ (upd H st.heap.objs.size (.tup [.int (i : Nat), x])) { st with heap := h2, toks := tk + 1 } :=
      I.turnedNew (ch := [e, it]) (fun b ob hb y => (sb.2 b (fun z => hb (by simp [z]))).trans (hk b ob (fun z => hb (by simp [z])) (fun z => hb (by simp [z])) y)) hf (Nat.le_refl _) new
    refine ⟨.ref st.heap.objs.size, _, I2, rfl, ⟨_, x, rfl, I.hok.fresh (Nat.le_refl _), rfl, fun ys hy => by rw [I.tuple_inj hy hq]; exact hx⟩, ⟨⟨v, ?_⟩, hst.1.at fun o y => (sb.2 it (Ne.symm hne)).trans y, hne⟩, fun b hb => ?_⟩
    · have e1 : ((i + 1 : Nat) : Int) = (i : Int) + 1 := by omega
      rw [e1]
      exact he2
    · have lt : b < st.heap.objs.size := by
        rcases (show b = e ∨ b = it by simpa using hb) with z | z
        · rw [z]
          exact el
        · rw [z]
          exact il
      rw [upd_ne (Nat.ne_of_lt lt)]
      exact (hf b hb).1
  done := by
    intro X hP hw hK hc i pins st σ H E I hf q hg
    subst hP hw hK
    obtain ⟨⟨old, he⟩, hit, hne⟩ := q
    obtain ⟨xs, hq, hx⟩ := hg
    obtain ⟨its, rv, p, hz⟩ := I.tuple hq
    obtain ⟨f0, f1, f2, f3, f4, f5⟩ := hf it (by simp)
    have hl := rv.length
    unfold pyNext
    have hT : st.TypeIs (.ref e) "enumerate" := ⟨_, he, rfl⟩
    refine wpAny_bind (wpAny_attempt (wpAny_callSpecial?_slot (name := Str.ofString "__next__") hT F.slot_enumerate_next
      (wpAny_call_entry F.slot_enumerate_next hT F.entry_enumerate_next ?_ (F.args_enumerate_next_1 _))))
    show wpAny _ _ (field (.ref e) 2 >>= _) _ _ _
    refine wpAny_bind (wpAny_field he rfl (x := .ref it) rfl ?_)
    refine wpAny_bind (wpAny_nextOf_tuple_end (I.ok.hd hc) hit (show st.heap.IsTuple a its.toArray from p) (by simp; omega) fun h' x he' hx' => ?_)
    obtain ⟨o, ho, hc'⟩ := hx'
    refine wpAny_bind (wpAny_isInstance (T := "StopIteration") (b := true) ⟨o, ho, hc'⟩ isSubtype_stop ?_)
    exact wpAny_pure ⟨rfl, I.turned (t' := st.toks) (fun b o hb y => he' b o hb y) f0 f1 f3 f4 f5⟩
def iEnumT (K : PySem.W.Frag) (ta : TA) : TI := fun σ H R => ta σ H fun vs H1 => ∃ a xs, vs = [.ref a] ∧ SqT K H1 a xs ∧ R (Iet K a) H1
theorem pi_enumT {X : Cx} {e : Expr} {ta : TA} {p pos tpos : Pos} {elts : List Expr} {kk : Nat} (hg : Gl X "enumerate") (hm : X.mg "enumerate" = none) (ha : PA X [e] ta) (hs : starEach [e] X.env = [(false, eval e X.env)] := by rfl) :
    PI X (.Tuple elts kk tpos) (.Call (.Name "enumerate" p) [e] [] pos) (iEnumT X.K ta) := by
  constructor
  intro pins st σ H R I h
  refine Call_ (ld_blt I hg hm boot_enumerate (PyProof.Rows.callWith_type1 (thn (ha.run pos pins st σ H _ I h) fun us s1 ⟨vs, H1, I1, r1, q1⟩ => ?_) hs rfl))
  obtain ⟨a, xs, ex, hq, q⟩ := q1
  subst ex
  cases r1 with
  | cons r rr =>
    cases rr
    cases r
    obtain ⟨its, rv, p', hz⟩ := I1.tuple hq
    refine call_enumT p' fun en hit hk => wpAny_pyIter_enum en ?_
    have al : a < s1.heap.objs.size := p'.lt
    refine ⟨s1.heap.objs.size + 1, [s1.heap.objs.size + 1, s1.heap.objs.size], _, _, H1, rfl, I1.kept (t' := s1.toks) hk, turn_enumT a (s1.heap.objs.size + 1) s1.heap.objs.size (Nat.ne_of_lt al) (Nat.ne_of_gt (Nat.lt_succ_of_lt al)), ⟨⟨.none, en⟩, hit, Nat.succ_ne_self _⟩, fun b hb => ?_, q⟩
    have le : s1.heap.objs.size ≤ b := by
      rcases (show b = s1.heap.objs.size + 1 ∨ b = s1.heap.objs.size by simpa using hb) with z | z
      · rw [z]
        exact Nat.le_succ _
      · rw [z]
        exact Nat.le_refl _
    exact I1.fpOk le (I1.hok.fresh le)
/-- the loop -/
theorem for_enumT {K : PySem.W.Frag} {a : Addr} {xs : List V} {g : TG} {tb : TS} {D : Ends} {σ : L2.St} {H : Hp} (Pv : Nat → L2.St → Hp → Prop) (h0 : Pv 0 σ H) (hl : ∀ i σ H, i ≤ xs.length → Pv i σ H → SqT K H a xs)
    (hs : ∀ i x σ H T, xs[i]? = some x → Pv i σ H → H T = none → g (.ref T) σ (upd H T (.tup [.int (i : Nat), x])) fun σ2 H2 => tb { D with nx := Pv (i + 1), ct := Pv (i + 1), bk := D.nx } σ2 H2) (hd : ∀ σ H, Pv xs.length σ H → D.nx σ H) :
    ∃ W : Nat → Nat → L2.St → Hp → Prop, (∃ m, W 0 m σ H) ∧ ∀ i m σ H, W i m σ H → ((Iet K a).stop i H ∧ D.nx σ H) ∨ ((Iet K a).go i H ∧ ∃ N : L2.St → Hp → Prop, (∀ σ' H', N σ' H' → ∃ m', m' < m ∧ W (i + 1) m' σ' H') ∧
      ∀ x H', (Iet K a).yld i H x H' → g x σ H' fun σ2 H2 => tb { D with nx := N, ct := N, bk := D.nx } σ2 H2) := by
  refine ⟨fun i m σ H => m = xs.length - i ∧ i ≤ xs.length ∧ Pv i σ H, ⟨xs.length, by simp, Nat.zero_le _, h0⟩, ?_⟩
  intro i m σ H w
  obtain ⟨em, hi, p⟩ := w
  subst em
  have q := hl i σ H hi p
  by_cases lt : i < xs.length
  · refine .inr ⟨⟨xs, xs[i], q, by simp [lt]⟩, Pv (i + 1), fun σ' H' p' => ⟨xs.length - (i + 1), by omega, rfl, lt, p'⟩, fun x H' y => ?_⟩
    obtain ⟨T, y1, rfl, hT, rfl, y2⟩ := y
    exact hs i y1 σ H T (y2 xs q) p hT
  · have e : i = xs.length := by omega
    subst e
    exact .inl ⟨⟨xs, q, Nat.le_refl _⟩, hd σ H p⟩
end KV

/-! the law's draws -/
namespace KV
open PySem PySem.Spec PyProof.Rows L2 KM
theorem canLay_ints : ∀ ns : List Int, PyData.canLayAll0 (ns.map PyData.int) = true
  | [] => rfl
  | n :: r => by simp only [List.map_cons, PyData.canLayAll0, PyData.canLay0, canLay_ints r, Bool.and_self]
theorem shaped_ints (ns : List Int) : SeqAt.shaped (.list (ns.map PyData.int)) = true := by
  unfold SeqAt.shaped
  simp only [PyData.canLay0, canLay_ints, PyData.depth, depth_ints]
  decide
theorem eqv_ints : ∀ ns ms : List Int, PyData.eqvAll (ns.map PyData.int) (ms.map PyData.int) = decide (ns = ms)
  | [], [] => rfl
  | [], _ :: _ => rfl
  | _ :: _, [] => rfl
  | n :: r, m :: s => by
    show (PyData.eqv (.int n) (.int m) && PyData.eqvAll (r.map PyData.int) (s.map PyData.int)) = _
    rw [eqv_ints r s]
    have e : PyData.eqv (.int n) (.int m) = decide (n = m) := by
      show (n == m) = _
      by_cases z : n = m <;> simp [z]
    rw [e]
    by_cases z : n = m <;> by_cases y : r = s <;> simp [z, y]
theorem dpL {K : PySem.W.Frag} {H : Hp} {a : Addr} {ns : List Int} (h : SqL K H a (ns.map V.int)) : Dp K H (.ref a) (.list (ns.map PyData.int)) := .lst h (dp_ints ns)
/-- xs != ys, xs == ys of lists of ints: the answer -/
theorem neL {K : PySem.W.Frag} {H : Hp} {a b : Addr} {ns ms : List Int} {Q : VK} (h1 : SqL K H a (ns.map V.int)) (h2 : SqL K H b (ms.map V.int)) (q : Q (.bl (!decide (ns = ms))) H) : rNeD K (.ref a) (.ref b) H Q :=
  ⟨_, _, dpL h1, dpL h2, shaped_ints ns, shaped_ints ms, by
    have e : PyData.eqv (.list (ns.map PyData.int)) (.list (ms.map PyData.int)) = decide (ns = ms) := eqv_ints ns ms
    rw [e]
    exact q⟩
theorem eqL {K : PySem.W.Frag} {H : Hp} {a b : Addr} {ns ms : List Int} {Q : VK} (h1 : SqL K H a (ns.map V.int)) (h2 : SqL K H b (ms.map V.int)) (q : Q (.bl (decide (ns = ms))) H) : rEqD K (.ref a) (.ref b) H Q :=
  ⟨_, _, dpL h1, dpL h2, shaped_ints ns, shaped_ints ms, by
    have e : PyData.eqv (.list (ns.map PyData.int)) (.list (ms.map PyData.int)) = decide (ns = ms) := eqv_ints ns ms
    rw [e]
    exact q⟩
/-- the source of draws at d, its cells at c -/
def Dl (H : Hp) (d c : Addr) : Prop := d ≠ c ∧ ∃ (cs : List Int) (b : Int), H d = some (.lst [.ref c, .int b]) ∧ H c = some (.lst (cs.map V.int)) ∧ (∀ x ∈ cs, 0 ≤ x) ∧ cs.length ≤ 64 ∧ 0 ≤ b ∧ b < 2147483648
/-- all else stands -/
def Kp (d c : Addr) (H H' : Hp) : Prop := ∀ b o, b ≠ d → b ≠ c → H b = some o → H' b = some o
theorem Kp.refl {d c : Addr} {H : Hp} : Kp d c H H := fun _ _ _ _ h => h
theorem Kp.trans {d c : Addr} {H H1 H2 : Hp} (a : Kp d c H H1) (b : Kp d c H1 H2) : Kp d c H H2 := fun x o h1 h2 h => b x o h1 h2 (a x o h1 h2 h)
theorem Kp.of {d c : Addr} {H H' : Hp} (s : Same H H') : Kp d c H H' := fun b o _ _ h => s b o h
theorem Kp.upd_d {d c : Addr} {H H' : Hp} {o : HO} (k : Kp d c H H') : Kp d c H (upd H' d o) := fun b u h1 h2 h => by
  rw [upd_ne h1]
  exact k b u h1 h2 h
theorem Kp.upd_c {d c : Addr} {H H' : Hp} {o : HO} (k : Kp d c H H') : Kp d c H (upd H' c o) := fun b u h1 h2 h => by
  rw [upd_ne h2]
  exact k b u h1 h2 h
theorem Kp.new {d c p : Addr} {H H' : Hp} {o : HO} (k : Kp d c H H') (hp : H' p = none) : Kp d c H (upd H' p o) := k.trans (Kp.of (Same.new hp))
theorem Kp.free {d c p : Addr} {H H' : Hp} (k : Kp d c H H') (hd : p ≠ d) (hc : p ≠ c) (hp : H' p = none) : H p = none := by
  cases e : H p with
  | none => rfl
  | some o =>
    rw [k p o hd hc e] at hp
    cases hp
theorem Dl.same {H H' : Hp} {d c : Addr} (h : Dl H d c) (s : Same H H') : Dl H' d c := by
  obtain ⟨n, cs, b, h1, h2, r⟩ := h
  exact ⟨n, cs, b, s _ _ h1, s _ _ h2, r⟩
theorem Dl.ne {H : Hp} {d c p : Addr} (h : Dl H d c) (hp : H p = none) : p ≠ d ∧ p ≠ c := by
  obtain ⟨_, cs, b, h1, h2, _⟩ := h
  exact ⟨fun e => (by rw [e, h1] at hp; cases hp), fun e => (by rw [e, h2] at hp; cases hp)⟩
theorem Dl.neT {H : Hp} {d c p : Addr} {xs : List V} (h : Dl H d c) (hp : H p = some (.tup xs)) : p ≠ d ∧ p ≠ c := by
  obtain ⟨_, cs, b, h1, h2, _⟩ := h
  exact ⟨fun e => (by rw [e, h1] at hp; cases hp), fun e => (by rw [e, h2] at hp; cases hp)⟩
section
variable {P : Program} {w : World} {K : PySem.W.Frag} {mg : Str → Option Value} {base : Heap}
def spDraw (K : PySem.W.Frag) : Sp := fun vs H Q _ => ∃ (a : Addr) (ns : List Int) (sa : Int), vs = [.ref a, .int sa] ∧ SqL K H a (ns.map V.int) ∧ 0 ≤ sa ∧ sa < 1000 ∧ ∀ H' d c, Same H H' → H d = none → H c = none → Dl H' d c → Q (.ref d) H'
theorem sc19 : FnScope ["_law_script", "_law_salt", "_law_cell", "_law_cells", "_law_blend"] ["_law_script", "_law_salt"] (defScope (top 21)) := ⟨rfl, rfl, rfl, by decide +kernel, rfl, by decide +kernel, by decide +kernel⟩
theorem ok_draw {f : Addr} {fd : FuncData} (B : Bl mg) (F : Fun K "_law_draw" "_law_draw" (top 21) f fd) : FnOk P w K mg base CX0 1 f fd ["_law_script", "_law_salt"] (spDraw K) := by
  refine F.ok sc19 (fun vs H Q E h => ?_) (fun cdv A outer s H vs Q E hr h => ⟨_,
    pss_cons (ps_setLc (i := 3) (own := [("_law_cell", 2)]) (g := gName 2) (tt := tYes) rfl sc19.nd rfl rfl (sw_true rfl rfl rfl (by decide +kernel)) (pi_list (pe_slice sl_list (pv 0) po_none (po_some pe_int)))
      (blkOk_by (N := ["_law_script", "_law_salt", "_law_cell", "_law_cells", "_law_blend"]) (sc := defScope (top 21)) (by decide +kernel)) (fun _ _ _ _ _ => pg_name (i := 2) sc19.nd rfl (Or.inl rfl)) (fun _ _ _ _ _ => pts_nil)
      (fun _ _ _ _ _ => pe_callB call_abs (by rfl) B.abs (by decide +kernel) (pa_cons (pe_callTy call_int1 (by rfl) B.int PyProof.Rows.boot_int (pa_cons (pv 2) pa_nil)) pa_nil)))
    (pss_cons (ps_set (i := 4) sc19.nd rfl (.inl rfl) (pe_op op_add pe_int (pe_op op_mul pe_int (pv 1))))
    (pss_cons (ps_for PassesOwn.never rfl (pi_list (pv 3)) (pg_name (i := 2) sc19.nd rfl (.inl rfl))
      (pss_one (ps_set (i := 4) sc19.nd rfl (.inl rfl) (pe_op op_mod (pe_callTy call_int1 (by rfl) B.int PyProof.Rows.boot_int (pa_cons (pe_op op_add (pe_op op_add (pe_op op_mul (pv 4) pe_int) (pe_op op_mod (pv 2) pe_int)) pe_int) pa_nil)) pe_int))))
    (pss_one (ps_ret (pe_lst (pa_cons (pe_revL
      (pe_lc (own := [("_law_cell", 2)]) (g := gName 2) rfl sc19.nd (pi_list (pv 3)) (blkOk_by (N := ["_law_script", "_law_salt", "_law_cell", "_law_cells", "_law_blend"]) (sc := defScope (top 21)) (by decide +kernel))
        (fun _ _ _ _ _ => pg_name (i := 2) sc19.nd rfl (Or.inl rfl)) (fun _ _ _ _ _ => pts_one (pt_cmpR op_ge (pv 2) (pe_op op_pow pe_int pe_int) (nomark _))) (fun _ _ _ _ _ => pv 2))) (pa_cons (pv 4) pa_nil))))))), ?_⟩)
  · obtain ⟨a, ns, sa, rfl, _⟩ := h
    rfl
  obtain ⟨a, ns, sa, rfl, hS, s0, s1, q⟩ := h
  refine ⟨_, rfl, _, rfl, a, _, rfl, hS, fun p hp => ?_⟩
  have ecut : cutV (ns.map V.int) none (some 48) = (ns.take 48).map V.int := by
    unfold cutV
    have e1 : HT.sIx (ns.map V.int).length 0 none = 0 := rfl
    have e2 : HT.sIx (ns.map V.int).length (ns.map V.int).length (some 48) = min 48 (ns.map V.int).length := HT.sIx_nat _ _ 48
    rw [e1, e2, List.drop_zero, Nat.sub_zero, List.length_map, List.map_take]
    rw [← List.length_map (f := V.int) (as := ns)]
    exact List.take_eq_take_min.symm
  have sp : Same H (upd H p (.lst (cutV (ns.map V.int) none (some 48)))) := Same.new hp
  have hpS : SqL K (upd H p (.lst (cutV (ns.map V.int) none (some 48)))) p ((ns.take 48).map V.int) := SqL.of (by rw [upd_same, ecut])
  generalize upd H p (.lst (cutV (ns.map V.int) none (some 48))) = H1 at sp hpS
  have l48 : (ns.take 48).length ≤ 48 := by rw [List.length_take]; omega
  generalize ns.take 48 = ms at hpS l48
  refine ⟨p, rfl, ⟨_, hpS⟩, fun D hD => lc_list (xs := ms.map V.int) (fun i H' => Same H1 H' ∧ ∃ cs : List Int, cs.length = i ∧ (∀ x ∈ cs, 0 ≤ x) ∧ H' D = some (.lst (cs.map V.int))) ⟨Same.new hD, [], rfl, fun _ z => by simp at z, upd_same⟩
    (fun i H' _ z => z.1.seq hpS) ?_ ?_⟩
  · rintro i x H' hx ⟨p1, cs, cl, c0, p2⟩
    obtain ⟨m, hm, rfl⟩ := map_at hx
    have hi := (List.getElem?_eq_some_iff.mp hm).1
    refine ⟨rfl, _, rfl, .inl ⟨m, rfl, m, rfl, cs.map V.int, p2, len_lt (by rw [List.length_map]; omega), Same.upd p1 hD, cs ++ [if m < 0 then -m else m], by simp [cl], fun y hy => ?_, ?_⟩⟩
    · rcases List.mem_append.mp hy with hy | hy
      · exact c0 y hy
      · have : y = if m < 0 then -m else m := by simpa using hy
        rw [this]
        split <;> omega
    · rw [upd_same, List.map_append]
      rfl
  · rintro H' ⟨p1, cs, cl, c0, p2⟩
    rw [List.length_map] at cl
    refine ⟨_, rfl, _, _, rfl, rfl, .inl ⟨by decide, by omega⟩, _, _, rfl, rfl, ?_⟩
    refine ⟨_, rfl, D, rfl, ⟨_, SqL.of p2⟩, for_list (xs := cs.map V.int) (fun i σ H2 => (∃ (u : Option V) (b : Int), 0 ≤ b ∧ b < 2147483648 ∧ σ = [some (.ref a), some (.int sa), u, some (.ref D), some (.int b)]) ∧ H2 = H')
      ⟨⟨none, _, ?_, ?_, rfl⟩, rfl⟩ ?_ ?_ ?_⟩
    · show 0 ≤ 7919 + 104729 * sa
      omega
    · show 7919 + 104729 * sa < 2147483648
      omega
    · rintro i σ H2 _ ⟨_, rfl⟩
      exact SqL.of p2
    · rintro i x σ H2 hx ⟨⟨u, b, b0, b1, rfl⟩, rfl⟩
      obtain ⟨m, hm, rfl⟩ := map_at hx
      refine ⟨_, rfl, _, _, rfl, rfl, .inl ⟨by omega, by omega⟩, _, rfl, _, _, rfl, rfl, (by show (0 : Int) < 2147483549; decide), _, _, rfl, rfl, _, _, rfl, rfl, .inl ⟨_, rfl, _, _, rfl, rfl, (by show (0 : Int) < 2147483647; decide), ⟨some (.int m), _, ?_, ?_, rfl⟩, rfl⟩⟩
      · exact Int.emod_nonneg _ (by decide)
      · have := Int.emod_lt_of_pos (b * 48271 + m % 2147483549 + 11) (show (0 : Int) < 2147483647 by decide)
        omega
    · rintro σ H2 ⟨⟨u, b, b0, b1, rfl⟩, rfl⟩
      refine ⟨_, rfl, D, rfl, ⟨_, SqL.of p2⟩, fun D2 hD2 => lc_list (xs := cs.map V.int) (fun i H3 => Same H2 H3 ∧ ∃ es : List Int, es.length ≤ i ∧ (∀ x ∈ es, 0 ≤ x) ∧ H3 D2 = some (.lst (es.map V.int))) ⟨Same.new hD2, [], Nat.le_refl _, fun _ z => by simp at z, upd_same⟩
        (fun i H3 _ z => z.1.seq (SqL.of p2)) ?_ ?_⟩
      · rintro i x H3 hx ⟨q1, es, el, e0, q2⟩
        obtain ⟨m, hm, rfl⟩ := map_at hx
        have hi := (List.getElem?_eq_some_iff.mp hm).1
        refine ⟨rfl, _, rfl, _, _, rfl, rfl, ⟨by decide, by decide, by decide⟩, _, _, rfl, rfl, _, rfl, ?_⟩
        cases decide ((10 : Int) ^ (18 : Int).toNat ≤ m) with
        | true =>
          refine iteT ⟨_, rfl, es.map V.int, q2, len_lt (by rw [List.length_map]; omega), Same.upd q1 hD2, es ++ [m], by simp; omega, fun y hy => ?_, ?_⟩
          · rcases List.mem_append.mp hy with hy | hy
            · exact e0 y hy
            · have : y = m := by simpa using hy
              rw [this]
              exact c0 m (List.mem_of_getElem? hm)
          · rw [upd_same, List.map_append]
            rfl
        | false => exact iteF ⟨q1, es, by omega, e0, q2⟩
      · rintro H3 ⟨q1, es, el, e0, q2⟩
        rw [List.length_map] at el
        refine ⟨D2, _, rfl, SqL.of q2, fun c hc => ⟨_, rfl, (by show 2 ≤ sizeLine; decide), fun d hd => ?_⟩⟩
        have t1 : Same H H3 := (sp.trans p1).trans q1
        have t2 : Same H (upd H3 c (.lst (es.map V.int).reverse)) := Same.upd t1 (t1.free hc)
        have dc : d ≠ c := fun e => by
          rw [e, upd_same] at hd
          cases hd
        refine q _ d c (Same.upd t2 (t2.free hd)) (t2.free hd) (t1.free hc) ⟨dc, es.reverse, b, upd_same, ?_, fun x hx => e0 x (by simpa using hx), by rw [List.length_reverse]; omega, b0, b1⟩
        rw [upd_ne (Ne.symm dc), upd_same, List.map_reverse]
end
end KV

/-! any, of, divisor -/
namespace KV
open PySem PySem.Spec PyProof.Rows L2 KM
theorem iteP {c : Prop} [Decidable c] {A B : Prop} (h : c) (x : A) : if c then A else B := by rw [if_pos h]; exact x
theorem iteN {c : Prop} [Decidable c] {A B : Prop} (h : ¬ c) (x : B) : if c then A else B := by rw [if_neg h]; exact x
/-- what holds between two statements -/
theorem sq_cut {a b : TS} {D : Ends} {σ : L2.St} {H : Hp} (N : L2.St → Hp → Prop) (hs : ∀ Z : L2.St → Hp → Prop, (∀ σ' H', N σ' H' → Z σ' H') → a { nx := Z, rt := D.rt, bk := D.bk, ct := D.ct } σ H) (ht : ∀ σ' H', N σ' H' → b D σ' H') : tSeq a b D σ H := hs _ ht
section
variable {P : Program} {w : World} {K : PySem.W.Frag} {mg : Str → Option Value} {base : Heap}
def spAny : Sp := fun vs H Q _ => ∃ (d c : Addr) (m : Int), vs = [.ref d, .int m] ∧ Dl H d c ∧ 0 < m ∧ sm 200 m ∧ ∀ r H', 0 ≤ r → r < m → Dl H' d c → Kp d c H H' → Q (.int r) H'
theorem sc20 : FnScope ["_law_deal", "_law_bound", "_law_rest"] ["_law_deal", "_law_bound"] (defScope (top 22)) := ⟨rfl, rfl, rfl, by decide +kernel, rfl, by decide +kernel, by decide +kernel⟩
theorem at0 {x y : V} : atI [x, y] 0 = some x := rfl
theorem at1 {x y : V} : atI [x, y] 1 = some y := rfl
theorem at_last {es : List Int} {e : Int} : atI ((es ++ [e]).map V.int) (-1) = some (.int e) := by
  have hl : ((es ++ [e]).map V.int).length = es.length + 1 := by simp
  unfold atI L2.ixN
  rw [hl, if_neg (by decide), if_pos (by omega)]
  have e1 : (-1 + ((es.length + 1 : Nat) : Int)).toNat = es.length := by omega
  show ((es ++ [e]).map V.int)[(-1 + ((es.length + 1 : Nat) : Int)).toNat]? = _
  rw [e1, List.map_append, List.getElem?_append_right (by simp)]
  simp
theorem last_at {es : List Int} {e : Int} : ((es ++ [e]).map V.int)[((es ++ [e]).map V.int).length - 1]? = some (V.int e) := by
  rw [List.map_append, List.getElem?_append_right (by simp)]
  simp
theorem last_drop {es : List Int} {e : Int} : ((es ++ [e]).map V.int).dropLast = es.map V.int := by
  rw [List.map_append]
  exact List.dropLast_concat
def AnyW (d c : Addr) (m b : Int) (H : Hp) (k : Nat) (σ : L2.St) (H' : Hp) : Prop := σ = [some (.ref d), some (.int m), none] ∧ Kp d c H H' ∧ ∃ es : List Int, k = es.length ∧ (∀ x ∈ es, 0 ≤ x) ∧ es.length ≤ 64 ∧ H' d = some (.lst [.ref c, .int b]) ∧ H' c = some (.lst (es.map V.int))
theorem ok_any {f : Addr} {fd : FuncData} (B : Bl mg) (F : Fun K "_law_any" "_law_any" (top 22) f fd) : FnOk P w K mg base CX0 1 f fd ["_law_deal", "_law_bound"] spAny := by
  refine F.ok sc20 (fun vs H Q E h => ?_) (fun cdv A outer s H vs Q E hr h => ⟨_,
    pss_cons (ps_while PassesOwn.never (PW.pt (pw_and (pt_cmpR (op_neD hr.units) (pe_ix ix_list (pv 0) pe_int (fun _ _ => rfl)) (pe_lst pa_nil) (nomark _))
        (pw_and1 (pt_cmpR op_eq (pe_ix ix_list (pe_ix ix_list (pv 0) pe_int (fun _ _ => rfl)) (pe_un un_neg pe_int) (fun _ _ => rfl)) pe_int (nomark _)))))
      (pss_one (ps_expr (pe_bm0 PySem.F.plainAttrs_list PySem.F.slot_list_pop PySem.F.type_list_pop mt_pop (pe_ix ix_list (pv 0) pe_int (fun _ _ => rfl))))))
    (pss_cons (ps_if (pt_cmpR (op_neD hr.units) (pe_ix ix_list (pv 0) pe_int (fun _ _ => rfl)) (pe_lst pa_nil) (nomark _))
      (pss_cons (ps_set (i := 2) sc20.nd rfl (.inl rfl) (pe_callTy call_int1 (by rfl) B.int PyProof.Rows.boot_int (pa_cons (pe_bm0 PySem.F.plainAttrs_list PySem.F.slot_list_pop PySem.F.type_list_pop mt_pop (pe_ix ix_list (pv 0) pe_int (fun _ _ => rfl))) pa_nil)))
      (pss_cons (ps_expr (pe_bm PySem.F.plainAttrs_list PySem.F.slot_list_append PySem.F.type_list_append mt_append (pe_ix ix_list (pv 0) pe_int (fun _ _ => rfl)) (pa_cons (pe_op op_fdivW (pv 2) (pv 1)) pa_nil)))
      (pss_one (ps_ret (pe_op op_mod (pv 2) (pv 1)))))) pss_nil)
    (pss_cons (ps_asg (pe_op op_mod (pe_callTy call_int1 (by rfl) B.int PyProof.Rows.boot_int (pa_cons (pe_op op_add (pe_op op_mul (pe_ix ix_list (pv 0) pe_int (fun _ _ => rfl)) pe_int) pe_int) pa_nil)) pe_int) (pg_sub (pv 0) pe_int set_list))
    (pss_one (ps_ret (pe_op op_mod (pe_callTy call_int1 (by rfl) B.int PyProof.Rows.boot_int (pa_cons (pe_op op_fdiv (pe_ix ix_list (pv 0) pe_int (fun _ _ => rfl)) pe_int) pa_nil)) (pv 1)))))), ?_⟩)
  · obtain ⟨d, c, m, rfl, _⟩ := h
    rfl
  obtain ⟨d, c, m, rfl, hD, m0, ms, q⟩ := h
  obtain ⟨dc, cs, b, h1, h2, c0, cl, b0, b1⟩ := hD
  refine sq_cut (fun σ H' => σ = [some (.ref d), some (.int m), none] ∧ Kp d c H H' ∧ ∃ es : List Int, (∀ x ∈ es, 0 ≤ x) ∧ es.length ≤ 64 ∧ H' d = some (.lst [.ref c, .int b]) ∧ H' c = some (.lst (es.map V.int))) (fun Z hZ => ?_) ?_
  · refine ⟨AnyW d c m b H,
      ⟨_, rfl, Kp.refl, cs, rfl, c0, cl, h1, h2⟩, ?_⟩
    rintro k σ H' ⟨rfl, hk, es, rfl, e0, el, g1, g2⟩
    refine ⟨_, rfl, d, _, _, _, rfl, rfl, SqL.of g1, at0, (by show 0 ≤ sizeLine; decide), fun p hp => ?_⟩
    have hpc : p ≠ c := fun e => by rw [e, g2] at hp; cases hp
    have hpd : p ≠ d := fun e => by rw [e, g1] at hp; cases hp
    have u1 : upd H' p (.lst []) d = some (.lst [.ref c, .int b]) := by rw [upd_ne (Ne.symm hpd)]; exact g1
    have u2 : upd H' p (.lst []) c = some (.lst (es.map V.int)) := by rw [upd_ne (Ne.symm hpc)]; exact g2
    have uk : Kp d c H (upd H' p (.lst [])) := hk.new hp
    have u3 : upd H' p (.lst []) p = some (.lst []) := upd_same
    generalize upd H' p (.lst []) = H1 at u1 u2 u3 uk
    refine neL (ns := es) (ms := []) (SqL.of u2) (SqL.of u3) ⟨_, rfl, ?_⟩
    rcases List.eq_nil_or_concat es with rfl | ⟨es', e, ee⟩
    · exact iteN (by simp) (iteF (hZ _ _ ⟨rfl, uk, [], fun _ z => by simp at z, by simp, u1, u2⟩))
    · rw [List.concat_eq_append] at ee
      subst ee
      refine iteP (by simp) ⟨_, rfl, d, _, _, _, rfl, rfl, SqL.of u1, at0, ?_⟩
      refine ⟨_, rfl, c, _, _, _, rfl, rfl, SqL.of u2, at_last, rfl, _, rfl, ?_⟩
      by_cases e1 : e = 0
      · refine iteP (by simp [e1]) ⟨fun σ H' => ∃ m', m' < (es' ++ [e]).length ∧ AnyW d c m b H m' σ H', fun _ _ z => z, _, rfl, d, _, _, _, rfl, rfl, SqL.of u1, at0, .inl ⟨rfl, _, SqL.of u2⟩, c, _, _, rfl, rfl, u2, last_at, ?_⟩
        rw [last_drop]
        refine ⟨es'.length, by simp, rfl, uk.upd_c, es', rfl, fun x hx => e0 x (by simp [hx]), by simp at el; omega, ?_, upd_same⟩
        rw [upd_ne dc]
        exact u1
      · exact iteN (by simp [e1]) (hZ _ _ ⟨rfl, uk, _, e0, el, u1, u2⟩)
  · rintro σ H' ⟨rfl, hk, es, e0, el, g1, g2⟩
    refine ⟨_, rfl, d, _, _, _, rfl, rfl, SqL.of g1, at0, (by show 0 ≤ sizeLine; decide), fun p hp => ?_⟩
    have hpc : p ≠ c := fun e => by rw [e, g2] at hp; cases hp
    have hpd : p ≠ d := fun e => by rw [e, g1] at hp; cases hp
    have u1 : upd H' p (.lst []) d = some (.lst [.ref c, .int b]) := by rw [upd_ne (Ne.symm hpd)]; exact g1
    have u2 : upd H' p (.lst []) c = some (.lst (es.map V.int)) := by rw [upd_ne (Ne.symm hpc)]; exact g2
    have uk : Kp d c H (upd H' p (.lst [])) := hk.new hp
    have u3 : upd H' p (.lst []) p = some (.lst []) := upd_same
    generalize upd H' p (.lst []) = H1 at u1 u2 u3 uk
    refine neL (ns := es) (ms := []) (SqL.of u2) (SqL.of u3) ⟨_, rfl, ?_⟩
    rcases List.eq_nil_or_concat es with rfl | ⟨es', e, ee⟩
    · refine iteN (by simp) ⟨_, rfl, d, _, _, _, rfl, rfl, SqL.of u1, at1, _, _, rfl, rfl, .inl ⟨by omega, by omega⟩, _, _, rfl, rfl, .inl ⟨_, rfl, _, _, rfl, rfl, (by show (0 : Int) < 2147483647; decide), _, rfl, d, _, _, _, rfl, rfl, u1, rfl, ?_⟩⟩
      have f0 := Int.emod_nonneg (b * 40693 + 71) (show (2147483647 : Int) ≠ 0 by decide)
      have f1 := Int.emod_lt_of_pos (b * 40693 + 71) (show (0 : Int) < 2147483647 by decide)
      obtain ⟨b', eb⟩ : ∃ b', b' = (b * 40693 + 71) % 2147483647 := ⟨_, rfl⟩
      rw [← eb] at f0 f1
      have e8 : [V.ref c, V.int b].set (Int.toNat 1) ((fun i j : Int => V.int (i % j)) (b * 40693 + 71) 2147483647) = [V.ref c, V.int b'] := by
        show [V.ref c, V.int ((b * 40693 + 71) % 2147483647)] = _
        rw [← eb]
      rw [e8]
      have w1 : upd H1 d (.lst [.ref c, .int b']) d = some (.lst [.ref c, .int b']) := upd_same
      have w2 : upd H1 d (.lst [.ref c, .int b']) c = some (.lst (([] : List Int).map V.int)) := by
        rw [upd_ne (Ne.symm dc)]
        exact u2
      have wk : Kp d c H (upd H1 d (.lst [.ref c, .int b'])) := uk.upd_d
      refine ⟨_, rfl, d, _, _, _, rfl, rfl, SqL.of w1, at1, _, _, rfl, rfl, ⟨by decide, by decide⟩, .inl ⟨_, rfl, _, rfl, _, _, rfl, rfl, m0, ?_⟩⟩
      exact q _ _ (Int.emod_nonneg _ (by omega)) (Int.emod_lt_of_pos _ m0) ⟨dc, [], b', w1, w2, fun _ z => by simp at z, by simp, f0, by omega⟩ wk
    · rw [List.concat_eq_append] at ee
      subst ee
      refine iteP (by simp) ⟨_, rfl, d, _, _, _, rfl, rfl, SqL.of u1, at0, .inl ⟨rfl, _, SqL.of u2⟩, c, _, _, rfl, rfl, u2, last_at, ?_⟩
      rw [last_drop]
      have w2 : upd H1 c (.lst (es'.map V.int)) c = some (.lst (es'.map V.int)) := upd_same
      have w1 : upd H1 c (.lst (es'.map V.int)) d = some (.lst [.ref c, .int b]) := by
        rw [upd_ne dc]
        exact u1
      have wk : Kp d c H (upd H1 c (.lst (es'.map V.int))) := uk.upd_c
      generalize upd H1 c (.lst (es'.map V.int)) = H3 at w1 w2 wk
      have el' : es'.length + 1 ≤ 64 := by simpa using el
      refine .inl ⟨e, rfl, _, rfl, d, _, _, _, rfl, rfl, SqL.of w1, at0, .inl ⟨rfl, _, SqL.of w2⟩, _, rfl, _, rfl, _, _, rfl, rfl, divW m0 ms (by decide) (by decide), c, _, _, rfl, rfl, w2, len_lt (by simp; omega), ?_⟩
      have x2 : upd H3 c (.lst (es'.map V.int ++ [V.int (e / m)])) c = some (.lst ((es' ++ [e / m]).map V.int)) := by rw [upd_same, List.map_append]; rfl
      have x1 : upd H3 c (.lst (es'.map V.int ++ [V.int (e / m)])) d = some (.lst [.ref c, .int b]) := by
        rw [upd_ne dc]
        exact w1
      have xk : Kp d c H (upd H3 c (.lst (es'.map V.int ++ [V.int (e / m)]))) := wk.upd_c
      generalize upd H3 c (.lst (es'.map V.int ++ [V.int (e / m)])) = H4 at x1 x2 xk
      refine ⟨_, rfl, _, rfl, _, _, rfl, rfl, m0, ?_⟩
      have e1 := e0 e (by simp)
      exact q _ _ (Int.emod_nonneg _ (by omega)) (Int.emod_lt_of_pos _ m0) ⟨dc, es' ++ [e / m], b, x1, x2, fun x hx => by
        rcases List.mem_append.mp hx with hx | hx
        · exact e0 x (by simp [hx])
        · have : x = e / m := by simpa using hx
          rw [this]
          exact Int.ediv_nonneg e1 (by omega), by simp; omega, b0, b1⟩ xk
end
end KV

/-! of, divisor -/
namespace KV
open PySem PySem.Spec PyProof.Rows L2 KM
theorem Kp.seqL {K : PySem.W.Frag} {d c : Addr} {H H' : Hp} {a : Addr} {xs : List V} (k : Kp d c H H') (hd : a ≠ d) (hc : a ≠ c) (h : SqL K H a xs) : SqL K H' a xs := by
  rcases h with (h | ⟨o, h⟩) | h
  · exact .inl (.inl (k _ _ hd hc h))
  · exact .inl (.inr ⟨o, k _ _ hd hc h⟩)
  · exact .inr h
theorem Kp.seqT {K : PySem.W.Frag} {d c : Addr} {H H' : Hp} {a : Addr} {xs : List V} (k : Kp d c H H') (hd : a ≠ d) (hc : a ≠ c) (h : SqT K H a xs) : SqT K H' a xs := by
  rcases h with (h | ⟨o, h⟩) | h
  · exact .inl (.inl (k _ _ hd hc h))
  · exact .inl (.inr ⟨o, k _ _ hd hc h⟩)
  · exact .inr h
section
variable {P : Program} {w : World} {K : PySem.W.Frag} {mg : Str → Option Value} {base : Heap}
def spOf (K : PySem.W.Frag) : Sp := fun vs H Q _ => ∃ (d c a : Addr) (xs : List V), vs = [.ref d, .ref a] ∧ Dl H d c ∧ a ≠ d ∧ a ≠ c ∧ SqL K H a xs ∧ 0 < xs.length ∧ xs.length ≤ 1000 ∧ ∀ (j : Nat) x H', xs[j]? = some x → Dl H' d c → Kp d c H H' → Q x H'
theorem sc21 : FnScope ["_law_deal", "_law_some"] ["_law_deal", "_law_some"] (defScope (top 23)) := ⟨rfl, rfl, rfl, by decide +kernel, rfl, by decide +kernel, by decide +kernel⟩
theorem ok_of {f : Addr} {fd : FuncData} (B : Bl mg) (CA : Cal P w K mg base CX0 1 "_law_any" ["_law_deal", "_law_bound"] spAny) (F : Fun K "_law_of" "_law_of" (top 23) f fd) : FnOk P w K mg base CX0 2 f fd ["_law_deal", "_law_some"] (spOf K) := by
  refine F.ok sc21 (fun vs H Q E h => ?_) (fun cdv A outer s H vs Q E hr h => ⟨_,
    pss_one (ps_ret (pe_ix ix_list (pv 1) (pe_cal (X := L2.Cx.nox _) CA hr (by decide) (pa_cons (pv 0) (pa_cons (pe_callB call_len_seq (by rfl) B.len PySem.boot_len (pa_cons (pv 1) pa_nil)) pa_nil))) (fun _ _ => rfl))), ?_⟩)
  · obtain ⟨d, c, a, xs, rfl, _⟩ := h
    rfl
  obtain ⟨d, c, a, xs, rfl, hD, ad, ac, hS, l0, l1, q⟩ := h
  refine ⟨_, rfl, _, rfl, _, rfl, a, xs, rfl, .inl hS, d, c, _, rfl, hD, by omega, ?_, fun r H' r0 r1 hD' hk => ?_⟩
  · exact sm_of (by omega) (Int.lt_of_le_of_lt (show (xs.length : Int) ≤ 1000 by omega) (by decide))
  · have hj : r.toNat < xs.length := by omega
    have e1 : atI xs r = some xs[r.toNat] := by
      unfold atI L2.ixN
      rw [if_pos r0, if_pos r1]
      exact List.getElem?_eq_getElem hj
    exact ⟨a, xs, r, _, rfl, rfl, hk.seqL ad ac hS, e1, q r.toNat _ _ (List.getElem?_eq_getElem hj) hD' hk⟩
theorem gcd_step {a b : Int} (ha : 0 ≤ a) (hb : 0 ≤ b) : Int.gcd b (a % b) = Int.gcd b a := by
  obtain ⟨m, rfl⟩ := Int.eq_ofNat_of_zero_le ha
  obtain ⟨n, rfl⟩ := Int.eq_ofNat_of_zero_le hb
  show Nat.gcd n (m % n) = Nat.gcd n m
  rw [Nat.gcd_comm]
  exact (Nat.gcd_rec n m).symm
def spDiv : Sp := fun vs H Q _ => ∃ x y : Int, vs = [.int x, .int y] ∧ 0 ≤ x ∧ 0 ≤ y ∧ Q (.int (Int.gcd x y)) H
theorem sc23 : FnScope ["_law_one", "_law_other"] ["_law_one", "_law_other"] (defScope (top 25)) := ⟨rfl, rfl, rfl, by decide +kernel, rfl, by decide +kernel, by decide +kernel⟩
theorem ok_div {f : Addr} {fd : FuncData} (B : Bl mg) (F : Fun K "_law_divisor" "_law_divisor" (top 25) f fd) : FnOk P w K mg base CX0 1 f fd ["_law_one", "_law_other"] spDiv := by
  refine F.ok sc23 (fun vs H Q E h => ?_) (fun cdv A outer s H vs Q E hr h => ⟨_,
    pss_cons (ps_while PassesOwn.never (pt_cmpR op_ne (pv 1) pe_int (nomark _)) (pss_one (ps_par (i := 0) (j := 1) rfl sc23.nd rfl rfl (by decide) rfl rfl (pa_cons (pv 1) (pa_cons (pe_op op_mod (pe_callTy call_int1 (by rfl) B.int PyProof.Rows.boot_int (pa_cons (pv 0) pa_nil)) (pv 1)) pa_nil)) (by rfl))))
    (pss_one (ps_ret (pv 0))), ?_⟩)
  · obtain ⟨x, y, rfl, _⟩ := h
    rfl
  obtain ⟨x, y, rfl, x0, y0, q⟩ := h
  refine ⟨fun k σ H' => ∃ a b : Int, k = b.toNat ∧ 0 ≤ a ∧ 0 ≤ b ∧ Int.gcd a b = Int.gcd x y ∧ σ = [some (.int a), some (.int b)] ∧ H' = H, ⟨_, x, y, rfl, x0, y0, rfl, rfl, rfl⟩, ?_⟩
  rintro k σ H' ⟨a, b, rfl, a0, b0, g, rfl, rfl⟩
  refine ⟨_, rfl, rfl, _, rfl, ?_⟩
  by_cases e : b = 0
  · subst e
    refine iteN (by simp) ⟨_, rfl, ?_⟩
    rw [← g] at q
    have e1 : (Int.gcd a 0 : Int) = a := by
      rw [Int.gcd_zero_right]
      omega
    rw [e1] at q
    exact q
  · have b1 : 0 < b := by omega
    refine iteP (by simp [e]) ⟨fun σ' H2 => ∃ a b' : Int, b'.toNat < b.toNat ∧ 0 ≤ a ∧ 0 ≤ b' ∧ Int.gcd a b' = Int.gcd x y ∧ σ' = [some (.int a), some (.int b')] ∧ H2 = H', fun σ' H2 ⟨a, b', h0, h1, h2, h3, h4, h5⟩ => ⟨_, h0, a, b', rfl, h1, h2, h3, h4, h5⟩, ?_⟩
    have m0 := Int.emod_nonneg a e
    have m1 := Int.emod_lt_of_pos a b1
    refine ⟨_, rfl, _, rfl, .inl ⟨_, rfl, _, rfl, _, _, rfl, rfl, b1, _, _, rfl, b, a % b, by omega, b0, m0, ?_, rfl, rfl⟩⟩
    rw [← g, Int.gcd_comm a b]
    exact gcd_step a0 b0
end
end KV

/-! lot -/
namespace KV
open PySem PySem.Spec PyProof.Rows L2 KM
theorem filt_nil {f : Int → Bool} {l : List Int} (h : l.filter f = []) : ∀ x ∈ l, f x = false := fun x hx => by
  cases e : f x with
  | false => rfl
  | true =>
    have : x ∈ l.filter f := List.mem_filter.mpr ⟨hx, e⟩
    rw [h] at this
    simp at this
theorem Dl.upd {H : Hp} {d c p : Addr} {o : HO} (h : Dl H d c) (hd : p ≠ d) (hc : p ≠ c) : Dl (L2.upd H p o) d c := by
  obtain ⟨n, cs, b, h1, h2, r⟩ := h
  exact ⟨n, cs, b, by rw [upd_ne (Ne.symm hd)]; exact h1, by rw [upd_ne (Ne.symm hc)]; exact h2, r⟩
theorem Kp.updn {d c p : Addr} {H H' : Hp} {o : HO} (k : Kp d c H H') (hp : H p = none) : Kp d c H (L2.upd H' p o) := fun b u h1 h2 h => by
  rw [upd_ne (ne_of_none h hp)]
  exact k b u h1 h2 h
theorem lots_of {ns ns' : List Int} (hb : ∀ n ∈ ns, 3 ≤ n ∧ n < 2 ^ 100) (hp : ns.Pairwise (fun a b => Int.gcd a b = 1)) (hl : ns.length ≤ 4) (pe : ns'.Perm ns) (so : ns'.Pairwise (fun a b => a ≤ b)) : LotS ns' := by
  have hp' : ns'.Pairwise (fun a b => Int.gcd a b = 1) := (pe.pairwise_iff fun {a b} e => by rw [Int.gcd_comm]; exact e).mpr hp
  have lt : ns'.Pairwise (fun a b => a < b) := by
    have : ns'.Pairwise (fun a b => a ≤ b ∧ Int.gcd a b = 1) := so.and hp'
    refine List.Pairwise.imp_of_mem ?_ this
    intro a b ha _ ⟨h1, h2⟩
    rcases Int.lt_or_eq_of_le h1 with z | z
    · exact z
    · subst z
      have := (hb a (pe.mem_iff.mp ha)).1
      rw [Int.gcd_self] at h2
      omega
  exact { ge := fun n hn => (hb n (pe.mem_iff.mp hn)).1, lt := lt, co := hp', few := by rw [pe.length_eq]; exact hl, sml := fun n hn => (hb n (pe.mem_iff.mp hn)).2 }
section
variable {P : Program} {w : World} {K : PySem.W.Frag} {mg : Str → Option Value} {base : Heap}
def spLot : Sp := fun vs H Q _ => ∃ (d c : Addr), vs = [.ref d] ∧ Dl H d c ∧ ∀ p ns H', LotS ns → H p = none → H' p = some (.tup (ns.map V.int)) → Dl H' d c → Kp d c H H' → Q (.ref p) H'
theorem sc24 : FnScope ["_law_deal", "_law_great", "_law_found", "_law_turn", "_law_q", "_law_other"] ["_law_deal"] (defScope (top 26)) := ⟨rfl, rfl, rfl, by decide +kernel, rfl, by decide +kernel, by decide +kernel⟩
theorem ok_lot {f : Addr} {fd : FuncData} (B : Bl mg) (CA : Cal P w K mg base CX0 1 "_law_any" ["_law_deal", "_law_bound"] spAny) (CO : Cal P w K mg base CX0 2 "_law_of" ["_law_deal", "_law_some"] (spOf K))
    (CD : Cal P w K mg base CX0 1 "_law_divisor" ["_law_one", "_law_other"] spDiv) (F : Fun K "_law_lot" "_law_lot" (top 26) f fd) : FnOk P w K mg base CX0 3 f fd ["_law_deal"] spLot := by
  refine F.ok sc24 (fun vs H Q E h => ?_) (fun cdv A outer s H vs Q E hr h => ⟨_,
    pss_cons (ps_par (i := 1) (j := 2) rfl sc24.nd rfl rfl (by decide) rfl rfl (pa_cons (pe_cmpR op_eq (pe_cal (X := L2.Cx.nox _) CA hr (by decide) (pa_cons (pv 0) (pa_cons pe_int pa_nil))) pe_int (nomark _)) (pa_cons (pe_lst pa_nil) pa_nil)) (by rfl))
    (pss_cons (ps_for PassesOwn.never rfl (pi_range1 rfl B.range (pa_cons (pe_cal (X := L2.Cx.nox _) CA hr (by decide) (pa_cons (pv 0) (pa_cons pe_int pa_nil))) pa_nil)) (pg_name (i := 3) sc24.nd rfl (.inl rfl))
      (pss_cons (ps_set (i := 4) sc24.nd rfl (.inr rfl) (pe_cal (X := L2.Cx.nox _) CO hr (by decide) (pa_cons (pv 0) (pa_cons (pe_lst (pa_cons pe_int (pa_cons pe_int (pa_cons pe_int (pa_cons pe_int (pa_cons pe_int (pa_cons pe_int (pa_cons pe_int (pa_cons pe_int (pa_cons pe_int (pa_cons pe_int (pa_cons pe_int (pa_cons pe_int pa_nil))))))))))))) pa_nil))))
      (pss_cons (ps_if (pt_val (pv 1)) (pss_one (ps_set (i := 4) sc24.nd rfl (.inr rfl) (pe_op op_add pe_int (pe_cal (X := L2.Cx.nox _) CA hr (by decide) (pa_cons (pv 0) (pa_cons (pe_cal (X := L2.Cx.nox _) CO hr (by decide) (pa_cons (pv 0) (pa_cons (pe_lst (pa_cons (pe_op op_pow pe_int pe_int) (pa_cons (pe_op op_pow pe_int pe_int) (pa_cons (pe_op op_pow pe_int pe_int) pa_nil)))) pa_nil))) pa_nil)))))) pss_nil)
      (pss_one (ps_if (pt_cmpR (op_eqD hr.units) (pe_lc (own := [("_law_other", 5)]) (g := gName 5) rfl sc24.nd (pi_list (pv 2)) (blkOk_by (N := ["_law_deal", "_law_great", "_law_found", "_law_turn", "_law_q", "_law_other"]) (sc := defScope (top 26)) (by decide +kernel))
          (fun _ _ _ _ _ => pg_name (i := 5) sc24.nd rfl (Or.inl rfl)) (fun _ _ _ _ _ => pts_one (pt_cmpR op_gt (pe_cal CD hr (by decide) (pa_cons (pv 4) (pa_cons (pv 5) pa_nil))) pe_int (nomark _))) (fun _ _ _ _ _ => pv 5)) (pe_lst pa_nil) (nomark _))
        (pss_one (ps_expr (pe_bm PySem.F.plainAttrs_list PySem.F.slot_list_append PySem.F.type_list_append mt_append (pv 2) (pa_cons (pv 4) pa_nil)))) pss_nil)))))
    (pss_one (ps_ret (pe_callTy call_tuple_of (by rfl) B.tuple (by decide +kernel) (pa_cons (pe_callB cr_sortedI (by rfl) B.sorted (by decide +kernel) (pa_cons (pv 2) pa_nil)) pa_nil))))), ?_⟩)
  · obtain ⟨d, c, rfl, _⟩ := h
    rfl
  obtain ⟨d, c, rfl, hD, q⟩ := h
  refine ⟨_, rfl, d, c, 3, rfl, hD, by decide, by decide, fun g H1 _ _ hD1 k1 => ⟨rfl, (by show 0 ≤ sizeLine; decide), fun l hl => ⟨_, _, rfl, ?_⟩⟩⟩
  obtain ⟨b, eb⟩ : ∃ b, b = decide (V.int g = V.int 0) := ⟨_, rfl⟩
  have ld := hD1.ne hl
  have hl0 : H l = none := k1.free ld.1 ld.2 hl
  have hD1' : Dl (upd H1 l (.lst [])) d c := hD1.same (Same.new hl)
  have k1' : Kp d c H (upd H1 l (.lst [])) := k1.new hl
  have hl1 : upd H1 l (.lst []) l = some (.lst (([] : List Int).map V.int)) := upd_same
  generalize upd H1 l (.lst []) = H2 at hD1' k1' hl1
  refine ⟨_, rfl, d, c, 5, rfl, hD1', by decide, by decide, fun t H3 t0 t1 hD3 k3 => ⟨t, rfl, (by omega), (by omega), for_range (n := t.toNat)
    (fun i σ H' => ∃ (ns : List Int) (u v : Option V) (b : Bool), (∀ n ∈ ns, 3 ≤ n ∧ n < 2 ^ 100) ∧ ns.Pairwise (fun a b => Int.gcd a b = 1) ∧ ns.length ≤ i ∧ σ = [some (.ref d), some (.bl b), some (.ref l), u, v, none] ∧ H' l = some (.lst (ns.map V.int)) ∧ Dl H' d c ∧ Kp d c H H')
    ⟨[], none, none, _, fun _ z => by simp at z, .nil, Nat.le_refl _, rfl, k3 _ _ ld.1 ld.2 hl1, hD3, k1'.trans k3⟩ ?_ ?_⟩⟩
  · rintro i σ H' hi ⟨ns, u, v, b, hb, hp, hn, rfl, hl', hD', k'⟩
    have hi4 : i < 4 := by omega
    refine ⟨_, rfl, (by show 12 ≤ sizeLine; decide), fun a ha => ⟨d, c, a, _, rfl, hD'.same (Same.new ha), (hD'.ne ha).1, (hD'.ne ha).2, SqL.of upd_same, by decide, by decide, fun j x H4 hx hD4 k4 => ?_⟩⟩
    have k5 : Kp d c H H4 := (k'.new ha).trans k4
    have hl4 : H4 l = some (.lst (ns.map V.int)) := k4 _ _ ld.1 ld.2 (by rw [upd_ne (ne_of_none hl' ha)]; exact hl')
    obtain ⟨n, hn1, rfl⟩ := map_at (ns := [3, 4, 5, 6, 7, 8, 9, 10, 11, 12, 15, 21]) hx
    have hn2 := List.mem_of_getElem? hn1
    have hn3 : 3 ≤ n ∧ n ≤ 21 := by
      simp at hn2
      omega
    dsimp only [gName]
    refine sq_cut (fun σ H' => ∃ (q : Int), 3 ≤ q ∧ q < 2 ^ 100 ∧ σ = [some (.ref d), some (.bl b), some (.ref l), some (.int (0 + i)), some (.int q), none] ∧ H' l = some (.lst (ns.map V.int)) ∧ Dl H' d c ∧ Kp d c H H') (fun Z hZ => ⟨_, rfl, b, rfl, ?_⟩) ?_
    · cases b with
      | false => exact iteF (hZ _ _ ⟨n, hn3.1, by omega, rfl, hl4, hD4, k5⟩)
      | true =>
        refine iteT ⟨_, rfl, _, rfl, _, _, rfl, rfl, ⟨by decide, by decide, by decide⟩, _, _, rfl, rfl, ⟨by decide, by decide, by decide⟩, _, _, rfl, rfl, ⟨by decide, by decide, by decide⟩, (by show 3 ≤ sizeLine; decide), fun a ha => ?_⟩
        have hl5 : ∀ {o : HO}, upd H4 a o l = some (.lst (ns.map V.int)) := fun {o} => by rw [upd_ne (ne_of_none hl4 ha)]; exact hl4
        refine ⟨d, c, a, _, rfl, hD4.same (Same.new ha), (hD4.ne ha).1, (hD4.ne ha).2, SqL.of upd_same, by decide, by decide, fun j x H6 hx hD6 k6 => ?_⟩
        obtain ⟨m, hm1, rfl⟩ := map_at (ns := [10 ^ (2 : Int).toNat, 10 ^ (6 : Int).toNat, 10 ^ (29 : Int).toNat]) hx
        have hm2 := List.mem_of_getElem? hm1
        have hm3 : 0 < m ∧ m ≤ 10 ^ 29 := by
          simp at hm2
          rcases hm2 with rfl | rfl | rfl <;> decide
        have hl6 : H6 l = some (.lst (ns.map V.int)) := k6 _ _ ld.1 ld.2 hl5
        refine ⟨d, c, m, rfl, hD6, hm3.1, sm_of (by omega) (Int.lt_of_le_of_lt hm3.2 (by decide)), fun r H7 r0 r1 hD7 k7 => ⟨_, _, rfl, rfl, hZ _ _ ⟨3 + r, by omega, ?_, rfl, k7 _ _ ld.1 ld.2 hl6, hD7, ((k5.new ha).trans k6).trans k7⟩⟩⟩
        have : (10 : Int) ^ 29 + 3 < 2 ^ 100 := by decide
        omega
    · rintro σ H5 ⟨q, q0, q1, rfl, hl5, hD5, k5⟩
      refine ⟨_, rfl, l, rfl, ⟨_, SqL.of hl5⟩, fun D hD => lc_list (xs := ns.map V.int) (fun j H6 => Same H5 H6 ∧ H6 D = some (.lst (((ns.take j).filter fun o => decide (1 < ((Int.gcd q o : Nat) : Int))).map V.int))) ⟨Same.new hD, upd_same⟩ (fun j H6 _ z => z.1.seq (SqL.of hl5)) ?_ ?_⟩
      · rintro j x H6 hx ⟨p1, p2⟩
        obtain ⟨o, ho, rfl⟩ := map_at hx
        have ho3 := hb o (List.mem_of_getElem? ho)
        refine ⟨rfl, _, rfl, _, rfl, q, o, rfl, by omega, by omega, _, _, rfl, rfl, _, rfl, ?_⟩
        cases e : decide (1 < ((Int.gcd q o : Nat) : Int)) with
        | true =>
          refine iteT ⟨_, rfl, _, p2, len_lt ?_, Same.upd p1 hD, ?_⟩
          · rw [List.length_map]
            have := List.length_filter_le (fun o => decide (1 < ((Int.gcd q o : Nat) : Int))) (ns.take j)
            have := List.length_take_le j ns
            have := (List.getElem?_eq_some_iff.mp ho).1
            omega
          · rw [upd_same, filt_at ho, if_pos e, List.map_append]
            rfl
        | false =>
          refine iteF ⟨p1, ?_⟩
          rw [filt_at ho, if_neg (by rw [e]; decide), List.append_nil]
          exact p2
      · rintro H6 ⟨p1, p2⟩
        rw [List.length_map, List.take_length] at p2
        refine ⟨(by show 0 ≤ sizeLine; decide), fun E hE => eqL (ms := []) (SqL.of (by rw [upd_ne (ne_of_none p2 hE)]; exact p2)) (SqL.of upd_same) ⟨_, rfl, ?_⟩⟩
        have s6 : Same H5 (upd H6 E (.lst [])) := p1.trans (Same.new hE)
        generalize upd H6 E (.lst []) = H7 at s6
        have hl7 := s6 _ _ hl5
        cases e : decide (List.filter (fun o => decide (1 < ((Int.gcd q o : Nat) : Int))) ns = []) with
        | false => exact iteF ⟨ns, _, _, b, hb, hp, by omega, rfl, hl7, hD5.same s6, k5.trans (Kp.of s6)⟩
        | true =>
          have e2 := filt_nil (of_decide_eq_true e)
          refine iteT ⟨_, rfl, .inl ⟨rfl, _, SqL.of hl7⟩, _, rfl, l, _, _, rfl, rfl, hl7, len_lt (by rw [List.length_map]; omega), ns ++ [q], _, _, b, ?_, ?_, ?_, rfl, ?_, (hD5.same s6).upd ld.1 ld.2, (k5.trans (Kp.of s6)).updn hl0⟩
          · intro n hn
            rcases List.mem_append.mp hn with z | z
            · exact hb n z
            · have : n = q := by simpa using z
              rw [this]
              exact ⟨q0, q1⟩
          · refine List.pairwise_append.mpr ⟨hp, List.pairwise_singleton _ _, fun a ha b hb' => ?_⟩
            have e4 : b = q := by simpa using hb'
            have e5 := e2 a ha
            have e6 : ¬ (1 < ((Int.gcd q a : Nat) : Int)) := of_decide_eq_false e5
            have e7 : 0 < Int.gcd q a := Int.gcd_pos_of_ne_zero_left _ (by omega)
            rw [e4, Int.gcd_comm]
            omega
          · simp
            omega
          · rw [upd_same, List.map_append]
            rfl
  · rintro σ H' ⟨ns, u, v, b, hb, hp, hn, rfl, hl', hD', k'⟩
    refine ⟨_, rfl, l, ns, rfl, SqL.of hl', fun ns' p pe so hp' => ⟨p, _, rfl, .inl ⟨SqL.of upd_same, fun t ht => ?_⟩⟩⟩
    have k8 : Kp d c H (upd H' p (.lst (ns'.map V.int))) := k'.new hp'
    have D8 : Dl (upd H' p (.lst (ns'.map V.int))) d c := hD'.same (Same.new hp')
    generalize upd H' p (.lst (ns'.map V.int)) = H8 at ht k8 D8
    exact q t ns' _ (lots_of hb hp (by omega) pe so) (k8.free (D8.ne ht).1 (D8.ne ht).2 ht) upd_same (D8.same (Same.new ht)) (k8.new ht)
end
end KV

/-! rests -/
namespace KV
open PySem PySem.Spec PyProof.Rows L2 KM
theorem gcd_take {ns : List Int} {i : Nat} {q : Int} (h : Lot ns) (hq : ns[i]? = some q) : Int.gcd (prd (ns.take i)) q = 1 := by
  have es : ns = ns.take i ++ (q :: ns.drop (i + 1)) := by rw [← drop_at hq, List.take_append_drop]
  have co := h.co
  rw [es] at co
  obtain ⟨_, _, c3⟩ := List.pairwise_append.mp co
  rw [Int.gcd_comm]
  refine gcd_prd fun n hn => ?_
  rw [Int.gcd_comm]
  exact c3 n hn q (by simp)
theorem longer_len (W q o : Int) : ∀ l : List Int, (longer W q o l).length = 2 * l.length
  | [] => rfl
  | n :: r => by
    have := longer_len W q o r
    show (lift W q o n 0 :: lift W q o n 1 :: longer W q o r).length = _
    simp only [List.length_cons, this]
    omega
theorem longer_at {W q o n : Int} {l : List Int} {i : Nat} (h : l[i]? = some n) : longer W q o (l.take (i + 1)) = longer W q o (l.take i) ++ [lift W q o n 0, lift W q o n 1] := by
  rw [take_at h]
  unfold longer
  rw [List.flatMap_append]
  rfl
theorem inv_last {m u x : Int} (hm : 3 ≤ m) (d : m ∣ 1 - u * x) : (u * x) % m = 1 := by
  have z := Int.emod_eq_emod_iff_emod_sub_eq_zero.mpr (Int.emod_eq_zero_of_dvd d)
  rw [← z]
  exact Int.emod_eq_of_lt (by omega) (by omega)
section
variable {P : Program} {w : World} {K : PySem.W.Frag} {mg : Str → Option Value} {base : Heap}
def spRests (K : PySem.W.Frag) : Sp := fun vs H Q _ => ∃ (a : Addr) (ns : List Int), vs = [.ref a] ∧ SqT K H a (ns.map V.int) ∧ LotS ns ∧ ∀ p H', Same H H' → H p = none → H' p = some (.lst ((canon ns).map V.int)) → Q (.ref p) H'
theorem sc25 : FnScope ["_law_lot_here", "_law_found", "_law_whole", "_law_q", "_law_rest", "_law_other", "_law_times", "_law_others", "_law_step", "_law_longer", "_law_one", "_law_end"] ["_law_lot_here"] (defScope (top 27)) := ⟨rfl, rfl, rfl, by decide +kernel, rfl, by decide +kernel, by decide +kernel⟩
theorem ok_rests {f : Addr} {fd : FuncData} (B : Bl mg) (F : Fun K "_law_rests" "_law_rests" (top 27) f fd) : FnOk P w K mg base CX0 1 f fd ["_law_lot_here"] (spRests K) := by
  refine F.ok sc25 (fun vs H Q E h => ?_) (fun cdv A outer s H vs Q E hr h => ⟨_,
    (pss_cons (ps_asg (pe_tup (pa_cons (pe_lst (pa_cons pe_int pa_nil)) (pa_cons pe_int pa_nil))) (pg_tup rfl (pgs_cons (pg_name (i := 1) sc25.nd rfl (.inl rfl)) (pgs_cons (pg_name (i := 2) sc25.nd rfl (.inr rfl)) pgs_nil))))
    (pss_cons (ps_for PassesOwn.never rfl (pi_tup (pv 0)) (pg_name (i := 3) sc25.nd rfl (.inr rfl)) (pss_cons (ps_asg (pe_tup (pa_cons (pe_op op_mod (pe_callTy call_int1 (by rfl) B.int PyProof.Rows.boot_int (pa_cons (pv 2) pa_nil)) (pv 3)) (pa_cons (pv 3) (pa_cons pe_int (pa_cons pe_int pa_nil))))) (pg_tup rfl (pgs_cons (pg_name (i := 4) sc25.nd rfl (.inl rfl)) (pgs_cons (pg_name (i := 5) sc25.nd rfl (.inl rfl)) (pgs_cons (pg_name (i := 6) sc25.nd rfl (.inl rfl)) (pgs_cons (pg_name (i := 7) sc25.nd rfl (.inr rfl)) pgs_nil))))))
    (pss_cons (ps_while PassesOwn.never (pt_cmpR op_ne (pv 4) pe_int (nomark _)) (pss_cons (ps_set (i := 8) sc25.nd rfl (.inl rfl) (pe_op op_fdivW (pv 5) (pv 4)))
    (pss_one (ps_asg (pe_tup (pa_cons (pe_op op_sub (pv 5) (pe_op op_mulW (pv 8) (pv 4))) (pa_cons (pv 4) (pa_cons (pe_op op_sub (pv 7) (pe_op op_mulW (pv 8) (pv 6))) (pa_cons (pv 6) pa_nil))))) (pg_tup rfl (pgs_cons (pg_name (i := 4) sc25.nd rfl (.inl rfl)) (pgs_cons (pg_name (i := 5) sc25.nd rfl (.inl rfl)) (pgs_cons (pg_name (i := 6) sc25.nd rfl (.inl rfl)) (pgs_cons (pg_name (i := 7) sc25.nd rfl (.inr rfl)) pgs_nil)))))))))
    (pss_cons (ps_set (i := 9) sc25.nd rfl (.inl rfl) (pe_lst pa_nil))
    (pss_cons (ps_for PassesOwn.never rfl (pi_list (pv 1)) (pg_name (i := 10) sc25.nd rfl (.inr rfl)) (pss_one (ps_set (i := 9) sc25.nd rfl (.inl rfl) (pe_op op_cat (pv 9) (pe_lc (own := [("_law_end", 11)]) (g := gName 11) (tt := tYes) rfl sc25.nd (pi_range1 (by rfl) B.range (pa_cons pe_int pa_nil)) (blkOk_by (N := ["_law_lot_here", "_law_found", "_law_whole", "_law_q", "_law_rest", "_law_other", "_law_times", "_law_others", "_law_step", "_law_longer", "_law_one", "_law_end"]) (sc := defScope (top 27)) (by decide +kernel))
        (fun _ _ _ _ _ => pg_name (i := 11) sc25.nd rfl (Or.inl rfl)) (fun _ _ _ _ _ => pts_nil) (fun _ _ _ _ _ => (pe_op op_add (pv 10) (pe_op op_mulW (pv 2) (pe_op op_mod (pe_callTy call_int1 (by rfl) B.int PyProof.Rows.boot_int (pa_cons (pe_op op_mulW (pe_op op_sub (pv 11) (pv 10)) (pv 7)) pa_nil)) (pv 3))))))))))
    (pss_one (ps_asg (pe_tup (pa_cons (pv 9) (pa_cons (pe_op op_mulW (pv 2) (pv 3)) pa_nil))) (pg_tup rfl (pgs_cons (pg_name (i := 1) sc25.nd rfl (.inl rfl)) (pgs_cons (pg_name (i := 2) sc25.nd rfl (.inr rfl)) pgs_nil))))))))))
    (pss_one (ps_ret (pe_callB cr_sortedI (by rfl) B.sorted (by decide +kernel) (pa_cons (pv 1) pa_nil)))))), ?_⟩)
  · obtain ⟨a, ns, rfl, _⟩ := h
    rfl
  obtain ⟨a, ns, rfl, hS, hL, q⟩ := h
  refine ⟨(by show 1 ≤ sizeLine; decide), fun fl hf => ⟨(by show 2 ≤ sizeLine; decide), fun t ht => ⟨_, _, rfl, SqT.of upd_same, rfl, _, _, rfl, _, _, rfl, rfl, ?_⟩⟩⟩
  have f1 : upd (upd H fl (.lst [.int 0])) t (.tup [.ref fl, .int 1]) fl = some (.lst (([0] : List Int).map V.int)) := by
    rw [upd_ne (ne_of_none upd_same ht)]
    exact upd_same
  have s1 : Same H (upd (upd H fl (.lst [.int 0])) t (.tup [.ref fl, .int 1])) := (Same.new hf).trans (Same.new ht)
  dsimp only [gName]
  generalize upd (upd H fl (.lst [.int 0])) t (.tup [.ref fl, .int 1]) = H1 at f1 s1
  refine ⟨_, rfl, a, rfl, ⟨_, Same.seqT s1 hS⟩, for_tup (xs := ns.map V.int) (fun i σ H' => (∃ (fl : Addr) (R : List Int) (v3 v4 v5 v6 v7 v8 v9 v10 : Option V), Ls ns i R ∧ R.length = 2 ^ i ∧ H' fl = some (.lst (R.map V.int)) ∧
      σ = [some (.ref a), some (.ref fl), some (.int (prd (ns.take i))), v3, v4, v5, v6, v7, v8, v9, v10, none]) ∧ Same H H') ⟨⟨fl, [0], none, none, none, none, none, none, none, none, Ls.start, rfl, f1, rfl⟩, s1⟩ ?_ ?_ ?_⟩
  · rintro i σ H' _ ⟨_, z⟩
    exact Same.seqT z hS
  · rintro i x σ H' hx ⟨⟨fl, R, v3, v4, v5, v6, v7, v8, v9, v10, hR, hlen, hfl, rfl⟩, hH⟩
    obtain ⟨m, hm, rfl⟩ := map_at hx
    have hmm := List.mem_of_getElem? hm
    have m3 := hL.ge m hmm
    have hi := (List.getElem?_eq_some_iff.mp hm).1
    have few := hL.few
    have ms := hL.m hmm
    have Ws := hL.prdT i
    have Wp : 0 < prd (ns.take i) := prd_pos fun n hn => hL.ge n (List.mem_of_mem_take hn)
    have gW := gcd_take hL.toLot hm
    refine ⟨_, rfl, .inl ⟨_, rfl, _, rfl, _, _, rfl, rfl, (by show (0 : Int) < m; omega), _, rfl, (by show 4 ≤ sizeLine; decide), fun t ht => ⟨_, _, rfl, SqT.of upd_same, rfl, _, _, rfl, _, _, rfl, _, _, rfl, _, _, rfl, rfl, ?_⟩⟩⟩
    dsimp only [gName]
    refine ⟨fun k σ H2 => (∃ (r o t u : Int) (v8 : Option V), k = r.toNat ∧ Eu m (prd (ns.take i)) r o t u ∧ σ = [some (.ref a), some (.ref fl), some (.int (prd (ns.take i))), some (.int m), some (.int r), some (.int o), some (.int t), some (.int u), v8, v9, v10, none]) ∧ Same H' H2,
      ⟨_, ⟨_, _, _, _, v8, rfl, Eu.start (by omega), rfl⟩, Same.new ht⟩, ?_⟩
    rintro k σ H2 ⟨⟨r, o, t, u, v8, rfl, eu, rfl⟩, hH2⟩
    refine ⟨_, rfl, rfl, _, rfl, ?_⟩
    by_cases hr0 : r = 0
    · subst hr0
      obtain ⟨o1, dd⟩ := eu.end_ gW
      have us : sm 100 u := sm_abs eu.ub ms
      refine iteN (by simp) ⟨(by show 0 ≤ sizeLine; decide), fun ll hll => ?_⟩
      have hfl3 : upd H2 ll (.lst []) fl = some (.lst (R.map V.int)) := by
        rw [upd_ne (ne_of_none (hH2 _ _ hfl) hll)]
        exact hH2 _ _ hfl
      have s3 : Same H' (upd H2 ll (.lst [])) := Same.upd hH2 (hH2.free hll)
      have hl3 : upd H2 ll (.lst []) ll = some (.lst ((longer (prd (ns.take i)) m u (R.take 0)).map V.int)) := upd_same
      generalize upd H2 ll (.lst []) = H3 at hfl3 s3 hl3
      have len16 : R.length ≤ 8 := by
        rw [hlen]
        exact Nat.pow_le_pow_right (by decide) (show i ≤ 3 by omega)
      refine ⟨_, rfl, fl, rfl, ⟨_, SqL.of hfl3⟩, for_list (xs := R.map V.int) (fun j σ H4 => (∃ (ll : Addr) (v10 : Option V), σ = [some (.ref a), some (.ref fl), some (.int (prd (ns.take i))), some (.int m), some (.int 0), some (.int o), some (.int t), some (.int u), v8, some (.ref ll), v10, none] ∧
          H4 ll = some (.lst ((longer (prd (ns.take i)) m u (R.take j)).map V.int))) ∧ Same H3 H4) ⟨⟨ll, v10, rfl, hl3⟩, Same.refl H3⟩ ?_ ?_ ?_⟩
      · rintro j σ H4 _ ⟨_, z⟩
        exact SqL.of (z _ _ hfl3)
      · rintro j x σ H4 hx ⟨⟨ll, v10, rfl, hll⟩, hH4⟩
        obtain ⟨n, hn, rfl⟩ := map_at hx
        have nb := (hR.2 n).mp (List.mem_of_getElem? hn)
        have sn : sm 401 n := sm_le nb.1 (by omega) Ws
        have hj := (List.getElem?_eq_some_iff.mp hn).1
        have lj : (longer (prd (ns.take i)) m u (R.take j)).length ≤ 16 := by
          rw [longer_len, List.length_take]
          omega
        refine ⟨_, rfl, 2, rfl, by decide, by decide, fun D hD => lc_range (lo := 0) (n := 2) (fun e H5 => Same H4 H5 ∧ H5 D = some (.lst (((List.range e).map fun k => lift (prd (ns.take i)) m u n (0 + ((k : Nat) : Int))).map V.int))) ⟨Same.new hD, upd_same⟩ ?_ ?_⟩
        · rintro e H5 he ⟨p1, p2⟩
          have se : sm 401 (0 + (e : Int)) := sm_of (by omega) (Int.lt_of_le_of_lt (show (0 + (e : Int)) ≤ 2 by omega) (by decide))
          have z1 := Int.emod_nonneg ((0 + (e : Int) - n) * u) (show m ≠ 0 by omega)
          have z2 := Int.emod_lt_of_pos ((0 + (e : Int) - n) * u) (show 0 < m by omega)
          have sz : sm 100 ((0 + (e : Int) - n) * u % m) := sm_le z1 (by omega) ms
          refine ⟨rfl, _, rfl, _, rfl, _, rfl, _, rfl, _, _, rfl, rfl, _, rfl, _, _, rfl, rfl, mulW (sm_sub se sn) us (by decide) (by decide) (by decide), .inl ⟨_, rfl, _, rfl, _, _, rfl, rfl, (by show (0 : Int) < m; omega), _, _, rfl, rfl, mulW Ws sz (by decide) (by decide) (by decide), _, _, rfl, rfl, _, p2, len_lt (by rw [List.length_map, List.length_map, List.length_range]; omega), Same.upd p1 hD, ?_⟩⟩
          rw [upd_same, List.range_succ, List.map_append, List.map_append]
          rfl
        · rintro H5 ⟨p1, p2⟩
          refine ⟨ll, D, _, _, rfl, rfl, p1 _ _ hll, p2, ?_, fun p hp => ⟨⟨p, _, rfl, ?_⟩, Same.upd (hH4.trans p1) ((hH4.trans p1).free hp)⟩⟩
          · rw [List.length_map]
            exact Nat.le_of_lt (len_lt (by simp; omega))
          · rw [upd_same, longer_at hn, List.map_append]
            have e0 : (0 : Int) + ((0 : Nat) : Int) = 0 := rfl
            have e1 : (0 : Int) + ((1 : Nat) : Int) = 1 := rfl
            show some (HO.lst (_ ++ [V.int (lift _ m u n (0 + ((0 : Nat) : Int))), V.int (lift _ m u n (0 + ((1 : Nat) : Int)))])) = _
            rw [e0, e1]
            rfl
      · rintro σ H4 ⟨⟨ll, v10, rfl, hll⟩, hH4⟩
        rw [List.length_map, List.take_length] at hll
        refine ⟨_, rfl, _, rfl, _, rfl, _, _, rfl, rfl, mulW Ws ms (by decide) (by decide) (by decide), (by show 2 ≤ sizeLine; decide), fun t2 ht => ⟨_, _, rfl, SqT.of upd_same, rfl, _, _, rfl, _, _, rfl, rfl, ⟨ll, _, some (.int m), some (.int 0), some (.int o), some (.int t), some (.int u), v8, some (.ref ll), v10, hR.next hL.toLot hm (inv_last m3 dd), ?_, ?_, ?_⟩, ?_⟩⟩
        · rw [longer_len, hlen, Nat.pow_succ]
          omega
        · rw [upd_ne (ne_of_none hll ht)]
          exact hll
        · rw [prd_at hm]
          rfl
        · exact ((hH.trans s3).trans hH4).trans (Same.new ht)
    · obtain ⟨eu2, dec⟩ := eu.step hr0
      have r0 := eu.r0
      have ro := eu.ro
      have om := eu.om
      have so : sm 100 o := sm_le (by omega) om ms
      have sr : sm 100 r := sm_le r0 (by omega) so
      have sq : sm 100 (o / r) := sm_le (Int.ediv_nonneg (by omega) r0) (Int.ediv_le_self r (by omega)) so
      have st : sm 100 t := sm_abs eu.tb ms
      refine iteP (by simp [hr0]) ⟨fun σ' H3 => ∃ k', k' < r.toNat ∧ ((∃ (r o t u : Int) (v8 : Option V), k' = r.toNat ∧ Eu m (prd (ns.take i)) r o t u ∧ σ' = [some (.ref a), some (.ref fl), some (.int (prd (ns.take i))), some (.int m), some (.int r), some (.int o), some (.int t), some (.int u), v8, v9, v10, none]) ∧ Same H' H3), fun _ _ z => z, ?_⟩
      refine ⟨_, rfl, _, rfl, _, _, rfl, rfl, divW (by omega) sr (by decide) (by decide), ?_⟩
      refine ⟨_, rfl, _, rfl, _, rfl, _, _, rfl, rfl, mulW sq sr (by decide) (by decide) (by decide), _, _, rfl, rfl, _, rfl, _, rfl, _, rfl, _, rfl, _, _, rfl, rfl, mulW sq st (by decide) (by decide) (by decide), _, _, rfl, rfl, _, rfl, (by show 4 ≤ sizeLine; decide), fun t' ht' => ⟨_, _, rfl, SqT.of upd_same, rfl, _, _, rfl, _, _, rfl, _, _, rfl, _, _, rfl, rfl, ?_⟩⟩
      exact ⟨_, dec, ⟨_, _, _, _, _, rfl, eu2, rfl⟩, hH2.trans (Same.new ht')⟩
  · rintro σ H' ⟨⟨fl, R, v3, v4, v5, v6, v7, v8, v9, v10, hR, hlen, hfl, rfl⟩, hH⟩
    rw [List.length_map] at hR
    refine ⟨_, rfl, fl, R, rfl, SqL.of hfl, fun ns' p pe so hp => ?_⟩
    have e := hR.done hL.toLot pe so
    refine q p _ (Same.upd hH (hH.free hp)) (hH.free hp) ?_
    rw [upd_same, e]
end
end KV

/-! fits, is_lot -/
namespace KV
open PySem PySem.Spec PyProof.Rows L2 KM
section
variable {P : Program} {w : World} {K : PySem.W.Frag} {mg : Str → Option Value} {base : Heap}
def spLFits (K : PySem.W.Frag) : Sp := fun vs H Q _ => ∃ (a : Addr) (ns : List Int) (n : Int), vs = [.ref a, .int n] ∧ SqT K H a (ns.map V.int) ∧ (∀ q ∈ ns, 3 ≤ q) ∧ ns.length ≤ 8 ∧ ∀ H', Same H H' → Q (.bl (fit ns n)) H'
theorem sc26 : FnScope ["_law_lot_here", "_law_n", "_law_q"] ["_law_lot_here", "_law_n"] (defScope (top 28)) := ⟨rfl, rfl, rfl, by decide +kernel, rfl, by decide +kernel, by decide +kernel⟩
theorem ok_lfits {f : Addr} {fd : FuncData} (B : Bl mg) (F : Fun K "_law_fits" "_law_fits" (top 28) f fd) : FnOk P w K mg base CX0 1 f fd ["_law_lot_here", "_law_n"] (spLFits K) := by
  refine F.ok sc26 (fun vs H Q E h => ?_) (fun cdv A outer s H vs Q E hr h => ⟨_,
    (pss_one (ps_ret (pe_cmpR (op_eqD hr.units) (pe_lc (own := [("_law_q", 2)]) (g := gName 2) rfl sc26.nd (pi_tup (pv 0)) (blkOk_by (N := ["_law_lot_here", "_law_n", "_law_q"]) (sc := defScope (top 28)) (by decide +kernel))
        (fun _ _ _ _ _ => pg_name (i := 2) sc26.nd rfl (Or.inl rfl)) (fun _ _ _ _ _ => (pts_one (pt_cmpR op_gt (pe_op op_mod (pe_callTy call_int1 (by rfl) B.int PyProof.Rows.boot_int (pa_cons (pv 1) pa_nil)) (pv 2)) pe_int (nomark _)))) (fun _ _ _ _ _ => (pv 2))) (pe_lst pa_nil) (nomark _)))), ?_⟩)
  · obtain ⟨a, ns, n, rfl, _⟩ := h
    rfl
  obtain ⟨a, ns, n, rfl, hS, h3, hl, q⟩ := h
  refine ⟨_, rfl, a, rfl, ⟨_, hS⟩, fun D hD => lc_tup (xs := ns.map V.int) (fun i H' => Same H H' ∧ H' D = some (.lst (((ns.take i).filter fun q => decide (1 < n % q)).map V.int))) ⟨Same.new hD, upd_same⟩ (fun i H' _ p => Same.seqT p.1 hS) ?_ ?_⟩
  · rintro i x H' hx ⟨p1, p2⟩
    obtain ⟨m, hm, rfl⟩ := map_at hx
    have m3 := h3 m (List.mem_of_getElem? hm)
    refine ⟨rfl, _, rfl, .inl ⟨_, rfl, _, rfl, _, _, rfl, rfl, (by show (0 : Int) < m; omega), _, _, rfl, rfl, _, rfl, ?_⟩⟩
    cases e : decide (1 < n % m) with
    | true =>
      refine iteT ⟨_, rfl, _, p2, len_lt ?_, Same.upd p1 hD, ?_⟩
      · rw [List.length_map]
        have := List.length_filter_le (fun q => decide (1 < n % q)) (ns.take i)
        have := List.length_take_le i ns
        have := (List.getElem?_eq_some_iff.mp hm).1
        omega
      · rw [upd_same, filt_at hm, if_pos e, List.map_append]
        rfl
    | false =>
      refine iteF ⟨p1, ?_⟩
      rw [filt_at hm, if_neg (by rw [e]; decide), List.append_nil]
      exact p2
  · rintro H' ⟨p1, p2⟩
    rw [List.length_map, List.take_length] at p2
    refine ⟨(by show 0 ≤ sizeLine; decide), fun E hE => eqL (ms := []) (SqL.of (by rw [upd_ne (ne_of_none p2 hE)]; exact p2)) (SqL.of upd_same) ?_⟩
    have e : decide (List.filter (fun q => decide (1 < n % q)) ns = []) = fit ns n := by
      rw [Bool.eq_iff_iff, decide_eq_true_eq, fit_iff, List.filter_eq_nil_iff]
      constructor
      · intro h q hq
        have := h q hq
        simp only [decide_eq_true_eq] at this
        omega
      · intro h q hq
        have := h q hq
        simp only [decide_eq_true_eq]
        omega
    rw [e]
    exact q _ (Same.upd p1 (p1.free hE))
def spLIsLot (K : PySem.W.Frag) : Sp := fun vs H Q _ => ∃ (v : V) (ms : Option (List V)), vs = [v] ∧ ValT K H v ms ∧ ∀ H', Same H H' → Q (.bl (isL ms)) H'
theorem sc27 : FnScope ["_law_value", "_law_at", "_law_q", "_law_other"] ["_law_value"] (defScope (top 29)) := ⟨rfl, rfl, rfl, by decide +kernel, rfl, by decide +kernel, by decide +kernel⟩
theorem ok_lislot {f : Addr} {fd : FuncData} (B : Bl mg) (CD : Cal P w K mg base CX0 1 "_law_divisor" ["_law_one", "_law_other"] spDiv) (F : Fun K "_law_is_lot" "_law_is_lot" (top 29) f fd) : FnOk P w K mg base CX0 2 f fd ["_law_value"] (spLIsLot K) := by
  refine F.ok sc27 (fun vs H Q E h => ?_) (fun cdv A outer s H vs Q E hr h => ⟨_,
    (pss_cons (ps_if (pt_not (pt_val (pe_callB call_isi (by rfl) B.isi (by decide +kernel) (pa_cons (pv 0) (pa_cons (pe_bltn (v := .ty "tuple") (by rfl) B.tuple (by decide +kernel) rfl) pa_nil))))) (pss_one (ps_ret pe_bl)) pss_nil)
    (pss_cons (ps_for PassesOwn.never rfl (pi_enumT rfl B.enumerate (pa_cons (pv 0) pa_nil)) (pg_tup rfl (pgs_cons (pg_name (i := 1) sc27.nd rfl (.inl rfl)) (pgs_cons (pg_name (i := 2) sc27.nd rfl (.inr rfl)) pgs_nil))) (pss_cons (ps_if (PW.pt (pw_or (pt_not (pt_val (pe_callB call_isi (by rfl) B.isi (by decide +kernel) (pa_cons (pv 2) (pa_cons (pe_bltn (v := .ty "int") (by rfl) B.int (by decide +kernel) rfl) pa_nil))))) (pw_or (pt_val (pe_callB call_isi (by rfl) B.isi (by decide +kernel) (pa_cons (pv 2) (pa_cons (pe_bltn (v := .ty "bool") (by rfl) B.bool (by decide +kernel) rfl) pa_nil)))) (pw_or (pt_cmpR op_lt (pv 2) pe_int (nomark _)) (pw_or1 (PW.pt (pw_and (pt_cmpR op_gt (pv 1) pe_int (nomark _)) (pw_and1 (pt_cmpR op_le (pv 2) (pe_ix ix_tup (pv 0) (pe_op op_sub (pv 1) pe_int) (fun _ _ => rfl)) (nomark _))))))))))  (pss_one (ps_ret pe_bl)) pss_nil)
    (pss_one (ps_if (pt_cmpR (op_neD hr.units) (pe_lc (own := [("_law_other", 3)]) (g := gName 3) rfl sc27.nd (pi_tup (pe_slice sl_tup (pv 0) po_none (po_some (pv 1)))) (blkOk_by (N := ["_law_value", "_law_at", "_law_q", "_law_other"]) (sc := defScope (top 29)) (by decide +kernel))
        (fun _ _ _ _ _ => pg_name (i := 3) sc27.nd rfl (Or.inl rfl)) (fun _ _ _ _ _ => (pts_one (pt_cmpR op_gt (pe_cal CD hr (by decide) (pa_cons (pv 2) (pa_cons (pv 3) pa_nil))) pe_int (nomark _)))) (fun _ _ _ _ _ => (pv 3))) (pe_lst pa_nil) (nomark _)) (pss_one (ps_ret pe_bl)) pss_nil))))
    (pss_one (ps_ret pe_bl)))), ?_⟩)
  · obtain ⟨v, ms, rfl, _⟩ := h
    rfl
  obtain ⟨v, ms, rfl, hv, q⟩ := h
  obtain ⟨t, ty, hk⟩ := val_kit hv
  refine ⟨_, rfl, _, _, t, _, _, rfl, .ty _, ty, hk, _, rfl, ?_⟩
  cases ms with
  | none => exact iteT (q H (Same.refl H))
  | some xs =>
    refine iteF ?_
    obtain ⟨a, rfl, hS, _, hI, hl⟩ := hv
    refine ⟨_, rfl, a, xs, rfl, hS, for_enumT (xs := xs) (fun i σ H' => (∃ (ns : List Int) (u v : Option V), Lot ns ∧ ns.length = i ∧ xs.take i = ns.map V.int ∧ lotGo [] xs = lotGo ns (xs.drop i) ∧
        σ = [some (.ref a), u, v, none]) ∧ Same H H') ⟨⟨[], none, none, Lot.nil, rfl, rfl, rfl, rfl⟩, Same.refl H⟩ ?_ ?_ ?_⟩
    · rintro i σ H' _ ⟨_, z⟩
      exact Same.seqT z hS
    · rintro i x σ H' T hx ⟨⟨ns, u, v, hL, hlen, htk, go, rfl⟩, hH⟩ hT
      refine ⟨_, _, rfl, SqT.of upd_same, rfl, _, _, rfl, _, _, rfl, rfl, ?_⟩
      dsimp only [gName]
      have s1 : Same H (upd H' T (.tup [.int (i : Nat), x])) := Same.upd hH (hH.free hT)
      generalize upd H' T (.tup [.int (i : Nat), x]) = H1 at s1
      have hi := (List.getElem?_eq_some_iff.mp hx).1
      have hIx := (hI x (List.mem_of_getElem? hx)).same s1
      obtain ⟨t, b, c, ty, k1, k2, k3⟩ := itm_kit hIx
      have fin : ∀ (ns' : List Int), lotGo [] xs = lotGo ns' (x :: xs.drop (i + 1)) → lotGo ns' (x :: xs.drop (i + 1)) = false → ∀ H2, Same H H2 → Q (.bl false) H2 := fun ns' e1 e2 H2 s2 => by
        have e : isL (some xs) = false := e1.trans e2
        rw [e] at q
        exact q _ s2
      rw [drop_at hx] at go
      have noint : isI x = false → ∀ H2, Same H H2 → Q (.bl false) H2 := fun z => fin ns go (by cases x <;> first | rfl | cases z)
      refine sq_cut (fun σ H2 => σ = [some (.ref a), some (.int i), some x, none] ∧ (∃ m, x = .int m ∧ least ns ≤ m) ∧ H2 = H1) (fun Z hZ => ?_) ?_
      · refine ⟨_, rfl, _, _, t, _, b, rfl, .ty _, ty, k1, _, rfl, ?_⟩
        cases b with
        | false => exact iteT (noint k3.symm _ s1)
        | true =>
          refine iteF ⟨_, rfl, _, _, t, _, c, rfl, .ty _, ty, k2, _, rfl, ?_⟩
          cases c with
          | true => exact iteT (noint k3.symm _ s1)
          | false =>
            have k3' : isI x = true := k3.symm
            obtain ⟨m, rfl⟩ : ∃ m, x = .int m := by
              cases x <;> first | exact ⟨_, rfl⟩ | cases k3'
            refine iteF ⟨_, rfl, _, _, rfl, rfl, _, rfl, ?_⟩
            have bad : m < least ns → ∀ H2, Same H H2 → Q (.bl false) H2 := fun z => fin ns go (by
              show (if okNext ns m = true then _ else false) = false
              rw [show okNext ns m = false by unfold okNext; rw [decide_eq_false (by omega)]; rfl]
              rfl)
            have l3 := least_gt hL
            by_cases m3 : m < 3
            · exact iteP (decide_eq_true m3) (bad (by omega) _ s1)
            · refine iteN (by simp [m3]) ⟨_, rfl, _, _, rfl, rfl, _, rfl, ?_⟩
              by_cases i0 : (0 : Int) < ((i : Nat) : Int)
              · refine iteP (decide_eq_true i0) ?_
                cases el : ns.getLast? with
                | none =>
                  have e2 : ns = [] := List.getLast?_eq_none_iff.mp el
                  rw [e2] at hlen
                  have : i = 0 := hlen.symm
                  omega
                | some l =>
                  obtain ⟨ks, rfl⟩ := List.getLast?_eq_some_iff.mp el
                  rw [List.length_append] at hlen
                  have hlen' : ks.length + 1 = i := hlen
                  have ei : ((i : Nat) : Int) - 1 = ((ks.length : Nat) : Int) := by omega
                  have hl' : xs[ks.length]? = some (V.int l) := by
                    have e3 : (xs.take i)[ks.length]? = some (V.int l) := by
                      rw [htk, List.map_append, List.getElem?_append_right (by simp)]
                      simp
                    rw [List.getElem?_take_of_lt (by omega)] at e3
                    exact e3
                  refine ⟨_, rfl, _, rfl, _, rfl, _, _, rfl, rfl, a, xs, _, _, rfl, rfl, Same.seqT s1 hS, (by rw [ei]; exact atI_nat hl'), _, _, rfl, rfl, _, rfl, ?_⟩
                  rw [least_snoc] at bad l3
                  by_cases ml : m ≤ l
                  · exact iteP (decide_eq_true ml) (bad (by omega) _ s1)
                  · exact iteN (by simp [ml]) (hZ _ _ ⟨rfl, ⟨m, rfl, by rw [least_snoc]; omega⟩, rfl⟩)
              · refine iteN (by rw [decide_eq_false i0]; decide) (iteF (hZ _ _ ⟨rfl, ⟨m, rfl, ?_⟩, rfl⟩))
                have : ns = [] := List.length_eq_zero_iff.mp (by omega)
                rw [this]
                show (3 : Int) ≤ m
                omega
      · rintro σ H2 ⟨rfl, ⟨m, rfl, lm⟩, rfl⟩
        have l3 := least_gt hL
        have ecut : cutV xs none (some ((i : Nat) : Int)) = ns.map V.int := by
          rw [← htk]
          unfold cutV
          have e1 : HT.sIx xs.length 0 none = 0 := rfl
          have e2 : HT.sIx xs.length xs.length (some ((i : Nat) : Int)) = min i xs.length := HT.sIx_nat _ _ i
          rw [e1, e2, List.drop_zero, Nat.sub_zero, Nat.min_eq_left (by omega)]
        refine ⟨_, rfl, _, rfl, _, rfl, a, xs, rfl, Same.seqT s1 hS, ?_, fun p hp => ⟨p, rfl, ⟨_, SqT.of upd_same⟩, fun D hD => ?_⟩⟩
        · rintro ⟨_, z⟩
          have e2 : HT.sIx xs.length xs.length (some ((i : Nat) : Int)) = min i xs.length := HT.sIx_nat _ _ i
          rw [e2] at z
          omega
        rw [ecut] at hD ⊢
        have p2 : SqT K (upd H2 p (.tup (ns.map V.int))) p (ns.map V.int) := SqT.of upd_same
        have s2 : Same H2 (upd H2 p (.tup (ns.map V.int))) := Same.new hp
        generalize upd H2 p (.tup (ns.map V.int)) = H3 at hD p2 s2
        refine lc_tup (xs := ns.map V.int) (fun j H6 => Same H3 H6 ∧ H6 D = some (.lst (((ns.take j).filter fun o => decide (1 < ((Int.gcd m o : Nat) : Int))).map V.int))) ⟨Same.new hD, upd_same⟩ (fun j H6 _ z => Same.seqT z.1 p2) ?_ ?_
        · rintro j x H6 hx ⟨p1, p2⟩
          obtain ⟨o, ho, rfl⟩ := map_at hx
          have ho3 := hL.ge o (List.mem_of_getElem? ho)
          refine ⟨rfl, _, rfl, _, rfl, m, o, rfl, by omega, by omega, _, _, rfl, rfl, _, rfl, ?_⟩
          cases e : decide (1 < ((Int.gcd m o : Nat) : Int)) with
          | true =>
            refine iteT ⟨_, rfl, _, p2, len_lt ?_, Same.upd p1 hD, ?_⟩
            · rw [List.length_map]
              have := List.length_filter_le (fun o => decide (1 < ((Int.gcd m o : Nat) : Int))) (ns.take j)
              have := List.length_take_le j ns
              have := (List.getElem?_eq_some_iff.mp ho).1
              omega
            · rw [upd_same, filt_at ho, if_pos e, List.map_append]
              rfl
          | false =>
            refine iteF ⟨p1, ?_⟩
            rw [filt_at ho, if_neg (by rw [e]; decide), List.append_nil]
            exact p2
        · rintro H6 ⟨p1, p2⟩
          rw [List.length_map, List.take_length] at p2
          refine ⟨(by show 0 ≤ sizeLine; decide), fun E hE => neL (ms := []) (SqL.of (by rw [upd_ne (ne_of_none p2 hE)]; exact p2)) (SqL.of upd_same) ⟨_, rfl, ?_⟩⟩
          have s7 : Same H (upd H6 E (.lst [])) := ((s1.trans s2).trans p1).trans (Same.new hE)
          generalize upd H6 E (.lst []) = H7 at s7
          cases e : decide (List.filter (fun o => decide (1 < ((Int.gcd m o : Nat) : Int))) ns = []) with
          | true =>
            have e2 := filt_nil (of_decide_eq_true e)
            have ok : okNext ns m = true := by
              refine okNext_iff.mpr ⟨lm, fun o ho => ?_⟩
              have e5 := e2 o ho
              have e6 : ¬ (1 < ((Int.gcd m o : Nat) : Int)) := of_decide_eq_false e5
              have e7 : 0 < Int.gcd m o := Int.gcd_pos_of_ne_zero_left _ (by omega)
              omega
            refine iteF ⟨⟨ns ++ [m], _, _, Lot.snoc hL ok, by simp [hlen], ?_, ?_, rfl⟩, s7⟩
            · rw [take_at hx, htk, List.map_append]
              rfl
            · rw [go]
              show (if okNext ns m = true then lotGo (ns ++ [m]) (xs.drop (i + 1)) else false) = _
              rw [if_pos ok]
          | false =>
            refine iteT (fin ns go ?_ _ s7)
            have no : okNext ns m = false := by
              cases ok : okNext ns m with
              | false => rfl
              | true =>
                obtain ⟨_, h2⟩ := okNext_iff.mp ok
                have e3 : List.filter (fun o => decide (1 < ((Int.gcd m o : Nat) : Int))) ns = [] := by
                  rw [List.filter_eq_nil_iff]
                  intro o ho
                  rw [h2 o ho]
                  decide
                rw [e3] at e
                simp at e
            show (if okNext ns m = true then _ else false) = false
            rw [no]
            rfl
    · rintro σ H' ⟨⟨ns, u, v, hL, hlen, htk, go, rfl⟩, hH⟩
      rw [List.drop_length] at go
      have e : isL (some xs) = true := go
      rw [e] at q
      exact q _ hH
end
end KV

/-! count, below -/
namespace KV
open PySem PySem.Spec PyProof.Rows L2 KM
section
variable {P : Program} {w : World} {K : PySem.W.Frag} {mg : Str → Option Value} {base : Heap}
def spCount : Sp := fun vs H Q _ => ∃ (d c : Addr) (W : Int), vs = [.ref d, .int W] ∧ Dl H d c ∧ sm 401 W ∧ ∀ n H', sm 499 n → Dl H' d c → Kp d c H H' → Q (.int n) H'
theorem sc29 : FnScope ["_law_deal", "_law_whole", "_law_form"] ["_law_deal", "_law_whole"] (defScope (top 31)) := ⟨rfl, rfl, rfl, by decide +kernel, rfl, by decide +kernel, by decide +kernel⟩
theorem smi {k : Nat} {i : Int} (h : i.natAbs < 2 ^ 10) (hk : 10 ≤ k) : sm k i := sm_mono h hk
theorem ok_count {f : Addr} {fd : FuncData} (B : Bl mg) (CA : Cal P w K mg base CX0 1 "_law_any" ["_law_deal", "_law_bound"] spAny) (CO : Cal P w K mg base CX0 2 "_law_of" ["_law_deal", "_law_some"] (spOf K))
    (F : Fun K "_law_count" "_law_count" (top 31) f fd) : FnOk P w K mg base CX0 3 f fd ["_law_deal", "_law_whole"] spCount := by
  refine F.ok sc29 (fun vs H Q E h => ?_) (fun cdv A outer s H vs Q E hr h => ⟨_,
    (pss_cons (ps_set (i := 2) sc29.nd rfl (.inl rfl) (by exact (pe_cal (X := L2.Cx.nox _) CA hr (by decide) (pa_cons (pv 0) (pa_cons pe_int pa_nil)))))
    (pss_cons (ps_if (pt_cmpR op_eq (pv 2) pe_int (nomark _)) (pss_one (ps_ret (pe_op op_sub (by exact (pe_cal (X := L2.Cx.nox _) CA hr (by decide) (pa_cons (pv 0) (pa_cons pe_int pa_nil)))) pe_int))) pss_nil)
    (pss_cons (ps_if (pt_cmpR op_eq (pv 2) pe_int (nomark _)) (pss_one (ps_ret (pe_op op_sub (pe_op op_add (pe_op op_mulW (pv 1) (pe_op op_sub (by exact (pe_cal (X := L2.Cx.nox _) CA hr (by decide) (pa_cons (pv 0) (pa_cons pe_int pa_nil)))) pe_int)) (by exact (pe_cal (X := L2.Cx.nox _) CA hr (by decide) (pa_cons (pv 0) (pa_cons pe_int pa_nil))))) pe_int))) pss_nil)
    (pss_one (ps_ret (pe_op op_add (pe_op op_mulW (by exact (pe_cal (X := L2.Cx.nox _) CA hr (by decide) (pa_cons (pv 0) (pa_cons (pe_op op_pow pe_int pe_int) pa_nil)))) (by exact (pe_cal (X := L2.Cx.nox _) CO hr (by decide) (pa_cons (pv 0) (pa_cons (pe_lst (pa_cons pe_int (pa_cons (pe_un un_neg pe_int) pa_nil))) pa_nil))))) (by exact (pe_cal (X := L2.Cx.nox _) CA hr (by decide) (pa_cons (pv 0) (pa_cons pe_int pa_nil)))))))))), ?_⟩)
  · obtain ⟨d, c, W, rfl, _⟩ := h
    rfl
  obtain ⟨d, c, W, rfl, hD, hW, q⟩ := h
  refine ⟨_, rfl, d, c, 4, rfl, hD, by decide, by decide, fun fm H1 f0 f1 hD1 k1 => ?_⟩
  dsimp only [gName]
  refine ⟨_, rfl, rfl, _, rfl, ?_⟩
  by_cases z0 : fm = 0
  · refine iteP (by simp [z0]) ⟨_, rfl, d, c, 41, rfl, hD1, by decide, by decide, fun r H2 r0 r1 hD2 k2 => ⟨_, _, rfl, rfl, q _ _ (smi (by show (r - 20).natAbs < 2 ^ 10; omega) (by decide)) hD2 (k1.trans k2)⟩⟩
  · refine iteN (by simp [z0]) ⟨_, rfl, rfl, _, rfl, ?_⟩
    by_cases z1 : fm = 1
    · refine iteP (by simp [z1]) ⟨_, rfl, _, rfl, d, c, 9, rfl, hD1, by decide, by decide, fun r H2 r0 r1 hD2 k2 => ⟨_, _, rfl, rfl, _, _, rfl, rfl, mulW (k := 10) hW (smi (by show (r - 4).natAbs < 2 ^ 10; omega) (by decide)) (by decide) (by decide) (by decide), _, rfl, d, c, 5, rfl, hD2, by decide, by decide, fun r3 H3 r30 r31 hD3 k3 => ⟨_, _, rfl, rfl, _, _, rfl, rfl, q _ _ ?_ hD3 ((k1.trans k2).trans k3)⟩⟩⟩
      have s1 : sm 411 (W * (r - 4)) := sm_mul hW (show sm 10 _ from smi (by show (r - 4).natAbs < 2 ^ 10; omega) (by decide))
      have s2 : sm 412 (W * (r - 4) + r3) := sm_add s1 (smi (by show r3.natAbs < 2 ^ 10; omega) (by decide))
      have s3 : sm 413 (W * (r - 4) + r3 - 2) := sm_sub s2 (smi (by decide) (by decide))
      exact sm_mono s3 (by decide)
    · refine iteN (by simp [z1]) ⟨_, rfl, _, _, rfl, rfl, ⟨by decide, by decide, by decide⟩, d, c, _, rfl, hD1, by decide, by decide, fun r H2 r0 r1 hD2 k2 => ⟨_, rfl, _, rfl, (by show 2 ≤ sizeLine; decide), fun a ha => ⟨d, c, a, _, rfl, hD2.same (Same.new ha), (hD2.ne ha).1, (hD2.ne ha).2, SqL.of upd_same, by decide, by decide, fun j x H4 hx hD4 k4 => ?_⟩⟩⟩
      obtain ⟨m, hm1, rfl⟩ := map_at (ns := [1, -1]) hx
      have hm2 := List.mem_of_getElem? hm1
      have hm3 : m.natAbs < 2 ^ 10 := by
        simp at hm2
        rcases hm2 with rfl | rfl <;> decide
      have sr : sm 100 r := sm_of r0 (Int.lt_trans r1 (by decide))
      refine ⟨_, _, rfl, rfl, mulW (k := 10) sr (smi hm3 (by decide)) (by decide) (by decide) (by decide), _, rfl, d, c, 7, rfl, hD4, by decide, by decide, fun r5 H5 r50 r51 hD5 k5 => ⟨_, _, rfl, rfl, q _ _ ?_ hD5 (((k1.trans k2).new ha).trans (k4.trans k5))⟩⟩
      have s1 : sm 110 (r * m) := sm_mul sr (show sm 10 m from smi hm3 (by decide))
      exact sm_mono (sm_add s1 (smi (by show r5.natAbs < 2 ^ 10; omega) (by decide))) (by decide)
def spLBelow (K : PySem.W.Frag) : Sp := fun vs H Q _ => ∃ (a : Addr) (R : List Int) (m b : Int), vs = [.ref a, .int m, .int b] ∧ SqL K H a (R.map V.int) ∧ R.length ≤ 16 ∧ 0 < m ∧ sm 401 m ∧ sm 499 b ∧ ∀ H', Same H H' → Q (.int (below R m b)) H'
theorem sc30 : FnScope ["_law_found", "_law_whole", "_law_n", "_law_rounds", "_law_rest", "_law_one"] ["_law_found", "_law_whole", "_law_n"] (defScope (top 32)) := ⟨rfl, rfl, rfl, by decide +kernel, rfl, by decide +kernel, by decide +kernel⟩
theorem ok_lbelow {f : Addr} {fd : FuncData} (B : Bl mg) (F : Fun K "_law_below" "_law_below" (top 32) f fd) : FnOk P w K mg base CX0 1 f fd ["_law_found", "_law_whole", "_law_n"] (spLBelow K) := by
  refine F.ok sc30 (fun vs H Q E h => ?_) (fun cdv A outer s H vs Q E hr h => ⟨_,
    (pss_cons (ps_set (i := 3) sc30.nd rfl (.inl rfl) (pe_op op_fdivW (pv 2) (pv 1)))
    (pss_cons (ps_set (i := 4) sc30.nd rfl (.inr rfl) (pe_op op_sub (pv 2) (pe_op op_mulW (pv 3) (pv 1))))
    (pss_one (ps_ret (pe_op op_add (pe_op op_mulW (pv 3) (pe_callB call_len_seq (by rfl) B.len PySem.boot_len (pa_cons (pv 0) pa_nil))) (pe_callB call_len_seq (by rfl) B.len PySem.boot_len (pa_cons (pe_lc (own := [("_law_one", 5)]) (g := gName 5) rfl sc30.nd (pi_list (pv 0)) (blkOk_by (N := ["_law_found", "_law_whole", "_law_n", "_law_rounds", "_law_rest", "_law_one"]) (sc := defScope (top 32)) (by decide +kernel))
        (fun _ _ _ _ _ => pg_name (i := 5) sc30.nd rfl (Or.inl rfl)) (fun _ _ _ _ _ => (pts_one (pt_cmpR op_lt (pv 5) (pv 4) (nomark _)))) (fun _ _ _ _ _ => (pv 5))) pa_nil))))))), ?_⟩)
  · obtain ⟨a, R, m, b, rfl, _⟩ := h
    rfl
  obtain ⟨a, R, m, b, rfl, hS, hl, hm, sm1, sb, q⟩ := h
  refine ⟨_, rfl, _, rfl, _, _, rfl, rfl, divW hm sm1 (by decide) (by decide), _, rfl, _, rfl, _, rfl, _, _, rfl, rfl, mulW (div_sm hm sb) sm1 (by decide) (by decide) (by decide), _, _, rfl, rfl, ?_⟩
  dsimp only [gName]
  have er : b - b / m * m = b % m := by
    rw [Int.emod_def, Int.mul_comm]
  rw [er]
  refine ⟨_, rfl, _, rfl, a, _, rfl, .inl hS, _, _, rfl, rfl, mulW (div_sm hm sb) (show sm 10 _ from ?_) (by decide) (by decide) (by decide), ?_⟩
  · show (((R.map V.int).length : Nat) : Int).natAbs < 2 ^ 10
    rw [List.length_map]
    omega
  refine ⟨_, rfl, a, rfl, ⟨_, hS⟩, fun D hD => lc_list (xs := R.map V.int) (fun i H' => Same H H' ∧ H' D = some (.lst (((R.take i).filter fun r => decide (r < b % m)).map V.int)))
    ⟨Same.new hD, upd_same⟩ (fun i H' _ z => z.1.seq hS) ?_ ?_⟩
  · rintro i x H' hx ⟨p1, p2⟩
    obtain ⟨r, hr', rfl⟩ := map_at hx
    refine ⟨rfl, _, rfl, _, rfl, _, _, rfl, rfl, _, rfl, ?_⟩
    cases z : decide (r < b % m) with
    | true =>
      refine iteT ⟨_, rfl, _, p2, len_lt ?_, Same.upd p1 hD, ?_⟩
      · rw [List.length_map]
        have := List.length_filter_le (fun r => decide (r < b % m)) (R.take i)
        rw [List.length_take] at this
        omega
      · rw [upd_same, filt_at hr', if_pos z, List.map_append]
        rfl
    | false =>
      refine iteF ⟨p1, ?_⟩
      rw [filt_at hr', if_neg (by rw [z]; decide), List.append_nil]
      exact p2
  · rintro H' ⟨p1, p2⟩
    rw [List.length_map, List.take_length] at p2
    refine ⟨D, _, rfl, .inl (SqL.of p2), _, _, rfl, rfl, ?_⟩
    rw [List.length_map, List.length_map]
    exact q _ p1
end
end KV

/-! near -/
namespace KV
open PySem PySem.Spec PyProof.Rows L2 KM
theorem ixN_at {n : Nat} {r : Int} (h0 : 0 ≤ r) (h1 : r < n) : L2.ixN n r = some r.toNat := by
  unfold L2.ixN
  rw [if_pos h0, if_pos h1]
theorem atI_at {xs : List V} {r : Int} {v : V} (h0 : 0 ≤ r) (h1 : r < xs.length) (h : xs[r.toNat]? = some v) : atI xs r = some v := by
  unfold atI
  rw [ixN_at h0 h1]
  exact h
def Itm0 (K : PySem.W.Frag) (x : V) : Prop := ∀ H, Itm K H x
theorem itm0_int {K : PySem.W.Frag} {i : Int} (h : sm 120 i) : Itm0 K (.int i) := fun _ => .inl ⟨i, rfl, h⟩
theorem itm0_bl {K : PySem.W.Frag} {b : Bool} : Itm0 K (.bl b) := fun _ => .inr ⟨fun _ z => (by cases z), "bool", .base (.bl b), .inl rfl⟩
theorem itm0_non {K : PySem.W.Frag} : Itm0 K .non := fun _ => .inr ⟨fun _ z => (by cases z), "NoneType", .base .non, .inr (.inl rfl)⟩
theorem itm0_str {K : PySem.W.Frag} {x : Str} : Itm0 K (.str x) := fun _ => .inr ⟨fun _ z => (by cases z), "str", .base (.str x), .inr (.inr (.inl rfl))⟩
def NearN (K : PySem.W.Frag) (d c p : Addr) (H : Hp) (fm : Int) (k : Int) (σ : L2.St) (H' : Hp) : Prop := ∃ (l : Addr) (u : Option V) (xs : List V), σ = [some (.ref d), some (.ref p), some (.int fm), some (.ref l), u] ∧ H l = none ∧ H' l = some (.lst xs) ∧ Dl H' d c ∧ Kp d c H H' ∧ xs.length ≤ 5 ∧ (∀ x ∈ xs, Itm0 K x) ∧
  (k ≤ fm → xs.length ≤ 4 ∧ ∃ ms : List Int, xs = ms.map V.int ∧ ∀ m ∈ ms, sm 101 m)
theorem NearN.skip {K : PySem.W.Frag} {d c p : Addr} {H : Hp} {fm k : Int} {σ : L2.St} {H' : Hp} (h : NearN K d c p H fm k σ H') : NearN K d c p H fm (k + 1) σ H' := by
  obtain ⟨l, u, xs, h1, h2, h3, h4, h5, h6, h7, h8⟩ := h
  exact ⟨l, u, xs, h1, h2, h3, h4, h5, h6, h7, fun z => h8 (by omega)⟩
theorem NearN.put {K : PySem.W.Frag} {d c p : Addr} {H : Hp} {fm k : Int} {H' : Hp} {l : Addr} {u : Option V} {xs : List V} (h2 : H l = none) (h3 : H' l = some (.lst xs)) (h4 : Dl H' d c) (h5 : Kp d c H H') (h6 : xs.length ≤ 5) (h7 : ∀ x ∈ xs, Itm0 K x) (h8 : fm < k) :
    NearN K d c p H fm k [some (.ref d), some (.ref p), some (.int fm), some (.ref l), u] H' := ⟨l, u, xs, rfl, h2, h3, h4, h5, h6, h7, fun z => absurd z (by omega)⟩
theorem NearN.same {K : PySem.W.Frag} {d c p : Addr} {H : Hp} {fm k : Int} {σ : L2.St} {H' H'' : Hp} (h : NearN K d c p H fm k σ H') (s : Same H' H'') : NearN K d c p H fm k σ H'' := by
  obtain ⟨l, u, xs, h1, h2, h3, h4, h5, h6, h7, h8⟩ := h
  exact ⟨l, u, xs, h1, h2, s _ _ h3, h4.same s, h5.trans (Kp.of s), h6, h7, h8⟩
section
variable {P : Program} {w : World} {K : PySem.W.Frag} {mg : Str → Option Value} {base : Heap}
def spNear (K : PySem.W.Frag) : Sp := fun vs H Q _ => ∃ (d c p : Addr) (ns : List Int), vs = [.ref d, .ref p] ∧ Dl H d c ∧ H p = some (.tup (ns.map V.int)) ∧ LotS ns ∧ ∀ v ms H', ValT K H' v ms → Dl H' d c → Kp d c H H' → Q v H'
theorem sc28 : FnScope ["_law_deal", "_law_lot_here", "_law_form", "_law_some", "_law_at"] ["_law_deal", "_law_lot_here"] (defScope (top 30)) := ⟨rfl, rfl, rfl, by decide +kernel, rfl, by decide +kernel, by decide +kernel⟩
set_option maxHeartbeats 8000000 in
theorem ok_near {f : Addr} {fd : FuncData} (B : Bl mg) (CA : Cal P w K mg base CX0 1 "_law_any" ["_law_deal", "_law_bound"] spAny) (CO : Cal P w K mg base CX0 2 "_law_of" ["_law_deal", "_law_some"] (spOf K))
    (F : Fun K "_law_near" "_law_near" (top 30) f fd) : FnOk P w K mg base CX0 3 f fd ["_law_deal", "_law_lot_here"] (spNear K) := by
  refine F.ok sc28 (fun vs H Q E h => ?_) (fun cdv A outer s H vs Q E hr h => ⟨_,
    (pss_cons (ps_par (i := 2) (j := 3) rfl sc28.nd rfl rfl (by decide) rfl rfl (pa_cons (by exact (pe_cal (X := L2.Cx.nox _) CA hr (by decide) (pa_cons (pv 0) (pa_cons pe_int pa_nil)))) (pa_cons (pe_callTy call_list_of (by rfl) B.list (by decide +kernel) (pa_cons (pv 1) pa_nil)) pa_nil)) (by rfl))
    (pss_cons (ps_if (pt_cmpR op_eq (pv 2) pe_int (nomark _)) (pss_one (ps_ret (by exact (pe_cal (X := L2.Cx.nox _) CO hr (by decide) (pa_cons (pv 0) (pa_cons (pe_lst (pa_cons (pv 3) (pa_cons pe_non (pa_cons pe_int (pa_cons pe_str (pa_cons pe_dnewK (pa_cons (pe_tup (pa_cons (pv 1) pa_nil)) pa_nil))))))) pa_nil)))))) pss_nil)
    (pss_cons (ps_if (pt_cmpR op_eq (pv 2) pe_int (nomark _)) (pss_one (ps_expr (pe_bm PySem.F.plainAttrs_list PySem.F.slot_list_insert PySem.F.type_list_insert mt_insert (pv 3) (pa_cons (by exact (pe_cal (X := L2.Cx.nox _) CA hr (by decide) (pa_cons (pv 0) (pa_cons (pe_op op_add (pe_callB call_len_seq (by rfl) B.len PySem.boot_len (pa_cons (pv 3) pa_nil)) pe_int) pa_nil)))) (pa_cons (by exact (pe_cal (X := L2.Cx.nox _) CO hr (by decide) (pa_cons (pv 0) (pa_cons (pe_lst (pa_cons pe_bl (pa_cons pe_non (pa_cons pe_str (pa_cons pe_int (pa_cons pe_int (pa_cons pe_int (pa_cons (pe_un un_neg pe_int) pa_nil)))))))) pa_nil)))) pa_nil))))) pss_nil)
    (pss_cons (ps_if (pt_cmpR op_eq (pv 2) pe_int (nomark _)) (pss_one (ps_set (i := 3) sc28.nd rfl (.inl rfl) (pe_callB cr_sortedI (by rfl) B.sorted (by decide +kernel) (pa_cons (pe_op op_cat (pv 3) (pe_lst (pa_cons (by exact (pe_cal (X := L2.Cx.nox _) CO hr (by decide) (pa_cons (pv 0) (pa_cons (pe_lst (pa_cons pe_int (pa_cons pe_int (pa_cons pe_int (pa_cons pe_int (pa_cons pe_int (pa_cons pe_int (pa_cons pe_int (pa_cons pe_int (pa_cons pe_int pa_nil)))))))))) pa_nil)))) pa_nil))) pa_nil)))) pss_nil)
    (pss_cons (ps_if (pt_cmpR op_eq (pv 2) pe_int (nomark _)) (pss_one (ps_set (i := 3) sc28.nd rfl (.inl rfl) (pe_revL (pv 3)))) pss_nil)
    (pss_cons (ps_if (PW.pt (pw_and (pt_cmpR op_eq (pv 2) pe_int (nomark _)) (pw_and1 (pt_cmpR (op_neD hr.units) (pv 3) (pe_lst pa_nil) (nomark _))))) (pss_one (ps_asg (by exact (pe_cal (X := L2.Cx.nox _) CO hr (by decide) (pa_cons (pv 0) (pa_cons (pv 3) pa_nil)))) (pg_sub (pv 3) (by exact (pe_cal (X := L2.Cx.nox _) CA hr (by decide) (pa_cons (pv 0) (pa_cons (pe_callB call_len_seq (by rfl) B.len PySem.boot_len (pa_cons (pv 3) pa_nil)) pa_nil)))) set_list))) pss_nil)
    (pss_cons (ps_if (PW.pt (pw_and (pt_cmpR op_eq (pv 2) pe_int (nomark _)) (pw_and1 (pt_cmpR (op_neD hr.units) (pv 3) (pe_lst pa_nil) (nomark _))))) (pss_cons (ps_set (i := 4) sc28.nd rfl (.inl rfl) (by exact (pe_cal (X := L2.Cx.nox _) CA hr (by decide) (pa_cons (pv 0) (pa_cons (pe_callB call_len_seq (by rfl) B.len PySem.boot_len (pa_cons (pv 3) pa_nil)) pa_nil)))))
    (pss_one (ps_asg (pe_op op_mulW (pe_ix ix_list (pv 3) (pv 4) (fun _ _ => rfl)) (by exact (pe_cal (X := L2.Cx.nox _) CO hr (by decide) (pa_cons (pv 0) (pa_cons (pe_lst (pa_cons pe_int (pa_cons pe_int (pa_cons pe_int (pa_cons (pe_un un_neg pe_int) pa_nil))))) pa_nil))))) (pg_sub (pv 3) (pv 4) set_list)))) pss_nil)
    (pss_cons (ps_if (PW.pt (pw_and (pt_cmpR op_eq (pv 2) pe_int (nomark _)) (pw_and1 (pt_cmpR (op_neD hr.units) (pv 3) (pe_lst pa_nil) (nomark _))))) (pss_one (ps_expr (pe_bm PySem.F.plainAttrs_list PySem.F.slot_list_pop PySem.F.type_list_pop mt_popAt (pv 3) (pa_cons (by exact (pe_cal (X := L2.Cx.nox _) CA hr (by decide) (pa_cons (pv 0) (pa_cons (pe_callB call_len_seq (by rfl) B.len PySem.boot_len (pa_cons (pv 3) pa_nil)) pa_nil)))) pa_nil)))) pss_nil)
    (pss_one (ps_ret (pe_callTy call_tuple_of (by rfl) B.tuple (by decide +kernel) (pa_cons (pv 3) pa_nil)))))))))))), ?_⟩)
  · obtain ⟨d, c, p, ns, rfl, _⟩ := h
    rfl
  obtain ⟨d, c, p, ns, rfl, hD, hp, hL, q⟩ := h
  have pd := hD.neT hp
  refine ⟨_, rfl, d, c, 8, rfl, hD, by decide, by decide, fun fm H1 f0 f1 hD1 k1 => ⟨_, rfl, p, _, rfl, .inr (SqT.of (k1 _ _ pd.1 pd.2 hp)), fun l hl => ⟨_, _, rfl, ?_⟩⟩⟩
  have ld := hD1.ne hl
  have st : NearN K d c p H fm 0 [some (.ref d), some (.ref p), some (.int fm), some (.ref l), none] (upd H1 l (.lst (ns.map V.int))) :=
    ⟨l, none, ns.map V.int, rfl, k1.free ld.1 ld.2 hl, upd_same, hD1.same (Same.new hl), k1.new hl, by rw [List.length_map]; have := hL.few; omega, fun x hx => by
      obtain ⟨m, hm, rfl⟩ := List.mem_map.mp hx
      exact itm0_int (sm_mono (hL.m hm) (by decide)), fun _ => ⟨by rw [List.length_map]; exact hL.few, ns, rfl, fun m hm => sm_mono (hL.m hm) (by decide)⟩⟩
  have hl1 : upd H1 l (.lst (ns.map V.int)) l = some (.lst (ns.map V.int)) := upd_same
  have D2 : Dl (upd H1 l (.lst (ns.map V.int))) d c := hD1.same (Same.new hl)
  have k2 : Kp d c H (upd H1 l (.lst (ns.map V.int))) := k1.new hl
  generalize upd H1 l (.lst (ns.map V.int)) = H2 at st hl1 D2 k2
  dsimp only [gName]
  refine sq_cut (NearN K d c p H fm 1) (fun Z hZ => ⟨_, rfl, rfl, _, rfl, ?_⟩) ?_
  by_cases z0 : fm = 0
  · refine iteP (by simp [z0]) ⟨_, rfl, _, rfl, fun dd hdd => ⟨_, rfl, (by show 1 ≤ sizeLine; decide), fun tt htt => ⟨(by show 6 ≤ sizeLine; decide), fun a ha => ?_⟩⟩⟩
    have D3 := D2.same (Same.new (o := .dK []) hdd)
    have D4 := D3.same (Same.new (o := .tup [.ref p]) htt)
    have ddn := D2.ne hdd
    have ttn := D3.ne htt
    have an := D4.ne ha
    refine ⟨d, c, a, _, rfl, D4.same (Same.new ha), an.1, an.2, SqL.of upd_same, (show 0 < 6 by decide), (show 6 ≤ 1000 by decide), fun j x H4 hx hD4 k4 => ?_⟩
    have s5 : Same H2 (upd (upd (upd H2 dd (.dK [])) tt (.tup [.ref p])) a (.lst [.ref l, .non, .int 0, .str "36", .ref dd, .ref tt])) := ((Same.new hdd).trans (Same.new htt)).trans (Same.new ha)
    have k5 : Kp d c H H4 := (k2.trans (Kp.of s5)).trans k4
    have hl4 : H4 l = some (.lst (ns.map V.int)) := k4 _ _ ld.1 ld.2 (s5 _ _ hl1)
    have hd4 : H4 dd = some (.dK []) := k4 _ _ ddn.1 ddn.2 (Same.new ha _ _ (Same.new htt _ _ upd_same))
    have ht4 : H4 tt = some (.tup [.ref p]) := k4 _ _ ttn.1 ttn.2 (Same.new ha _ _ upd_same)
    have hp4 : H4 p = some (.tup (ns.map V.int)) := k5 _ _ pd.1 pd.2 hp
    match j, hx with
    | 0, hx =>
      cases hx
      exact q _ none _ ⟨"list", .base (.lst hl4), .inl rfl⟩ hD4 k5
    | 1, hx =>
      cases hx
      exact q _ none _ ⟨"NoneType", .base .non, .inr (.inl rfl)⟩ hD4 k5
    | 2, hx =>
      cases hx
      exact q _ none _ ⟨"int", .base (.int 0), .inr (.inr (.inl rfl))⟩ hD4 k5
    | 3, hx =>
      cases hx
      exact q _ none _ ⟨"str", .base (.str _), .inr (.inr (.inr (.inl rfl)))⟩ hD4 k5
    | 4, hx =>
      cases hx
      exact q _ none _ ⟨"dict", .base (.dK hd4), .inr (.inr (.inr (.inr rfl)))⟩ hD4 k5
    | 5, hx =>
      cases hx
      exact q _ (some [.ref p]) _ ⟨tt, rfl, SqT.of ht4, .base (.tup ht4), fun x hx => by
        have e : x = .ref p := by simpa using hx
        rw [e]
        exact .inr ⟨fun _ z => (by cases z), "tuple", .base (.tup hp4), .inr (.inr (.inr rfl))⟩, show 1 ≤ 8 by decide⟩ hD4 k5
    | j + 6, hx => cases hx
  · exact iteN (by simp [z0]) (hZ _ _ st.skip)
  rintro σ H3 st3
  obtain ⟨l, u, xs, rfl, h2, h3, h4, h5, h6, h7, h8⟩ := id st3
  refine sq_cut (NearN K d c p H fm 2) (fun Z hZ => ?_) ?_
  · refine ⟨_, rfl, rfl, _, rfl, ?_⟩
    by_cases z0 : fm = 1
    · obtain ⟨xl, _⟩ := h8 (by omega)
      have ld := hD.ne h2
      refine iteP (by simp [z0]) ⟨_, rfl, .inl ⟨rfl, _, SqL.of h3⟩, _, rfl, _, rfl, l, xs, rfl, .inl (SqL.of h3), _, _, rfl, rfl, d, c, _, rfl, h4, by omega, smi (by omega) (by decide), fun r H4 r0 r1 hD4 k4 => ⟨_, rfl, _, rfl, (by show 7 ≤ sizeLine; decide), fun a ha => ⟨d, c, a, _, rfl, hD4.same (Same.new ha), (hD4.ne ha).1, (hD4.ne ha).2, SqL.of upd_same, (show 0 < 7 by decide), (show 7 ≤ 1000 by decide), fun j x H5 hx hD5 k5 => ?_⟩⟩⟩
      have h3' : H5 l = some (.lst xs) := k5 _ _ ld.1 ld.2 (by rw [upd_ne (ne_of_none (k4 _ _ ld.1 ld.2 h3) ha)]; exact k4 _ _ ld.1 ld.2 h3)
      have hx2 := List.mem_of_getElem? hx
      have hi : Itm0 K x := by
        simp only [List.mem_cons, List.not_mem_nil, or_false] at hx2
        rcases hx2 with rfl | rfl | rfl | rfl | rfl | rfl | rfl
        · exact itm0_bl
        · exact itm0_non
        · exact itm0_str
        all_goals exact itm0_int (by decide)
      refine ⟨l, xs, r, x, rfl, rfl, h3', len_lt (by omega), r0, by omega, hZ _ _ (NearN.put h2 upd_same (hD5.upd ld.1 ld.2) ((((h5.trans k4).new ha).trans k5).updn h2) ?_ (fun y hy => ?_) (by omega))⟩
      · simp only [List.length_append, List.length_take, List.length_drop, List.length_cons, List.length_nil]
        omega
      · rcases List.mem_append.mp hy with hy | hy
        · rcases List.mem_append.mp hy with hy | hy
          · exact h7 y (List.mem_of_mem_take hy)
          · have : y = x := by simpa using hy
            rw [this]
            exact hi
        · exact h7 y (List.mem_of_mem_drop hy)
    · exact iteN (by simp [z0]) (hZ _ _ st3.skip)
  rintro σ H3 st3
  obtain ⟨l, u, xs, rfl, h2, h3, h4, h5, h6, h7, h8⟩ := id st3
  have ld := hD.ne h2
  refine sq_cut (NearN K d c p H fm 3) (fun Z hZ => ?_) ?_
  · refine ⟨_, rfl, rfl, _, rfl, ?_⟩
    by_cases z0 : fm = 2
    · obtain ⟨xl, ms, rfl, hms⟩ := h8 (by omega)
      refine iteP (by simp [z0]) ⟨_, rfl, _, rfl, (by show 9 ≤ sizeLine; decide), fun a ha => ⟨d, c, a, _, rfl, h4.same (Same.new ha), (h4.ne ha).1, (h4.ne ha).2, SqL.of upd_same, (show 0 < 9 by decide), (show 9 ≤ 1000 by decide), fun j x H5 hx hD5 k5 => ⟨(by show 1 ≤ sizeLine; decide), fun b hb => ?_⟩⟩⟩
      obtain ⟨m, hm1, rfl⟩ := map_at (ns := [1, 2, 3, 4, 5, 6, 7, 9, 35]) hx
      have hm2 := List.mem_of_getElem? hm1
      have hm3 : m.natAbs < 2 ^ 10 := by
        simp at hm2
        omega
      have h3' : H5 l = some (.lst (ms.map V.int)) := k5 _ _ ld.1 ld.2 (by rw [upd_ne (ne_of_none h3 ha)]; exact h3)
      have h3b : upd H5 b (.lst [V.int m]) l = some (.lst (ms.map V.int)) := by rw [upd_ne (ne_of_none h3' hb)]; exact h3'
      refine ⟨l, b, ms.map V.int, [.int m], rfl, rfl, h3b, upd_same, Nat.le_of_lt (len_lt (by simp only [List.length_cons, List.length_nil]; omega)), fun e he => ⟨e, ms ++ [m], rfl, SqL.of (by rw [upd_same, List.map_append]; rfl), fun ns' e2 pe so he2 => ?_⟩⟩
      have D6 := (hD5.same (Same.new (o := .lst [V.int m]) hb)).same (Same.new (o := .lst (ms.map V.int ++ [.int m])) he)
      have k6 := ((((h5.new (o := .lst _) ha).trans k5).new (o := .lst [V.int m]) hb).new (o := .lst (ms.map V.int ++ [.int m])) he)
      have en := D6.ne he2
      have ll := pe.length_eq
      rw [List.length_append] at ll
      rw [List.length_map] at xl
      refine hZ _ _ (NearN.put (k6.free en.1 en.2 he2) upd_same (D6.same (Same.new he2)) (k6.new he2) ?_ (fun y hy => ?_) (by omega))
      · rw [List.length_map, ll]
        show ms.length + 1 ≤ 5
        omega
      · obtain ⟨n, hn, rfl⟩ := List.mem_map.mp hy
        rcases List.mem_append.mp (pe.mem_iff.mp hn) with z | z
        · exact itm0_int (sm_mono (hms n z) (by decide))
        · have : n = m := by simpa using z
          rw [this]
          exact itm0_int (smi hm3 (by decide))
    · exact iteN (by simp [z0]) (hZ _ _ st3.skip)
  rintro σ H3 st3
  obtain ⟨l, u, xs, rfl, h2, h3, h4, h5, h6, h7, h8⟩ := id st3
  have ld := hD.ne h2
  refine sq_cut (NearN K d c p H fm 4) (fun Z hZ => ?_) ?_
  · refine ⟨_, rfl, rfl, _, rfl, ?_⟩
    by_cases z0 : fm = 3
    · obtain ⟨xl, ms, rfl, hms⟩ := h8 (by omega)
      refine iteP (by simp [z0]) ⟨_, rfl, l, _, rfl, SqL.of h3, fun e he => ?_⟩
      have en := h4.ne he
      exact hZ _ _ (NearN.put (h5.free en.1 en.2 he) upd_same (h4.same (Same.new he)) (h5.new he) (by rw [List.length_reverse]; omega) (fun y hy => h7 y (by simpa using hy)) (by omega))
    · exact iteN (by simp [z0]) (hZ _ _ st3.skip)
  rintro σ H3 st3
  obtain ⟨l, u, xs, rfl, h2, h3, h4, h5, h6, h7, h8⟩ := id st3
  have ld := hD.ne h2
  refine sq_cut (NearN K d c p H fm 5) (fun Z hZ => ?_) ?_
  · refine ⟨_, rfl, rfl, _, rfl, ?_⟩
    by_cases z0 : fm = 4
    · obtain ⟨xl, ms, rfl, hms⟩ := h8 (by omega)
      refine iteP (by simp [z0]) ⟨_, rfl, (by show 0 ≤ sizeLine; decide), fun e he => neL (ns := ms) (ms := []) (SqL.of (by rw [upd_ne (ne_of_none h3 he)]; exact h3)) (SqL.of upd_same) ⟨_, rfl, ?_⟩⟩
      have s4 : Same H3 (upd H3 e (.lst [])) := Same.new he
      generalize upd H3 e (.lst []) = H4 at s4
      have g3 := s4 _ _ h3
      have g4 := h4.same s4
      have g5 := h5.trans (Kp.of s4)
      have lz : (ms.map V.int).length = ms.length := List.length_map ..
      cases em : decide (ms = []) with
      | true => exact iteF (hZ _ _ (st3.skip.same s4))
      | false =>
        have mp : 0 < ms.length := List.length_pos_iff.mpr (of_decide_eq_false em)
        refine iteT ⟨_, rfl, _, rfl, d, c, l, _, rfl, g4, ld.1, ld.2, SqL.of g3, by omega, by omega, fun j x H5 hx hD5 k5 => ?_⟩
        have i3 := k5 _ _ ld.1 ld.2 g3
        refine ⟨_, rfl, _, rfl, _, rfl, l, _, rfl, .inl (SqL.of i3), d, c, _, rfl, hD5, by omega, smi (by omega) (by decide), fun r H6 r0 r1 hD6 k6 => ?_⟩
        have j3 := k6 _ _ ld.1 ld.2 i3
        refine ⟨l, _, r, r.toNat, rfl, rfl, j3, ixN_at r0 r1, hZ _ _ (NearN.put h2 upd_same (hD6.upd ld.1 ld.2) (((g5.trans k5).trans k6).updn h2) (by rw [List.length_set]; omega) (fun y hy => ?_) (by omega))⟩
        rcases List.mem_or_eq_of_mem_set hy with z | z
        · exact h7 y z
        · rw [z]
          exact h7 x (List.mem_of_getElem? hx)
    · exact iteN (by simp [z0]) (hZ _ _ st3.skip)
  rintro σ H3 st3
  obtain ⟨l, u, xs, rfl, h2, h3, h4, h5, h6, h7, h8⟩ := id st3
  have ld := hD.ne h2
  refine sq_cut (NearN K d c p H fm 6) (fun Z hZ => ?_) ?_
  · refine ⟨_, rfl, rfl, _, rfl, ?_⟩
    by_cases z0 : fm = 5
    · obtain ⟨xl, ms, rfl, hms⟩ := h8 (by omega)
      refine iteP (by simp [z0]) ⟨_, rfl, (by show 0 ≤ sizeLine; decide), fun e he => neL (ns := ms) (ms := []) (SqL.of (by rw [upd_ne (ne_of_none h3 he)]; exact h3)) (SqL.of upd_same) ⟨_, rfl, ?_⟩⟩
      have s4 : Same H3 (upd H3 e (.lst [])) := Same.new he
      generalize upd H3 e (.lst []) = H4 at s4
      have g3 := s4 _ _ h3
      have g4 := h4.same s4
      have g5 := h5.trans (Kp.of s4)
      have lz : (ms.map V.int).length = ms.length := List.length_map ..
      cases em : decide (ms = []) with
      | true => exact iteF (hZ _ _ (st3.skip.same s4))
      | false =>
        have mp : 0 < ms.length := List.length_pos_iff.mpr (of_decide_eq_false em)
        refine iteT ⟨_, rfl, _, rfl, l, _, rfl, .inl (SqL.of g3), d, c, _, rfl, g4, by omega, smi (by omega) (by decide), fun r H5 r0 r1 hD5 k5 => ?_⟩
        have i3 := k5 _ _ ld.1 ld.2 g3
        have hr1 : r.toNat < (ms.map V.int).length := by omega
        obtain ⟨n, hn, en⟩ := map_at (List.getElem?_eq_getElem hr1)
        have sn := hms n (List.mem_of_getElem? hn)
        refine ⟨_, rfl, _, rfl, l, _, r, _, rfl, rfl, SqL.of i3, atI_at r0 r1 (by rw [List.getElem?_eq_getElem hr1, en]), _, rfl, _, rfl, (by show 4 ≤ sizeLine; decide), fun a ha => ⟨d, c, a, _, rfl, hD5.same (Same.new ha), (hD5.ne ha).1, (hD5.ne ha).2, SqL.of upd_same, (show 0 < 4 by decide), (show 4 ≤ 1000 by decide), fun j x H6 hx hD6 k6 => ?_⟩⟩
        obtain ⟨m, hm1, rfl⟩ := map_at (ns := [2, 3, 5, -1]) hx
        have hm2 := List.mem_of_getElem? hm1
        have hm3 : m.natAbs < 2 ^ 10 := by
          simp at hm2
          omega
        have j3 : H6 l = some (.lst (ms.map V.int)) := k6 _ _ ld.1 ld.2 (by rw [upd_ne (ne_of_none i3 ha)]; exact i3)
        refine ⟨_, _, rfl, rfl, mulW (k := 10) sn (smi hm3 (by decide)) (by decide) (by decide) (by decide), _, rfl, _, rfl, l, _, r, r.toNat, rfl, rfl, j3, ixN_at r0 r1, hZ _ _ (NearN.put h2 upd_same (hD6.upd ld.1 ld.2) ((((g5.trans k5).new ha).trans k6).updn h2) (by rw [List.length_set]; omega) (fun y hy => ?_) (by omega))⟩
        rcases List.mem_or_eq_of_mem_set hy with z | z
        · exact h7 y z
        · rw [z]
          exact itm0_int (sm_mono (sm_mul sn (show sm 10 m from hm3)) (by decide))
    · exact iteN (by simp [z0]) (hZ _ _ st3.skip)
  rintro σ H3 st3
  obtain ⟨l, u, xs, rfl, h2, h3, h4, h5, h6, h7, h8⟩ := id st3
  have ld := hD.ne h2
  refine sq_cut (NearN K d c p H fm 7) (fun Z hZ => ?_) ?_
  · refine ⟨_, rfl, rfl, _, rfl, ?_⟩
    by_cases z0 : fm = 6
    · obtain ⟨xl, ms, rfl, hms⟩ := h8 (by omega)
      refine iteP (by simp [z0]) ⟨_, rfl, (by show 0 ≤ sizeLine; decide), fun e he => neL (ns := ms) (ms := []) (SqL.of (by rw [upd_ne (ne_of_none h3 he)]; exact h3)) (SqL.of upd_same) ⟨_, rfl, ?_⟩⟩
      have s4 : Same H3 (upd H3 e (.lst [])) := Same.new he
      generalize upd H3 e (.lst []) = H4 at s4
      have g3 := s4 _ _ h3
      have g4 := h4.same s4
      have g5 := h5.trans (Kp.of s4)
      have lz : (ms.map V.int).length = ms.length := List.length_map ..
      cases em : decide (ms = []) with
      | true => exact iteF (hZ _ _ (st3.skip.same s4))
      | false =>
        have mp : 0 < ms.length := List.length_pos_iff.mpr (of_decide_eq_false em)
        refine iteT ⟨_, rfl, .inl ⟨rfl, _, SqL.of g3⟩, _, rfl, _, rfl, l, _, rfl, .inl (SqL.of g3), d, c, _, rfl, g4, by omega, smi (by omega) (by decide), fun r H5 r0 r1 hD5 k5 => ?_⟩
        have i3 := k5 _ _ ld.1 ld.2 g3
        have hr1 : r.toNat < (ms.map V.int).length := by omega
        have hsx : seqIndex? r (ms.map V.int).length = some r.toNat := by
          unfold seqIndex?
          have e1 : ¬ r < 0 := by omega
          simp only [e1, if_false]
          rw [if_pos (by simp only [Bool.and_eq_true, decide_eq_true_eq]; omega)]
        refine ⟨l, _, r, r.toNat, _, rfl, rfl, i3, by omega, by omega, hsx, List.getElem?_eq_getElem hr1, hZ _ _ (NearN.put h2 upd_same (hD5.upd ld.1 ld.2) ((g5.trans k5).updn h2) ?_ (fun y hy => h7 y (List.mem_of_mem_eraseIdx hy)) (by omega))⟩
        have := List.length_eraseIdx_le (ms.map V.int) r.toNat
        omega
    · exact iteN (by simp [z0]) (hZ _ _ st3.skip)
  rintro σ H3 ⟨l, u, xs, rfl, h2, h3, h4, h5, h6, h7, h8⟩
  refine ⟨_, rfl, l, xs, rfl, .inl ⟨SqL.of h3, fun t ht => ?_⟩⟩
  exact q _ (some xs) _ ⟨t, rfl, SqT.of upd_same, .base (.tup upd_same), fun x hx => h7 x hx _, by omega⟩ (h4.same (Same.new ht)) (h5.new ht)
end
end KV

/-! calls by keywords alone; asked -/
namespace KV
open PySem PySem.Spec PyProof.Rows L2 KM
def rv {α : Type} (b : Bool) (l : List α) : List α := if b = true then l.reverse else l
theorem vals_app : ∀ {vs zs : List V} {us ws : List Value}, Vals vs us → Vals zs ws → Vals (vs ++ zs) (us ++ ws)
  | [], _, _, _, .nil, k => k
  | _ :: _, _, _, _, .cons r h, k => .cons r (vals_app h k)
theorem vals_rev : ∀ {vs : List V} {us : List Value}, Vals vs us → Vals vs.reverse us.reverse
  | [], _, .nil => .nil
  | _ :: _, _, .cons r h => by
    rw [List.reverse_cons, List.reverse_cons]
    exact vals_app (vals_rev h) (.cons r .nil)
theorem vals_rv {b : Bool} {vs : List V} {us : List Value} (h : Vals vs us) : Vals (rv b vs) (rv b us) := by
  cases b with
  | false => exact h
  | true => exact vals_rev h
/-- how a call with keywords alone binds: the names ks stand in the parameters' order, or the other way round (b) -/
def KB (K : PySem.W.Frag) (fd : FuncData) (ps ks : List Str) (b : Bool) : Prop := ∀ (s : Shared) (ws : List Value), K.In s.heap → (rv b ws).length = ps.length → BindsTo s fd ⟨[], ks.zip ws⟩ (ps.zip (rv b ws))
theorem KB.mk {K : PySem.W.Frag} {x qual : Str} {st : Stmt} {f : Addr} {fd : FuncData} {ps ks : List Str} {b : Bool} (F : Fun K x qual st f fd)
    (h : ∀ (kV doc pm : Value) (an : Option Addr) (cdv ct : Value) (us : List Value), us.length = ps.length → bindArgs (PySem.W.fnOf x qual (defArgs st) (defBody st) (defScope st) .none kV doc pm an cdv ct) ⟨[], ks.zip us⟩ = pure (ps.zip (rv b us))) : KB K fd ps ks b := by
  obtain ⟨oc, od, kV, doc, pm, an, cdv, ct, osl, rfl, lk, hcd⟩ := F.ex
  intro s ws _ hl
  refine .of_eq (h kV doc pm an cdv ct ws ?_)
  cases b with
  | false => exact hl
  | true => exact (List.length_reverse (as := ws)).symm.trans hl
/-- a def of the module that may be called with keywords alone -/
def CalK (P : Program) (w : World) (K : PySem.W.Frag) (mg : Str → Option Value) (base : Heap) (Z : CXT) (k : Nat) (x : Str) (ps ks : List Str) (b : Bool) (sp : Sp) : Prop :=
  ∃ (f : Addr) (fd : FuncData), FnOk P w K mg base Z k f fd ps sp ∧ mg x = some (.ref f) ∧ PySem.W.keepIn K (.ref f) = true ∧ KB K fd ps ks b
section
variable {X : Cx} {Z : CXT} {k j : Nat} {f : Addr} {fd : FuncData} {x : Str} {ps ks : List Str} {b : Bool} {sp : Sp} {p pos : Pos} {kws : List Keyword} {tk : TA} {E : L2.St → XK}
theorem run_fnSK {pins : List (Addr × Obj)} {σ : L2.St} {H : Hp} {s : Shared} {Q : VK} {ws : List Value} {zs : List V} (F : FnOk X.prog X.w X.K X.mg X.base Z k f fd ps sp) (hr : Room k X.A) (hb : KB X.K fd ps ks b) (hx : PassesAt Z X σ (E σ))
    (I : L2.Inv X pins σ H s) (rz : Vals zs ws) (h : sp (rv b zs) H Q (E σ)) : wpAny (model X.prog X.w) X.A (call (.ref f) [] (ks.zip ws)) (EP X pins σ Q) X.xe s := by
  have r2 := vals_rv (b := b) rz
  have hl : (rv b ws).length = ps.length := by rw [← r2.length]; exact F.len _ _ _ _ h
  refine wpAny_call (codeAny_mono (F.run X.A X.stack s H ⟨[], ks.zip ws⟩ (rv b ws) (rv b zs) Q (E σ) hr I.env0 (hb s ws I.kIn hl) r2 h) fun r s' hq => ?_)
  cases r with
  | error e => exact hx pins H s e s' I hq
  | ok fl =>
    cases fl with
    | ret u => exact I.after hq
    | next => exact False.elim hq
    | brk => exact False.elim hq
    | cont => exact False.elim hq
def tCallSK (sp : Sp) (b : Bool) (E : L2.St → XK) (tk : TA) : TE := fun σ H Q => tk σ H fun zs H1 => sp (rv b zs) H1 Q (E σ)
theorem pe_calSK (C : CalK X.prog X.w X.K X.mg X.base Z k x ps ks b sp) (hr : Room j X.A) (hj : k ≤ j) (hx : ∀ σ, PassesAt Z X σ (E σ)) (hkw : PK X kws tk) (hg : Gl X x := by rfl)
    (hall : (backToKw pos (keywordEach kws X.env)).all (·.1.isSome) = true := by rfl) (hks : (backToKw pos (keywordEach kws X.env)).filterMap (·.1) = ks := by rfl)
    (hdb : (x == ("__debug__" : Str)) = false := by decide)
    (hpl : ((backTo pos (starEach [] X.env)).any (·.1) || (backToKw pos (keywordEach kws X.env)).any (·.1.isNone)) = false := by rfl) :
    PE X (.Call (.Name x p) [] kws pos) (tCallSK sp b E tk) := by
  obtain ⟨f, fd, F, hm, hk, hb⟩ := C
  refine ⟨fun pins s σ H Q I h => ?_⟩
  refine wpAny_Call_Name_kw (ld_glob I hg hm ?_ hdb)
  refine PySem.W.callWith_KW0 (first := []) (h₀ := X.base) I.ok.mod.kin hk hall (thn (hkw.run pos pins s σ H _ I h) fun ws s2 ⟨zs, H2, I2, rz, q2⟩ => ⟨I2.kIn, ?_⟩) hpl
  rw [hks]
  exact run_fnSK F (hr.mono hj) hb (hx σ) I2 rz q2
theorem pe_calS {e : Expr} {es : List Expr} {t : TA} (C : Cal X.prog X.w X.K X.mg X.base Z k x ps sp) (hr : Room j X.A) (hj : k ≤ j) (hx : ∀ σ, PassesAt Z X σ (E σ)) (ha : PA X (e :: es) t)
    (hg : Gl X x := by rfl) (hdb : (x == ("__debug__" : Str)) = false := by decide)
    (he : starEach (e :: es) X.env = (false, eval e X.env) :: starEach es X.env := by rfl)
    (hpl : (backTo pos (starEach es X.env)).any (·.1) = false := by rfl) :
    PE X (.Call (.Name x p) (e :: es) [] pos) (tCallS sp E t) := by
  obtain ⟨f, fd, F, h1, h2, h3⟩ := C
  exact pe_callS F (hr.mono hj) hg h1 h2 h3 hx ha hdb he hpl
end
theorem passL {X : Cx} (σ : L2.St) : PassesAt (L2.CX X.prog X.w) X σ E0 := fun _ _ _ _ _ _ ⟨_, _, _, _, _, _, _, _, _, _, _, _, h⟩ => h.elim
section
variable {P : Program} {w : World} {K : PySem.W.Frag} {mg : Str → Option Value} {base : Heap} {C fI : Addr}
def spAsked (K : PySem.W.Frag) : Sp := fun vs H Q _ => ∃ (fm : Int) (v : V) (n m : Int) (ms : Option (List V)), vs = [.int fm, v, .int n, .int m] ∧ ValT K H v ms ∧ isL ms = false ∧ sm 499 n ∧ sm 499 m ∧ ∀ t H', Same H H' → H t = none → H' t = some (.tup [.str "question", .int 0]) → Q (.ref t) H'
theorem sc31 : FnScope ["_law_form", "_law_lot_here", "_law_n", "_law_m", "e"] ["_law_form", "_law_lot_here", "_law_n", "_law_m"] (defScope (top 33)) := ⟨rfl, rfl, rfl, by decide +kernel, rfl, by decide +kernel, by decide +kernel⟩
theorem ok_asked {f : Addr} {fd : FuncData} (T : PySem.LowX.LowTxt K mg "InvalidQuestion" "InvalidQuestion.__init__" C fI) (CF : CalK P w K mg base (L2.CX P w) 4 "fits" ["lot", "count"] ["lot", "count"] false (spFits K C))
    (CR : Cal P w K mg base (L2.CX P w) 4 "residues" ["lot"] (spRes K C)) (CN : Cal P w K mg base (L2.CX P w) 5 "next_fitting" ["lot", "count"] (spNext K C)) (CB : Cal P w K mg base (L2.CX P w) 5 "fitting_between" ["lot", "low", "high"] (spBetw K C))
    (F : Fun K "_law_asked" "_law_asked" (top 33) f fd) : FnOk P w K mg base CX0 6 f fd ["_law_form", "_law_lot_here", "_law_n", "_law_m"] (spAsked K) := by
  refine F.ok sc31 (fun vs H Q E h => ?_) (fun cdv A outer s H vs Q E hr h => ⟨_,
    (pss_cons (ps_try_as (i := 4) (Wout := fun _ _ _ _ => False) rfl rfl sc31.nd rfl rfl ⟨rfl, by decide, Or.inl T.gC⟩ takes0
      (fun W pn xe tk _ => (pss_one (ps_if (pt_cmpR op_eq (pv 0) pe_int (nomark _)) (pss_one (ps_expr (pe_calSK CF hr (by decide) (fun σ => passAt tk σ) (by exact (pk_cons (pv 1) (pk_cons (pv 2) pk_nil))))))
      (pss_one (ps_if (pt_cmpR op_eq (pv 0) pe_int (nomark _)) (pss_one (ps_expr (pe_calS CR hr (by decide) (fun σ => passAt tk σ) (pa_cons (pv 1) pa_nil))))
      (pss_one (ps_if (pt_cmpR op_eq (pv 0) pe_int (nomark _)) (pss_one (ps_expr (pe_calS CN hr (by decide) (fun σ => passAt tk σ) (pa_cons (pv 1) (pa_cons (pv 2) pa_nil))))) (pss_one (ps_expr (pe_calS CB hr (by decide) (fun σ => passAt tk σ) (pa_cons (pv 1) (pa_cons (pv 2) (pa_cons (pv 3) pa_nil)))))))))))) )
      (fun a oe cls d pn hz hf => pss_one (ps_ret (pe_tup (pa_cons pe_str (pa_cons (pe_byLow T hz hf (pv 4)) pa_nil))))))
    (pss_one (ps_ret pe_non))), ?_⟩)
  · obtain ⟨fm, v, n, m, ms, rfl, _⟩ := h
    rfl
  obtain ⟨fm, v, n, m, ms, rfl, hv, hf, sn, sq, q⟩ := h
  refine ⟨_, rfl, rfl, _, rfl, ?_⟩
  by_cases z0 : fm = 0
  · exact iteP (by simp [z0]) ⟨_, rfl, _, rfl, v, n, ms, rfl, hv, .inl ⟨hf, fun d hd => ⟨true, T.te, fun _ a ha => ⟨_, rfl, rfl, rfl, d, _, rfl, upd_same, (by show 2 ≤ sizeLine; decide), fun t ht => q t _ ((Same.new hd).trans (Same.new ht)) ((Same.new hd).free ht) upd_same⟩, fun z => Bool.noConfusion z⟩⟩⟩
  refine iteN (by simp [z0]) ⟨_, rfl, rfl, _, rfl, ?_⟩
  by_cases z1 : fm = 1
  · exact iteP (by simp [z1]) ⟨_, rfl, v, ms, rfl, hv, .inl ⟨hf, fun d hd => ⟨true, T.te, fun _ a ha => ⟨_, rfl, rfl, rfl, d, _, rfl, upd_same, (by show 2 ≤ sizeLine; decide), fun t ht => q t _ ((Same.new hd).trans (Same.new ht)) ((Same.new hd).free ht) upd_same⟩, fun z => Bool.noConfusion z⟩⟩⟩
  refine iteN (by simp [z1]) ⟨_, rfl, rfl, _, rfl, ?_⟩
  by_cases z2 : fm = 2
  · exact iteP (by simp [z2]) ⟨_, rfl, _, rfl, v, n, ms, rfl, hv, .inl ⟨hf, fun d hd => ⟨true, T.te, fun _ a ha => ⟨_, rfl, rfl, rfl, d, _, rfl, upd_same, (by show 2 ≤ sizeLine; decide), fun t ht => q t _ ((Same.new hd).trans (Same.new ht)) ((Same.new hd).free ht) upd_same⟩, fun z => Bool.noConfusion z⟩⟩⟩
  exact iteN (by simp [z2]) ⟨_, rfl, _, rfl, _, rfl, v, n, m, ms, rfl, hv, sm_mono sn (by decide), sm_mono sq (by decide), .inl ⟨hf, fun d hd => ⟨true, T.te, fun _ a ha => ⟨_, rfl, rfl, rfl, d, _, rfl, upd_same, (by show 2 ≤ sizeLine; decide), fun t ht => q t _ ((Same.new hd).trans (Same.new ht)) ((Same.new hd).free ht) upd_same⟩, fun z => Bool.noConfusion z⟩⟩⟩
end
end KV

/-! the law's arithmetic -/
namespace KV
open PySem PySem.Spec PyProof.Rows L2 KM
theorem shownAll_ints : ∀ ns : List Int, PyData.shownAll (ns.map PyData.int) = ns.map fun n => Str.ofString (toString n)
  | [] => rfl
  | n :: r => by
    show (PyData.int n).shown :: PyData.shownAll (r.map PyData.int) = _
    rw [shownAll_ints r]
    rfl
theorem piled_le : ∀ ts : List Str, (∀ t ∈ ts, t.length ≤ 1921) → piled ts ≤ 1923 * ts.length
  | [], _ => Nat.le_refl _
  | t :: r, h => by
    have h1 := h t (by simp)
    have h2 := piled_le r fun x hx => h x (by simp [hx])
    rw [piled_cons, List.length_cons]
    omega
theorem shown_len {ns : List Int} (hb : ∀ n ∈ ns, n.natAbs.log2 < 1920) (hl : ns.length ≤ 1000) : (PyData.tuple (ns.map PyData.int)).shown.length ≤ sizeLine := by
  show (tupleText (PyData.shownAll (ns.map PyData.int))).length ≤ sizeLine
  rw [shownAll_ints]
  have hp := piled_le (ns.map fun n => Str.ofString (toString n)) fun t ht => by
    obtain ⟨n, hn, rfl⟩ := List.mem_map.mp ht
    exact int_text_len_1921 (hb n hn)
  rw [List.length_map] at hp
  have hj : (Str.join ", " (ns.map fun n => Str.ofString (toString n))).length ≤ 1923 * 1000 := by
    cases e : ns with
    | nil => show 0 ≤ _; omega
    | cons n r =>
      have := join_length_add (ns.map fun n => Str.ofString (toString n)) (by rw [e]; simp)
      rw [e] at this hp hl
      omega
  unfold tupleText
  rw [strLen_append, strLen_append]
  have e1 : (("(" : String) : Str).length = 1 := rfl
  have e2 : (((if ((ns.map fun n => Str.ofString (toString n)).length == 1) = true then ",)" else ")" : String)) : Str).length ≤ 2 := by
    split <;> decide
  have e3 : 1923 * 1000 + 3 ≤ sizeLine := by decide
  omega
theorem log_sm {k : Nat} {n : Int} (h : sm k n) (hk : k ≤ 1920) (h0 : 0 < k) : n.natAbs.log2 < 1920 := by
  by_cases z : n.natAbs = 0
  · rw [z]
    show Nat.log2 0 < 1920
    decide
  · exact Nat.lt_of_lt_of_le ((Nat.log2_lt z).mpr h) hk
theorem canon_bd {ns : List Int} (h : LotS ns) {n : Int} (hn : n ∈ canon ns) : 0 ≤ n ∧ n < prd ns := by
  have := (mem_canon (prd_pos h.ge)).mp hn
  exact ⟨this.1, this.2.1⟩
theorem canon_sm {ns : List Int} (h : LotS ns) {n : Int} (hn : n ∈ canon ns) : sm 401 n := by
  have := canon_bd h hn
  exact sm_le this.1 (by omega) h.prd
theorem canon_zero {ns : List Int} (h : LotS ns) : (canon ns)[0]? = some 0 := by
  have pp := prd_pos h.ge
  have z : (0 : Int) ∈ canon ns := (mem_canon pp).mpr ⟨Int.le_refl _, pp, fun q _ => by rw [Int.zero_emod]; decide⟩
  cases e : canon ns with
  | nil =>
    rw [e] at z
    simp at z
  | cons a r =>
    have so := canon_lt ns
    rw [e] at so z
    have a0 := canon_bd h (n := a) (by rw [e]; simp)
    rcases List.mem_cons.mp z with z | z
    · rw [← z]
      rfl
    · have := (List.pairwise_cons.mp so).1 0 z
      omega
theorem find_least {p : Int → Bool} {f : Int} : ∀ {l : List Int}, l.Pairwise (fun a b => a < b) → l.find? p = some f → ∀ x ∈ l, p x = true → f ≤ x
  | [], _, h => by simp at h
  | a :: r, so, h => by
    intro x hx px
    obtain ⟨s1, s2⟩ := List.pairwise_cons.mp so
    by_cases pa : p a = true
    · rw [List.find?_cons_of_pos pa] at h
      have e : a = f := Option.some.inj h
      rcases List.mem_cons.mp hx with z | z
      · omega
      · have := s1 x z
        omega
    · rw [List.find?_cons_of_neg pa] at h
      rcases List.mem_cons.mp hx with z | z
      · rw [z] at px
        exact absurd px pa
      · exact find_least s2 h x z px
/-- the law's least fitting integer -/
theorem min_next {ns : List Int} (h : LotS ns) {n m : Int} (hm : m ∈ (canon ns).filter (fun r => decide (n % prd ns ≤ r)) ++ [prd ns + 0]) (hle : ∀ x ∈ (canon ns).filter (fun r => decide (n % prd ns ≤ r)) ++ [prd ns + 0], m ≤ x) :
    n / prd ns * prd ns + m = nextF ns n := by
  have er : n / prd ns * prd ns = n - n % prd ns := by
    have := Int.emod_def n (prd ns)
    rw [Int.mul_comm] at this
    omega
  have em : m = ((canon ns).find? fun r => decide (n % prd ns ≤ r)).getD (prd ns) := by
    cases e : (canon ns).find? fun r => decide (n % prd ns ≤ r) with
    | some f =>
      have fm := List.mem_of_find?_eq_some e
      have fp := List.find?_some e
      have fb := canon_bd h fm
      have l1 : m ≤ f := hle f (List.mem_append_left _ (List.mem_filter.mpr ⟨fm, fp⟩))
      show m = f
      rcases List.mem_append.mp hm with z | z
      · obtain ⟨z1, z2⟩ := List.mem_filter.mp z
        have := find_least (canon_lt ns) e m z1 z2
        omega
      · have : m = prd ns + 0 := by simpa using z
        omega
    | none =>
      show m = prd ns
      have no := List.find?_eq_none.mp e
      rcases List.mem_append.mp hm with z | z
      · obtain ⟨z1, z2⟩ := List.mem_filter.mp z
        exact absurd z2 (no m z1)
      · have : m = prd ns + 0 := by simpa using z
        omega
  unfold nextF
  rw [er, em]
theorem filt_len_mono {l : List Int} {f g : Int → Bool} (h : ∀ x ∈ l, f x = true → g x = true) : (l.filter f).length ≤ (l.filter g).length := by
  induction l with
  | nil => exact Nat.le_refl _
  | cons a r ih =>
    have ih := ih fun x hx => h x (by simp [hx])
    have ha := h a (by simp)
    by_cases fa : f a = true
    · rw [List.filter_cons_of_pos fa, List.filter_cons_of_pos (ha fa), List.length_cons, List.length_cons]
      omega
    · rw [List.filter_cons_of_neg fa]
      by_cases ga : g a = true
      · rw [List.filter_cons_of_pos ga, List.length_cons]
        omega
      · rw [List.filter_cons_of_neg ga]
        exact ih
theorem below_mono {R : List Int} {Q a b : Int} (hQ : 0 < Q) (h : a ≤ b) : below R Q a ≤ below R Q b := by
  have q1 : a / Q ≤ b / Q := Int.ediv_le_ediv hQ h
  have la := List.length_filter_le (fun r => decide (r < a % Q)) R
  have ea := Int.emod_def a Q
  have eb := Int.emod_def b Q
  unfold below
  rcases Int.lt_or_eq_of_le q1 with z | z
  · have m1 : (a / Q + 1) * (R.length : Int) ≤ b / Q * (R.length : Int) := Int.mul_le_mul_of_nonneg_right (by omega) (by omega)
    rw [Int.add_mul] at m1
    omega
  · rw [z] at ea ⊢
    have m2 : (R.filter fun r => decide (r < a % Q)).length ≤ (R.filter fun r => decide (r < b % Q)).length := filt_len_mono fun x _ hx => by
      have := of_decide_eq_true hx
      exact decide_eq_true (by omega)
    omega
theorem below_sm {R : List Int} {Q a : Int} (hQ : 0 < Q) (h : sm 499 a) (hl : R.length ≤ 16) : sm 510 (below R Q a) := by
  have s1 : sm 499 (a / Q) := div_sm hQ h
  have la := List.length_filter_le (fun r => decide (r < a % Q)) R
  have s2 : sm 10 (R.length : Int) := by
    show (R.length : Int).natAbs < 2 ^ 10
    omega
  have s3 : sm 10 (((R.filter fun r => decide (r < a % Q)).length : Nat) : Int) := by
    show (((R.filter fun r => decide (r < a % Q)).length : Nat) : Int).natAbs < 2 ^ 10
    omega
  exact sm_add (sm_mul s1 s2) (sm_mono s3 (by decide))
theorem max_betw {ns : List Int} (h : LotS ns) {n m : Int} : (if below (canon ns) (prd ns) m - below (canon ns) (prd ns) n > 0 then below (canon ns) (prd ns) m - below (canon ns) (prd ns) n else 0) = betw ns n m := by
  have pp := prd_pos h.ge
  unfold betw
  by_cases z : n ≥ m
  · rw [if_pos z]
    have := below_mono (R := canon ns) pp z
    rw [if_neg (by omega)]
  · rw [if_neg z]
    have := below_mono (R := canon ns) pp (show n ≤ m by omega)
    by_cases y : below (canon ns) (prd ns) m - below (canon ns) (prd ns) n > 0
    · rw [if_pos y]
    · rw [if_neg y]
      omega
theorem betw_sm {ns : List Int} (h : LotS ns) {n m : Int} (hn : sm 499 n) (hm : sm 499 m) : sm 511 (betw ns n m) := by
  have pp := prd_pos h.ge
  unfold betw
  split
  · exact sm_of (Int.le_refl 0) (by decide)
  · exact sm_sub (below_sm pp hm (canon_len h)) (below_sm pp hn (canon_len h))
theorem next_sm {ns : List Int} (h : LotS ns) {n : Int} (hn : sm 499 n) : sm 502 (nextF ns n) := by
  have pp := prd_pos h.ge
  have m0 := Int.emod_nonneg n (show prd ns ≠ 0 by omega)
  have m1 := Int.emod_lt_of_pos n pp
  have s1 : sm 499 (n % prd ns) := sm_le m0 (by omega) (sm_mono h.prd (by decide))
  have s2 : sm 500 (n - n % prd ns) := sm_sub hn s1
  unfold nextF
  cases e : (canon ns).find? fun r => decide (n % prd ns ≤ r) with
  | some f => exact sm_mono (sm_add s2 (sm_mono (canon_sm h (List.mem_of_find?_eq_some e)) (by decide))) (by decide)
  | none => exact sm_mono (sm_add s2 (sm_mono h.prd (by decide))) (by decide)
/-- the numbers below the product that fit, as the law's comprehension over a range makes them -/
theorem canon_range (ns : List Int) : ((List.range (prd ns).toNat).map fun k => (0 : Int) + ((k : Nat) : Int)).filter (fit ns) = canon ns := by
  unfold canon
  congr 1
  refine List.map_congr_left fun k _ => ?_
  show (0 : Int) + ((k : Nat) : Int) = ((k : Nat) : Int)
  omega
theorem canon_fit {ns : List Int} (h : LotS ns) {n : Int} (hn : n ∈ canon ns) : fit ns n = true := fit_iff.mpr ((mem_canon (prd_pos h.ge)).mp hn).2.2
end KV

/-! the law's own def -/
namespace KV
open PySem PySem.Spec PyProof.Rows L2 KM
theorem pass0S {X : Cx} (σ : L2.St) : PassesAt CX0 X σ E0 := fun _ _ _ _ _ _ z => z.elim
/-- what stands through the law: the draws, the lot, its numbers -/
structure LS (d c p fl : Addr) (ns : List Int) (H : Hp) : Prop where
  dl : Dl H d c
  pt : H p = some (.tup (ns.map V.int))
  ls : H fl = some (.lst ((canon ns).map V.int))
  pd : p ≠ d ∧ p ≠ c
  fd : fl ≠ d ∧ fl ≠ c
theorem LS.same {d c p fl : Addr} {ns : List Int} {H H' : Hp} (h : LS d c p fl ns H) (s : Same H H') : LS d c p fl ns H' := ⟨h.dl.same s, s _ _ h.pt, s _ _ h.ls, h.pd, h.fd⟩
theorem LS.kp {d c p fl : Addr} {ns : List Int} {H H' : Hp} (h : LS d c p fl ns H) (D : Dl H' d c) (k : Kp d c H H') : LS d c p fl ns H' := ⟨D, k _ _ h.pd.1 h.pd.2 h.pt, k _ _ h.fd.1 h.fd.2 h.ls, h.pd, h.fd⟩
theorem tyx_kp {K : PySem.W.Frag} {d c : Addr} {H H' : Hp} (D : Dl H d c) (D' : Dl H' d c) (k : Kp d c H H') {x : V} {t : Value} (h : TyX K H x t) : TyX K H' x t := by
  obtain ⟨_, cs, b, h1, h2, _⟩ := D
  have ne : ∀ {a : Addr} {o : HO}, H a = some o → (∀ xs, o ≠ .lst xs) → H' a = some o := fun {a o} e z => k a o (fun y => z _ (by rw [y, h1] at e; exact (Option.some.inj e).symm)) (fun y => z _ (by rw [y, h2] at e; exact (Option.some.inj e).symm)) e
  cases h with
  | base b =>
    refine .base ?_
    cases b with
    | non => exact .non
    | bl y => exact .bl y
    | int i => exact .int i
    | str y => exact .str y
    | flt y => exact .flt y
    | @lst a xs e =>
      obtain ⟨_, cs', b', g1, g2, _⟩ := D'
      by_cases y : a = d
      · rw [y]
        exact .lst g1
      · by_cases y2 : a = c
        · rw [y2]
          exact .lst g2
        · exact .lst (k _ _ y y2 e)
    | frz e => exact .frz (ne e fun _ z => by cases z)
    | tup e => exact .tup (ne e fun _ z => by cases z)
    | dK e => exact .dK (ne e fun _ z => by cases z)
    | dT e => exact .dT (ne e fun _ z => by cases z)
    | ins e a b c d f => exact .ins (ne e fun _ z => by cases z) a b c d f
  | byt b => exact .byt b
  | set e => exact .set (ne e fun _ z => by cases z)
  | kList e c => exact .kList e c
  | kTuple e c => exact .kTuple e c
  | kDict e c => exact .kDict e c
  | fTuple e => exact .fTuple (ne e fun _ z => by cases z)
  | fDict e => exact .fDict (ne e fun _ z => by cases z)
theorem seqT_kp {K : PySem.W.Frag} {d c : Addr} {H H' : Hp} (D : Dl H d c) (k : Kp d c H H') {a : Addr} {xs : List V} (h : SqT K H a xs) : SqT K H' a xs := by
  obtain ⟨_, cs, b, h1, h2, _⟩ := D
  have ne : ∀ {a : Addr} {o : HO}, H a = some o → (∀ xs, o ≠ .lst xs) → H' a = some o := fun {a o} e z => k a o (fun y => z _ (by rw [y, h1] at e; exact (Option.some.inj e).symm)) (fun y => z _ (by rw [y, h2] at e; exact (Option.some.inj e).symm)) e
  rcases h with (h | ⟨o, h⟩) | h
  · exact .inl (.inl (ne h fun _ z => by cases z))
  · exact .inl (.inr ⟨o, ne h fun _ z => by cases z⟩)
  · exact .inr h
theorem ValT.kp {K : PySem.W.Frag} {d c : Addr} {H H' : Hp} (D : Dl H d c) (D' : Dl H' d c) (k : Kp d c H H') {v : V} {ms : Option (List V)} (h : ValT K H v ms) : ValT K H' v ms := by
  cases ms with
  | none =>
    obtain ⟨T, h1, h2⟩ := h
    exact ⟨T, tyx_kp D D' k h1, h2⟩
  | some xs =>
    obtain ⟨a, h1, h2, h3, h4, h5⟩ := h
    refine ⟨a, h1, seqT_kp D k h2, tyx_kp D D' k h3, fun x hx => ?_, h5⟩
    rcases h4 x hx with z | ⟨z1, T, z2, z3⟩
    · exact .inl z
    · exact .inr ⟨z1, T, tyx_kp D D' k z2, z3⟩
section
variable {P : Program} {w : World} {K : PySem.W.Frag} {mg : Str → Option Value} {base : Heap} {C : Addr}
def spLaw (K : PySem.W.Frag) : Sp := fun vs H Q _ => ∃ (a : Addr) (ns : List Int), vs = [.ref a] ∧ SqL K H a (ns.map V.int) ∧ ∀ H', Q (.bl true) H'
theorem sc32 : FnScope ["_law_script", "_law_deal", "_law_lot_here", "_law_whole", "_law_found", "_law_q", "_law_n", "_law_turn", "_law_m", "_law_rounds", "_law_rest", "_law_due", "_law_value", "_law_one"] ["_law_script"] (defScope (top 34)) := ⟨rfl, rfl, rfl, by decide +kernel, rfl, by decide +kernel, by decide +kernel⟩
set_option maxHeartbeats 16000000 in
theorem ok_law {f : Addr} {fd : FuncData} (B : Bl mg) (CDr : Cal P w K mg base CX0 1 "_law_draw" ["_law_script", "_law_salt"] (spDraw K)) (CLo : Cal P w K mg base CX0 3 "_law_lot" ["_law_deal"] spLot)
    (CRe : Cal P w K mg base CX0 1 "_law_rests" ["_law_lot_here"] (spRests K)) (CLF : Cal P w K mg base CX0 1 "_law_fits" ["_law_lot_here", "_law_n"] (spLFits K))
    (CRK : CalK P w K mg base (L2.CX P w) 4 "residues" ["lot"] ["lot"] false (spRes K C)) (CR : Cal P w K mg base (L2.CX P w) 4 "residues" ["lot"] (spRes K C))
    (CCo : Cal P w K mg base CX0 3 "_law_count" ["_law_deal", "_law_whole"] spCount) (CF : Cal P w K mg base (L2.CX P w) 4 "fits" ["lot", "count"] (spFits K C))
    (CNK : CalK P w K mg base (L2.CX P w) 5 "next_fitting" ["lot", "count"] ["count", "lot"] true (spNext K C)) (CBK : CalK P w K mg base (L2.CX P w) 5 "fitting_between" ["lot", "low", "high"] ["high", "low", "lot"] true (spBetw K C))
    (CLB : Cal P w K mg base CX0 1 "_law_below" ["_law_found", "_law_whole", "_law_n"] (spLBelow K)) (CNe : Cal P w K mg base CX0 3 "_law_near" ["_law_deal", "_law_lot_here"] (spNear K))
    (CIK : CalK P w K mg base CX0 2 "is_lot" ["value"] ["value"] false (spIsLot K)) (CIL : Cal P w K mg base CX0 2 "is_lot" ["value"] (spIsLot K)) (CLI : Cal P w K mg base CX0 2 "_law_is_lot" ["_law_value"] (spLIsLot K))
    (CA : Cal P w K mg base CX0 1 "_law_any" ["_law_deal", "_law_bound"] spAny) (CAs : Cal P w K mg base CX0 6 "_law_asked" ["_law_form", "_law_lot_here", "_law_n", "_law_m"] (spAsked K))
    (F : Fun K "law" "law" (top 34) f fd) : FnOkG P w K mg base 7 f fd ["_law_script"] (spLaw K) := by
  obtain ⟨oc, od, kV, doc, pm, an, cdv, ct, osl, rfl, lk, hcd⟩ := F.ex
  refine fn_ofG lk hcd sc32 (fun vs H Q E h => ?_) (fun A outer s H vs Q E hr gd h => ⟨_,
    (pss_cons (ps_set (i := 1) sc32.nd rfl (.inl rfl) (by exact (pe_cal CDr hr (by decide) (pa_cons (pv 0) (pa_cons pe_int pa_nil)))))
    (pss_cons (ps_set (i := 2) sc32.nd rfl (.inr rfl) (by exact (pe_cal CLo hr (by decide) (pa_cons (pv 1) pa_nil))))
    (pss_cons (ps_par (i := 3) (j := 4) rfl sc32.nd rfl rfl (by decide) rfl rfl (pa_cons pe_int (pa_cons (by exact (pe_cal CRe hr (by decide) (pa_cons (pv 2) pa_nil))) pa_nil)) (by rfl))
    (pss_cons (ps_for (passes_of rfl) rfl (pi_tup (pv 2)) (pg_name (i := 5) sc32.nd rfl (.inl rfl)) (pss_one (ps_set (i := 3) sc32.nd rfl (.inl rfl) (pe_op op_mulW (pv 3) (pv 5)))))
    (pss_cons (ps_if (PW.pt (pw_or (pt_cmpR op_ne (pe_callB (call_repr gd hr.units) (by rfl) B.repr (by decide +kernel) (pa_cons (by exact (pe_calSK CRK hr (by decide) (fun σ => passL σ) (pk_cons (pv 2) pk_nil))) pa_nil)) (pe_callB (call_repr gd hr.units) (by rfl) B.repr (by decide +kernel) (pa_cons (pe_callTy call_tuple_of (by rfl) B.tuple (by decide +kernel) (pa_cons (pv 4) pa_nil)) pa_nil)) (nomark _)) (pw_or1 (pt_cmpR (op_neD hr.units) (pe_lc (own := [("_law_one", 13)]) (g := gName 13) rfl sc32.nd (pi_list (pv 4)) (blkOk_by (N := ["_law_script", "_law_deal", "_law_lot_here", "_law_whole", "_law_found", "_law_q", "_law_n", "_law_turn", "_law_m", "_law_rounds", "_law_rest", "_law_due", "_law_value", "_law_one"]) (sc := defScope (top 34)) (by decide +kernel))
        (fun _ _ _ _ _ => pg_name (i := 13) sc32.nd rfl (Or.inl rfl)) (fun _ _ _ _ _ => (pts_one (pt_not (pt_val (pe_cal CLF hr (by decide) (pa_cons (pv 2) (pa_cons (pv 13) pa_nil))))))) (fun _ _ _ _ _ => (pv 13))) (pe_lst pa_nil) (nomark _))))) (pss_one (ps_ret pe_bl)) pss_nil)
    (pss_cons (ps_if (PW.pt (pw_and (pt_cmpR op_lt (pv 3) pe_int (nomark _)) (pw_and1 (pt_cmpR (op_neD hr.units) (pv 4) (pe_lc (own := [("_law_n", 6)]) (g := gName 6) rfl sc32.nd (pi_range1 (by rfl) B.range (pa_cons (pv 3) pa_nil)) (blkOk_by (N := ["_law_script", "_law_deal", "_law_lot_here", "_law_whole", "_law_found", "_law_q", "_law_n", "_law_turn", "_law_m", "_law_rounds", "_law_rest", "_law_due", "_law_value", "_law_one"]) (sc := defScope (top 34)) (by decide +kernel))
        (fun _ _ _ _ _ => pg_name (i := 6) sc32.nd rfl (Or.inl rfl)) (fun _ _ _ _ _ => (pts_one (pt_val (pe_cal CLF hr (by decide) (pa_cons (pv 2) (pa_cons (pv 6) pa_nil)))))) (fun _ _ _ _ _ => (pv 6))) (nomark _))))) (pss_one (ps_ret pe_bl)) pss_nil)
    (pss_cons (ps_for (passes_of rfl) rfl (pi_range1 (by rfl) B.range (pa_cons pe_int pa_nil)) (pg_name (i := 7) sc32.nd rfl (.inl rfl)) (pss_cons (ps_par (i := 6) (j := 8) rfl sc32.nd rfl rfl (by decide) rfl rfl (pa_cons (by exact (pe_cal CCo hr (by decide) (pa_cons (pv 1) (pa_cons (pv 3) pa_nil)))) (pa_cons (by exact (pe_cal CCo hr (by decide) (pa_cons (pv 1) (pa_cons (pv 3) pa_nil)))) pa_nil)) (by rfl))
    (pss_cons (ps_if (pt_cmpR op_ne (pe_callB (call_repr gd hr.units) (by rfl) B.repr (by decide +kernel) (pa_cons (by exact (pe_calS CF hr (by decide) (fun σ => passL σ) (pa_cons (pv 2) (pa_cons (pv 6) pa_nil)))) pa_nil)) (pe_callB (call_repr gd hr.units) (by rfl) B.repr (by decide +kernel) (pa_cons (by exact (pe_cal CLF hr (by decide) (pa_cons (pv 2) (pa_cons (pv 6) pa_nil)))) pa_nil)) (nomark _)) (pss_one (ps_ret pe_bl)) pss_nil)
    (pss_cons (ps_set (i := 9) sc32.nd rfl (.inl rfl) (pe_op op_fdivW (pv 6) (pv 3)))
    (pss_cons (ps_set (i := 10) sc32.nd rfl (.inr rfl) (pe_op op_sub (pv 6) (pe_op op_mulW (pv 9) (pv 3))))
    (pss_cons (ps_set (i := 11) sc32.nd rfl (.inl rfl) (pe_op op_add (pe_op op_mulW (pv 9) (pv 3)) (pe_callB (cr_min rfl) (by rfl) B.min (by decide +kernel) (pa_cons (pe_op op_cat (pe_lc (own := [("_law_one", 13)]) (g := gName 13) rfl sc32.nd (pi_list (pv 4)) (blkOk_by (N := ["_law_script", "_law_deal", "_law_lot_here", "_law_whole", "_law_found", "_law_q", "_law_n", "_law_turn", "_law_m", "_law_rounds", "_law_rest", "_law_due", "_law_value", "_law_one"]) (sc := defScope (top 34)) (by decide +kernel))
        (fun _ _ _ _ _ => pg_name (i := 13) sc32.nd rfl (Or.inl rfl)) (fun _ _ _ _ _ => (pts_one (pt_cmpR op_ge (pv 13) (pv 10) (nomark _)))) (fun _ _ _ _ _ => (pv 13))) (pe_lst (pa_cons (pe_op op_add (pv 3) (pe_ix ix_list (pv 4) pe_int (fun _ _ => rfl))) pa_nil))) pa_nil))))
    (pss_cons (ps_if (pt_cmpR op_ne (pe_callB (call_repr gd hr.units) (by rfl) B.repr (by decide +kernel) (pa_cons (by exact (pe_calSK CNK hr (by decide) (fun σ => passL σ) (pk_cons (pv 6) (pk_cons (pv 2) pk_nil)))) pa_nil)) (pe_callB (call_repr gd hr.units) (by rfl) B.repr (by decide +kernel) (pa_cons (pv 11) pa_nil)) (nomark _)) (pss_one (ps_ret pe_bl)) pss_nil)
    (pss_cons (ps_set (i := 11) sc32.nd rfl (.inl rfl) (pe_callB (call_max2 rfl) (by rfl) B.max (by decide +kernel) (pa_cons pe_int (pa_cons (pe_op op_sub (by exact (pe_cal CLB hr (by decide) (pa_cons (pv 4) (pa_cons (pv 3) (pa_cons (pv 8) pa_nil))))) (by exact (pe_cal CLB hr (by decide) (pa_cons (pv 4) (pa_cons (pv 3) (pa_cons (pv 6) pa_nil)))))) pa_nil))))
    (pss_cons (ps_if (pt_cmpR op_ne (pe_callB (call_repr gd hr.units) (by rfl) B.repr (by decide +kernel) (pa_cons (by exact (pe_calSK CBK hr (by decide) (fun σ => passL σ) (pk_cons (pv 8) (pk_cons (pv 6) (pk_cons (pv 2) pk_nil))))) pa_nil)) (pe_callB (call_repr gd hr.units) (by rfl) B.repr (by decide +kernel) (pa_cons (pv 11) pa_nil)) (nomark _)) (pss_one (ps_ret pe_bl)) pss_nil)
    (pss_cons (ps_set (i := 12) sc32.nd rfl (.inl rfl) (by exact (pe_cal CNe hr (by decide) (pa_cons (pv 1) (pa_cons (pv 2) pa_nil)))))
    (pss_cons (ps_if (pt_cmpR op_ne (pe_callB (call_repr gd hr.units) (by rfl) B.repr (by decide +kernel) (pa_cons (by exact (pe_calSK CIK hr (by decide) (fun σ => pass0S σ) (pk_cons (pv 12) pk_nil))) pa_nil)) (pe_callB (call_repr gd hr.units) (by rfl) B.repr (by decide +kernel) (pa_cons (by exact (pe_cal CLI hr (by decide) (pa_cons (pv 12) pa_nil))) pa_nil)) (nomark _)) (pss_one (ps_ret pe_bl)) pss_nil)
    (pss_one (ps_if (PW.pt (pw_and (pt_not (pt_val (by exact (pe_cal CLI hr (by decide) (pa_cons (pv 12) pa_nil))))) (pw_and1 (pt_cmpR (op_neD hr.units) (by exact (pe_cal CAs hr (by decide) (pa_cons (by exact (pe_cal CA hr (by decide) (pa_cons (pv 1) (pa_cons pe_int pa_nil)))) (pa_cons (pv 12) (pa_cons (pv 6) (pa_cons (pv 8) pa_nil)))))) (pe_tup (pa_cons pe_str (pa_cons pe_int pa_nil))) (nomark _))))) (pss_one (ps_ret pe_bl)) pss_nil)))))))))))))
    (pss_one (ps_ret (pe_and (pe_cmpR op_isBl (by exact (pe_cal CIL hr (by decide) (pa_cons (pv 2) pa_nil))) pe_bl (nomark _)) (pe_one (pe_cmpR op_eq (pe_callB (call_repr gd hr.units) (by rfl) B.repr (by decide +kernel) (pa_cons (by exact (pe_calS CR hr (by decide) (fun σ => passL σ) (pa_cons (pv 2) pa_nil))) pa_nil)) (pe_callB (call_repr gd hr.units) (by rfl) B.repr (by decide +kernel) (pa_cons (pe_callTy call_tuple_of (by rfl) B.tuple (by decide +kernel) (pa_cons (pv 4) pa_nil)) pa_nil)) (nomark _))))))))))))), ?_⟩)
  · obtain ⟨a, ns, rfl, _⟩ := h
    rfl
  obtain ⟨a, ns0, rfl, hS, q⟩ := h
  refine ⟨_, rfl, a, ns0, 7, rfl, hS, by decide, by decide, fun H1 d c s1 hd hc hD1 => ⟨_, rfl, d, c, rfl, hD1, fun p ns H2 hL hp1 hp2 hD2 k2 => ⟨_, rfl, p, ns, rfl, SqT.of hp2, hL, fun fl H3 s3 hf hfl => ⟨_, _, rfl, ?_⟩⟩⟩⟩
  have L3 : LS d c p fl ns H3 := ⟨hD2.same s3, s3 _ _ hp2, hfl, hD2.neT hp2, hD2.ne hf⟩
  have pp := prd_pos hL.ge
  have few := hL.few
  have cl := canon_len hL
  have logs : ∀ n ∈ canon ns, n.natAbs.log2 < 1920 := fun n hn => log_sm (canon_sm hL hn) (by decide) (by decide)
  have shl : (PyData.tuple ((canon ns).map PyData.int)).shown.length ≤ sizeLine := shown_len logs (by omega)
  have dsz : ∀ k : Nat, k ≤ 1000 → k < sizeLine := fun k hk => len_lt hk
  dsimp only [gName]
  refine ⟨_, rfl, p, rfl, ⟨_, SqT.of L3.pt⟩, for_tup (xs := ns.map V.int) (fun i σ H' => (∃ u : Option V, σ = [some (.ref a), some (.ref d), some (.ref p), some (.int (prd (ns.take i))), some (.ref fl), u, none, none, none, none, none, none, none, none]) ∧ H' = H3) ⟨⟨none, rfl⟩, rfl⟩ ?_ ?_ ?_⟩
  · rintro i σ H' _ ⟨_, rfl⟩
    exact SqT.of L3.pt
  · rintro i x σ H' hx ⟨⟨u, rfl⟩, rfl⟩
    obtain ⟨m, hm, rfl⟩ := map_at hx
    refine ⟨_, rfl, _, rfl, _, _, rfl, rfl, mulW (hL.prdT i) (hL.m (List.mem_of_getElem? hm)) (by decide) (by decide) (by decide), ⟨some (.int m), ?_⟩, rfl⟩
    rw [prd_at hm]
    rfl
  rintro σ H' ⟨⟨u5, rfl⟩, rfl⟩
  rw [List.length_map, List.take_length]
  -- the rests, by the program and by the law
  refine ⟨_, rfl, .ref p, _, rfl, lotV L3.pt hL, .inr ⟨ns, rfl, hL, cl, fun H4 t s4 ht htt => .inr (.inr ⟨t, canon ns, rfl, SqT.of htt, logs, shl, ?_⟩)⟩⟩
  have L4 := L3.same s4
  refine ⟨_, rfl, fl, _, rfl, .inl ⟨SqL.of L4.ls, fun t2 ht2 => .inr (.inr ⟨t2, canon ns, rfl, SqT.of upd_same, logs, shl, rfl, _, rfl, iteN (by simp) ?_⟩)⟩⟩
  have L5 := L4.same (Same.new (o := .tup ((canon ns).map V.int)) ht2)
  generalize upd H4 t2 (.tup ((canon ns).map V.int)) = H5 at L5
  refine ⟨_, rfl, fl, rfl, ⟨_, SqL.of L5.ls⟩, fun D hD => lc_list (xs := (canon ns).map V.int) (fun i H' => Same H5 H' ∧ H' D = some (.lst [])) ⟨Same.new hD, upd_same⟩ (fun i H' _ z => z.1.seq (SqL.of L5.ls)) ?_ ?_⟩
  · rintro i x H' hx ⟨p1, p2⟩
    obtain ⟨m, hm, rfl⟩ := map_at hx
    have hf1 := canon_fit hL (List.mem_of_getElem? hm)
    refine ⟨rfl, _, rfl, _, rfl, p, ns, m, rfl, SqT.of (p1 _ _ L5.pt), hL.ge, by omega, fun H6 s6 => ⟨_, rfl, iteN (by simp [hf1]) ⟨p1.trans s6, s6 _ _ p2⟩⟩⟩
  rintro H6 ⟨p1, p2⟩
  refine ⟨(by show 0 ≤ sizeLine; decide), fun E1 hE1 => neL (ns := []) (ms := []) (SqL.of (by rw [upd_ne (ne_of_none p2 hE1)]; exact p2)) (SqL.of upd_same) ⟨_, rfl, iteN (by simp) ?_⟩⟩
  have L7 := (L5.same p1).same (Same.new (o := .lst []) hE1)
  generalize upd H6 E1 (.lst []) = H7 at L7
  dsimp only [tNext]
  refine sq_cut (fun σ H' => σ = [some (.ref a), some (.ref d), some (.ref p), some (.int (prd ns)), some (.ref fl), u5, none, none, none, none, none, none, none, none] ∧ LS d c p fl ns H') (fun Z hZ => ?_) ?_
  · refine ⟨_, rfl, _, _, rfl, rfl, _, rfl, ?_⟩
    by_cases w4 : prd ns < 400
    · refine iteP (by simp [w4]) ⟨_, rfl, _, rfl, prd ns, rfl, by omega, by omega, fun D hD => lc_range (lo := 0) (n := (prd ns).toNat) (fun i H' => Same H7 H' ∧ H' D = some (.lst ((((List.range i).map fun k => (0 : Int) + ((k : Nat) : Int)).filter (fit ns)).map V.int))) ⟨Same.new hD, upd_same⟩ ?_ ?_⟩
      · rintro i H' hi ⟨p1, p2⟩
        refine ⟨rfl, _, rfl, _, rfl, p, ns, 0 + ((i : Nat) : Int), rfl, SqT.of (p1 _ _ L7.pt), hL.ge, by omega, fun H8 s8 => ⟨_, rfl, ?_⟩⟩
        have st : (((List.range (i + 1)).map fun k => (0 : Int) + ((k : Nat) : Int)).filter (fit ns)) = (((List.range i).map fun k => (0 : Int) + ((k : Nat) : Int)).filter (fit ns)) ++ if fit ns (0 + ((i : Nat) : Int)) = true then [0 + ((i : Nat) : Int)] else [] := by
          rw [List.range_succ, List.map_append, List.filter_append]
          congr 1
          by_cases z : fit ns (0 + ((i : Nat) : Int)) = true
          · rw [if_pos z]
            exact List.filter_cons_of_pos z
          · rw [if_neg z]
            exact List.filter_cons_of_neg z
        rw [st]
        cases e : fit ns (0 + ((i : Nat) : Int)) with
        | true =>
          refine iteT ⟨_, rfl, _, s8 _ _ p2, dsz _ ?_, Same.upd (p1.trans s8) hD, ?_⟩
          · rw [List.length_map]
            have := List.length_filter_le (fit ns) ((List.range i).map fun k => (0 : Int) + ((k : Nat) : Int))
            rw [List.length_map, List.length_range] at this
            omega
          · rw [upd_same, if_pos rfl, List.map_append]
            rfl
        | false =>
          refine iteF ⟨p1.trans s8, ?_⟩
          rw [if_neg (by decide), List.append_nil]
          exact s8 _ _ p2
      · rintro H8 ⟨p1, p2⟩
        rw [canon_range] at p2
        exact neL (ns := canon ns) (ms := canon ns) (SqL.of (p1 _ _ L7.ls)) (SqL.of p2) ⟨_, rfl, iteN (by simp) (hZ _ _ ⟨rfl, L7.same p1⟩)⟩
    · exact iteN (by simp [w4]) (iteN (by decide) (hZ _ _ ⟨rfl, L7⟩))
  rintro σ H' ⟨rfl, L8⟩
  refine ⟨6, rfl, by decide, by decide, for_range (n := 6) (fun i σ H' => (∃ v6 v7 v8 v9 v10 v11 v12 : Option V, σ = [some (.ref a), some (.ref d), some (.ref p), some (.int (prd ns)), some (.ref fl), u5, v6, v7, v8, v9, v10, v11, v12, none]) ∧ LS d c p fl ns H') ⟨⟨none, none, none, none, none, none, none, rfl⟩, L8⟩ ?_ ?_⟩
  · rintro i σ H' hi ⟨⟨v6, v7, v8, v9, v10, v11, v12, rfl⟩, L⟩
    have w401 := hL.prd
    refine ⟨_, rfl, _, rfl, d, c, prd ns, rfl, L.dl, w401, fun n H1 sn hD1 k1 => ⟨_, rfl, _, rfl, d, c, prd ns, rfl, hD1, w401, fun m H2 sq hD2 k2 => ⟨_, _, rfl, ?_⟩⟩⟩
    have M2 := (L.kp hD1 k1).kp hD2 k2
    dsimp only [gName]
    -- fits
    refine ⟨_, rfl, _, rfl, .ref p, n, _, rfl, lotV M2.pt hL, .inr ⟨ns, rfl, hL, fun H3 s3 => .inl ⟨_, rfl, _, rfl, _, rfl, p, ns, n, rfl, SqT.of (s3 _ _ M2.pt), hL.ge, by omega, fun H4 s4 => .inl ⟨_, rfl, rfl, _, rfl, iteN (by simp) ?_⟩⟩⟩⟩
    have M4 := (M2.same s3).same s4
    dsimp only [tNext]
    -- rounds, rest
    refine ⟨_, rfl, _, rfl, _, _, rfl, rfl, divW pp w401 (by decide) (by decide), _, rfl, _, rfl, _, rfl, _, _, rfl, rfl, mulW (div_sm pp sn) w401 (by decide) (by decide) (by decide), _, _, rfl, rfl, ?_⟩
    dsimp only [gName]
    have er : n - n / prd ns * prd ns = n % prd ns := by
      rw [Int.emod_def, Int.mul_comm]
    rw [er]
    -- the least fitting integer
    refine ⟨_, rfl, _, rfl, _, _, rfl, rfl, mulW (div_sm pp sn) w401 (by decide) (by decide) (by decide), _, rfl, fl, rfl, ⟨_, SqL.of M4.ls⟩, fun D hD => lc_list (xs := (canon ns).map V.int) (fun i H' => Same H4 H' ∧ H' D = some (.lst ((((canon ns).take i).filter fun r => decide (n % prd ns ≤ r)).map V.int))) ⟨Same.new hD, upd_same⟩ (fun i H' _ z => z.1.seq (SqL.of M4.ls)) ?_ ?_⟩
    · rintro i x H' hx ⟨p1, p2⟩
      obtain ⟨r, hr', rfl⟩ := map_at hx
      refine ⟨rfl, _, rfl, _, rfl, _, _, rfl, rfl, _, rfl, ?_⟩
      cases e : decide (n % prd ns ≤ r) with
      | true =>
        refine iteT ⟨_, rfl, _, p2, dsz _ ?_, Same.upd p1 hD, ?_⟩
        · rw [List.length_map]
          have := List.length_filter_le (fun r => decide (n % prd ns ≤ r)) ((canon ns).take i)
          have := List.length_take_le i (canon ns)
          have := (List.getElem?_eq_some_iff.mp hr').1
          omega
        · rw [upd_same, filt_at hr', if_pos e, List.map_append]
          rfl
      | false =>
        refine iteF ⟨p1, ?_⟩
        rw [filt_at hr', if_neg (by rw [e]; decide), List.append_nil]
        exact p2
    rintro H5 ⟨p1, p2⟩
    rw [List.length_map, List.take_length] at p2
    have M5 := M4.same p1
    refine ⟨_, rfl, _, rfl, fl, _, _, _, rfl, rfl, SqL.of M5.ls, at_of (j := 0) rfl (by rw [List.getElem?_map, canon_zero hL]; rfl), _, _, rfl, rfl, (by show 1 ≤ sizeLine; decide), fun b hb => ?_⟩
    have D5 : upd H5 b (.lst [.int (prd ns + 0)]) D = some (.lst ((((canon ns)).filter fun r => decide (n % prd ns ≤ r)).map V.int)) := by
      rw [upd_ne (ne_of_none p2 hb)]
      exact p2
    have lf := List.length_filter_le (fun r => decide (n % prd ns ≤ r)) (canon ns)
    refine ⟨D, b, _, _, rfl, rfl, D5, upd_same, ?_, fun e he => ⟨e, ((canon ns).filter fun r => decide (n % prd ns ≤ r)) ++ [prd ns + 0], rfl, SqL.of (by rw [upd_same, List.map_append]; rfl), (by simp), fun mm hm hle => ⟨_, _, rfl, rfl, ?_⟩⟩⟩
    · rw [List.length_map]
      exact Nat.le_of_lt (dsz _ (by show _ + 1 ≤ 1000; omega))
    have M6 := (M5.same (Same.new (o := .lst [.int (prd ns + 0)]) hb)).same (Same.new (o := .lst ((((canon ns)).filter fun r => decide (n % prd ns ≤ r)).map V.int ++ [.int (prd ns + 0)])) he)
    have due := min_next hL hm hle
    dsimp only [gName]
    rw [due]
    generalize upd (upd H5 b _) e _ = H6 at M6
    have lg1 := log_sm (next_sm hL sn) (by decide) (by decide)
    refine ⟨_, rfl, _, rfl, .ref p, n, _, rfl, lotV M6.pt hL, .inr ⟨ns, rfl, hL, fun H7 s7 => .inr (.inl ⟨_, rfl, lg1, _, rfl, .inr (.inl ⟨_, rfl, lg1, rfl, _, rfl, iteN (by simp) ?_⟩)⟩)⟩⟩
    have M7 := M6.same s7
    dsimp only [tNext]
    -- how many fit between two
    refine ⟨_, rfl, _, rfl, _, rfl, fl, canon ns, prd ns, m, rfl, SqL.of M7.ls, cl, pp, w401, sq, fun H8 s8 => ⟨_, rfl, _, rfl, _, rfl, fl, canon ns, prd ns, n, rfl, SqL.of (s8 _ _ M7.ls), cl, pp, w401, sn, fun H9 s9 => ⟨_, _, rfl, rfl, _, _, rfl, ?_⟩⟩⟩
    have M9 := (M7.same s8).same s9
    dsimp only [gName]
    rw [max_betw hL]
    have lg2 := log_sm (betw_sm hL sn sq) (by decide) (by decide)
    refine ⟨_, rfl, _, rfl, _, rfl, .ref p, n, m, _, rfl, lotV M9.pt hL, sm_mono sn (by decide), sm_mono sq (by decide), .inr ⟨ns, rfl, hL, fun H10 s10 => .inr (.inl ⟨_, rfl, lg2, _, rfl, .inr (.inl ⟨_, rfl, lg2, rfl, _, rfl, iteN (by simp) ?_⟩)⟩)⟩⟩
    have M10 := M9.same s10
    dsimp only [tNext]
    -- a value near the lot
    refine ⟨_, rfl, _, rfl, d, c, p, ns, rfl, M10.dl, M10.pt, hL, fun v ms H11 hv hD11 k11 => ?_⟩
    have M11 := M10.kp hD11 k11
    dsimp only [gName]
    refine ⟨_, rfl, v, ms, rfl, hv, .inl ⟨_, rfl, _, rfl, v, ms, rfl, hv, fun H12 s12 => .inl ⟨_, rfl, rfl, _, rfl, iteN (by simp) ?_⟩⟩⟩
    have M12 := M11.same s12
    dsimp only [tNext]
    refine ⟨_, rfl, v, ms, rfl, hv.same s12, fun H13 s13 => ⟨_, rfl, ?_⟩⟩
    have M13 := M12.same s13
    cases e : isL ms with
    | true => exact iteF (iteF ⟨⟨_, _, _, _, _, _, _, rfl⟩, M13⟩)
    | false =>
      refine iteT ⟨_, rfl, d, c, 4, rfl, M13.dl, by decide, by decide, fun fm H14 f0 f1 hD14 k14 => ⟨_, rfl, _, rfl, _, rfl, fm, v, n, m, ms, rfl, ((hv.same s12).same s13).kp M13.dl hD14 k14, e, sn, sq, fun t H15 s15 ht htt => ⟨(by show 2 ≤ sizeLine; decide), fun t2 ht2 => ?_⟩⟩⟩
      have M15 := (M13.kp hD14 k14).same s15
      refine ⟨.tuple [.str "question", .int 0], .tuple [.str "question", .int 0], .tup (SqT.of (Same.new ht2 _ _ htt)) (.cons (.str _) (.cons (.int _) .nil)), .tup (SqT.of upd_same) (.cons (.str _) (.cons (.int _) .nil)), by decide +kernel, by decide +kernel, _, rfl, iteN (by decide +kernel) ⟨⟨_, _, _, _, _, _, _, rfl⟩, M15.same (Same.new ht2)⟩⟩
  · rintro σ H' ⟨⟨v6, v7, v8, v9, v10, v11, v12, rfl⟩, L⟩
    have il : isL (some (ns.map V.int)) = true := isL_lot hL.toLot
    refine ⟨_, rfl, .ref p, _, rfl, lotV L.pt hL, _, _, rfl, rfl, _, rfl, iteP (decide_eq_true il) ⟨_, rfl, .ref p, _, rfl, lotV L.pt hL, .inr ⟨ns, rfl, hL, cl, fun H4 t s4 ht htt => .inr (.inr ⟨t, canon ns, rfl, SqT.of htt, logs, shl, ?_⟩)⟩⟩⟩
    have L4 := L.same s4
    refine ⟨_, rfl, fl, _, rfl, .inl ⟨SqL.of L4.ls, fun t2 ht2 => .inr (.inr ⟨t2, canon ns, rfl, SqT.of upd_same, logs, shl, rfl, ?_⟩)⟩⟩
    have e : ∀ x : V, decide (x = x) = true := fun x => by simp
    rw [e]
    exact q _
end
end KV

/-! the head: what the top leaves, looked at once -/
namespace KV
open PySem PySem.Spec PyProof.Rows L2 He
/-- a global that is a built-in -/
def bltB (K : PySem.W.Frag) (x : Str) (id : String) : Bool := match PySem.W.nsIn K mainGlobals x with
  | some (some (.builtin i)) => decide (i = id)
  | _ => false
theorem bltB_ok {K : PySem.W.Frag} {h : Heap} {mg : Str → Option Value} (X : K.In h) (G : h.Ns mainGlobals mg) {x : Str} {id : String} (c : bltB K x id = true) : mg x = some (.builtin id) := by
  unfold bltB at c
  split at c
  · rename_i i e
    rw [← of_decide_eq_true c]
    exact PySem.W.mg_of X G e
  · cases c
/-- an error's class over ValueError -/
def errB (K : PySem.W.Frag) (C : Addr) : Bool := match K.lookup C with
  | some ⟨.type "type", _, .cls cd, sl⟩ => (match cd.mro, sl.toList with
    | .ref C' :: bm, [_, _, _, _, some (.builtin n), _] => C' == C && n == "ValueError.__new__" && !cd.hasDel && cd.hasDict && PySem.HandSPX.refsVE bm
    | _, _ => false)
  | _ => false
theorem errB_ok {K : PySem.W.Frag} {C : Addr} (c : errB K C = true) :
    ∃ nm q N bs bm sn sub ab col dd k0 k1 k2 k3 k5, K.lookup C = some (excClassObj nm q C N bs bm true sn sub ab col dd k0 k1 k2 k3 k5 "ValueError.__new__") ∧ PySem.HandSPX.refsVE bm = true := by
  unfold errB at c
  split at c
  · rename_i dd cd sl ho
    split at c
    · rename_i C' bm k0 k1 k2 k3 n k5 hm hs
      simp only [Bool.and_eq_true, beq_iff_eq, Bool.not_eq_true'] at c
      obtain ⟨⟨⟨⟨rfl, rfl⟩, hdel⟩, hdi⟩, hok⟩ := c
      obtain ⟨nm, bs, mro, ns, qn, hd, sn, sub, ab, col, del⟩ := cd
      dsimp only at hm hdel hdi
      subst hm hdel hdi
      have hsl : sl = #[k0, k1, k2, k3, some (.builtin "ValueError.__new__"), k5] := by
        obtain ⟨l⟩ := sl
        simp only at hs
        rw [hs]
      subst hsl
      exact ⟨nm, qn, ns, bs, bm, sn, sub, ab, col, dd, k0, k1, k2, k3, k5, ho, hok⟩
    · cases c
  · cases c
def kwNo (K : PySem.W.Frag) (f : Addr) : Bool := match K.lookup f with
  | some ⟨_, _, .func fd, _⟩ => (match fd.kwdefaults with
    | .none => true
    | _ => false)
  | _ => false
/-- all that is asked of an error's class x with the field at -/
def lowB (K : PySem.W.Frag) (x : Str) : Bool :=
  errB K (ga K x) && (eqO (PySem.W.findIn K (.ref (ga K x)) "__setattr__") (some (some (.builtin "object.__setattr__"))) && (eqO (PySem.W.findIn K (.ref (ga K x)) "__getattribute__") (some (some (.builtin "BaseException.__getattribute__"))) &&
  (eqO (PySem.W.findIn K (.ref (ga K x)) "__getattr__") (some none) && (eqO (PySem.W.findIn K (.ref (ga K x)) "at") (some none) && (eqO (PySem.W.findIn K (.ref (ga K x)) "__init__") (some (some (.ref (ma K (ga K x) "__init__")))) &&
  (decide (PySem.W.typeIn K (.ref (ma K (ga K x) "__init__")) = some (.type "function")) && (PySem.W.keepIn K (.ref (ga K x)) && (decide (PySem.W.subIn K (.ref (ga K x)) (.type "BaseException") = some true) && (decide (PySem.W.typeIn K (.ref (ga K x)) = some (.type "type")) &&
  (PySem.W.hasDictIn K (ga K x) && (decide (PySem.W.exmOne K (.ref (ga K x)) (.ref (ga K x)) = some true) && kwNo K (ma K (ga K x) "__init__"))))))))))))
theorem low_of {K : PySem.W.Frag} {h : Heap} {mg : Str → Option Value} (X : K.In h) (G : h.Ns mainGlobals mg) {x ql : Str} {p1 p2 q1 q2 q3 q4 : Pos} {d : FnD} (hd : d = ⟨(x, some "__init__"), "__init__", ql, PySem.LowX.iA p1 p2, PySem.LowX.iB q1 q2 q3 q4, PySem.LowX.iS⟩)
    (e : fnObs K d.at_ = d.val) (c : (Fa.code d.at_ d.qual).ok K = true) (g : (Fa.glo x).ok K = true) (b : lowB K x = true) (nd : (x == ("__debug__" : Str)) = false := by decide) : PySem.LowX.LowTxt K mg x ql (ga K x) (ma K (ga K x) "__init__") := by
  subst hd
  obtain ⟨b1, b⟩ := ba b
  obtain ⟨b2, b⟩ := ba b
  obtain ⟨b3, b⟩ := ba b
  obtain ⟨b4, b⟩ := ba b
  obtain ⟨b5, b⟩ := ba b
  obtain ⟨b6, b⟩ := ba b
  obtain ⟨b7, b⟩ := ba b
  obtain ⟨b8, b⟩ := ba b
  obtain ⟨b9, b⟩ := ba b
  obtain ⟨b10, b⟩ := ba b
  obtain ⟨b11, b⟩ := ba b
  obtain ⟨b12, b13⟩ := ba b
  obtain ⟨oc, od, osl, kV, doc, pm, an, cdv, ct, lk, hc⟩ := fn_ok e c
  have lk' : K.lookup (ma K (ga K x) "__init__") = some ⟨oc, od, .func (PySem.W.fnOf "__init__" ql (PySem.LowX.iA p1 p2) (PySem.LowX.iB q1 q2 q3 q4) PySem.LowX.iS .none kV doc pm an cdv ct), osl⟩ := lk
  have kn : kV = .none := by
    unfold kwNo at b13
    rw [lk'] at b13
    cases kV <;> first | rfl | exact Bool.noConfusion (show (false : Bool) = true from b13)
  subst kn
  exact { gC := glo_ok X G g, nd := nd, cls := errB_ok b1, sa := eqO_ok b2, ga := eqO_ok b3, gg := eqO_ok b4, noN := eqO_ok b5, iC := eqO_ok b6, tC := of_decide_eq_true b7, kC := b8, exC := of_decide_eq_true b9, tyC := of_decide_eq_true b10, hdC := b11, te := of_decide_eq_true b12,
          fn := ⟨_, _, _, _, _, _, _, _, _, _, _, _, _, _, lk', hc⟩ }
/-! the Hook: the facts fa, the defs fn, and one more look ex -/
def obsZ (n : Nat) (fa : List Fa) (fn : List FnD) (ex : PySem.W.Frag → Bool) (g : Addr → Option Obj) : Al × Bool := (obsE fa fn (frG g (asG g n)), ex (frG g (asG g n)))
def hookZ (n : Nat) (fa : List Fa) (fn : List FnD) (ex : PySem.W.Frag → Bool) : PySem.W.Hook where
  α := Al × Bool
  obs := fun s => obsZ n fa fn ex s.heap.get?
  val := fun _ => (valE fn, true)
  says := fun _ h => ∃ K : PySem.W.Frag, K.In h ∧ SaysE fa fn K ∧ ex K = true
  of := fun _ _ e => ⟨_, frG_in, congrArg (fun z : Al × Bool => z.1) e, congrArg (fun z : Al × Bool => z.2) e⟩
  keeps := fun _ _ _ ⟨K, hK, c, d⟩ k => ⟨K, PySem.W.Frag.In.keeps hK k, c, d⟩
theorem obsZ_eq {n : Nat} {fa : List Fa} {fn : List FnD} {ex : PySem.W.Frag → Bool} {g : Addr → Option Obj} {s : Shared} (h : ∀ a, g a = s.heap.get? a) : obsZ n fa fn ex g = (hookZ n fa fn ex).obs s := by
  have e : g = s.heap.get? := funext h
  rw [e] <;> rfl
/-- a def of the text, by a path -/
theorem saysFn {fa : List Fa} {fn : List FnD} {K : PySem.W.Frag} (c : SaysE fa fn K) (i : Nat) {d : FnD} (h : fn[i]? = some d := by rfl) : fnObs K d.at_ = d.val ∧ (Fa.code d.at_ d.qual).ok K = true := by
  have c2 := (ba (show ((fa.all fun f => f.ok K) && fn.all fun d => (Fa.code d.at_ d.qual).ok K) = true from congrArg (fun z : Al => z.1) c)).2
  have e : fn.map (fun d => fnObs K d.at_) = fn.map FnD.val := congrArg (fun z : Al => z.2) c
  have e2 : (fn.map fun d => fnObs K d.at_)[i]? = (fn.map FnD.val)[i]? := by rw [e]
  rw [List.getElem?_map, List.getElem?_map, h] at e2
  exact ⟨Option.some.inj e2, List.all_eq_true.mp c2 d (List.mem_of_getElem? h)⟩
/-- a def of the top: its name, its statement -/
def dTop (x : Str) (st : Stmt) : FnD := ⟨(x, none), x, x, defArgs st, defBody st, defScope st⟩
theorem keep_fn {K : PySem.W.Frag} {f : Addr} {oc : Value} {od : Option Addr} {fd : FuncData} {osl : Array (Option Value)} (h : K.lookup f = some ⟨oc, od, .func fd, osl⟩) : PySem.W.keepIn K (.ref f) = true := by
  simp only [PySem.W.keepIn, h]
theorem saysFun {fa : List Fa} {fn : List FnD} {K : PySem.W.Frag} (c : SaysE fa fn K) (i : Nat) {x : Str} {st : Stmt} (h : fn[i]? = some (dTop x st) := by rfl) : ∃ fd, Fun K x x st (ga K x) fd := by
  obtain ⟨e, k⟩ := saysFn c i h
  obtain ⟨oc, od, osl, kV, doc, pm, an, cdv, ct, lk, hc⟩ := fn_ok e k
  exact ⟨_, fun_mk lk hc (keep_fn lk)⟩
/-- a law's end, over a head by facts -/
theorem walk_ofGE {l : PySem.W.OpenLaw} {n k : Nat} {q : Program} {loose : List Str} {XP : (Str → Option Value) → Heap → Prop} {YP : World → Heap → Prop} {d : DefRec} {x : Str}
    (most : l.most = some n) (fits : n ≤ sizeLine) (plain : d.params.defaults = []) (room : Room k callerA)
    (F : ∀ (w : World) (mg : Str → Option Value) (fa : Addr) (h : Heap), YP w h → h.Ns mainGlobals mg → mg d.name = some (.ref fa) →
      ∃ (K : PySem.W.Frag) (fd : FuncData) (sp : Sp), K.In h ∧ (∀ (s : Shared) (u : Value), BindsTo s fd ⟨[u], []⟩ [(x, u)]) ∧
        (∀ (G : Hp) (a : Addr) (ns : List Int), ns.length ≤ n → SqL K G a (ns.map V.int) → sp [.ref a] G (fun v _ => v = .bl true) fun _ _ _ => False) ∧
        ∀ base : Heap, K.In base → base.Ns mainGlobals mg → FnOkG l.prog w K mg base k fa fd [x] sp) :
    PySem.W.WalkO q loose XP YP l.row.toRowW d [] (fun f vs => PySem.call f vs) := by
  refine Att.attach_call most plain fun w s0 s1 mg mb fa o pm cd doc a vs ns G Y ho hd hcd hmg hobj hints hlen hg => ?_
  obtain ⟨K, fd, sp, KX, hb, hsp, hF⟩ := F w mg fa _ Y G.T.g hmg
  exact law_callG KX G.T.g G.T.b G.T.builtins G.T.nolimit hg hobj hints (Nat.le_trans hlen fits) room hF hb fun H hS => hsp H a ns hlen hS
end KV

/-! the end -/
namespace KV
open PySem PySem.Spec PyProof.Rows L2 He KM
section
variable {P : Program} {w : World} {K : PySem.W.Frag} {mg : Str → Option Value} {base : Heap} {Z : CXT} {k : Nat} {x : Str} {st : Stmt} {f : Addr} {fd : FuncData} {ps ks : List Str} {sp : Sp}
theorem mkCal (F : Fun K x x st f fd) (ok : FnOk P w K mg base Z k f fd ps sp) (g : mg x = some (.ref f))
    (h : ∀ (kV doc pm : Value) (an : Option Addr) (cdv ct : Value) (us : List Value), us.length = ps.length → bindArgs (PySem.W.fnOf x x (defArgs st) (defBody st) (defScope st) .none kV doc pm an cdv ct) ⟨us, []⟩ = pure (ps.zip us)) :
    Cal P w K mg base Z k x ps sp := ⟨_, _, ok, g, F.kp, F.binds h⟩
theorem mkCalK {b : Bool} (F : Fun K x x st f fd) (ok : FnOk P w K mg base Z k f fd ps sp) (g : mg x = some (.ref f))
    (h : ∀ (kV doc pm : Value) (an : Option Addr) (cdv ct : Value) (us : List Value), us.length = ps.length → bindArgs (PySem.W.fnOf x x (defArgs st) (defBody st) (defScope st) .none kV doc pm an cdv ct) ⟨[], ks.zip us⟩ = pure (ps.zip (rv b us))) :
    CalK P w K mg base Z k x ps ks b sp := ⟨_, _, ok, g, F.kp, KB.mk F h⟩
end
def gN : List Str := ["is_integer", "product_of", "inverse", "number_leaving", "InvalidQuestion", "is_lot", "fits_lot", "fits", "residues", "next_fitting", "fitting_between", "_leaving_below", "next_leaving", "leaving_between", "check_lot",
  "_law_draw", "_law_any", "_law_of", "_law_divisor", "_law_lot", "_law_rests", "_law_fits", "_law_is_lot", "_law_near", "_law_count", "_law_below", "_law_asked", "law"]
def fN : List Str := ["isinstance", "int", "bool", "tuple", "list", "len", "range", "sorted", "all", "abs", "divmod", "repr", "min", "max", "enumerate"]
def fa7 : List Fa := gN.map Fa.glo ++ fN.map Fa.free
def dI : FnD := ⟨("InvalidQuestion", some "__init__"), "__init__", "InvalidQuestion.__init__", PySem.LowX.iA ⟨7, 17, 7, 21⟩ ⟨7, 23, 7, 25⟩, PySem.LowX.iB ⟨8, 8, 8, 12⟩ ⟨8, 8, 8, 15⟩ ⟨8, 18, 8, 20⟩ ⟨8, 8, 8, 20⟩, PySem.LowX.iS⟩
def fn7 : List FnD := [dI, dTop "is_integer" (top 5), dTop "product_of" (top 6), dTop "inverse" (top 7), dTop "number_leaving" (top 8), dTop "is_lot" (top 10), dTop "fits_lot" (top 12), dTop "fits" (top 13), dTop "residues" (top 14), dTop "next_fitting" (top 15),
  dTop "fitting_between" (top 16), dTop "_leaving_below" (top 19), dTop "check_lot" (top 11), dTop "_law_draw" (top 21), dTop "_law_any" (top 22), dTop "_law_of" (top 23), dTop "_law_divisor" (top 25), dTop "_law_lot" (top 26), dTop "_law_rests" (top 27),
  dTop "_law_fits" (top 28), dTop "_law_is_lot" (top 29), dTop "_law_near" (top 30), dTop "_law_count" (top 31), dTop "_law_below" (top 32), dTop "_law_asked" (top 33), dTop "law" (top 34), dTop "next_leaving" (top 17), dTop "leaving_between" (top 18)]
def ex7 (K : PySem.W.Frag) : Bool := lowB K "InvalidQuestion" && bltB K "gcd" "math.gcd"
theorem factG {K : PySem.W.Frag} (c : SaysE fa7 fn7 K) {f : Fa} (hf : f ∈ fa7) : f.ok K = true := by
  have c1 := (ba (show ((fa7.all fun f => f.ok K) && fn7.all fun d => (Fa.code d.at_ d.qual).ok K) = true from congrArg (fun z : Al => z.1) c)).1
  exact List.all_eq_true.mp c1 f hf
theorem mem_g {x : Str} (h : x ∈ gN) : Fa.glo x ∈ fa7 := List.mem_append_left _ (List.mem_map_of_mem h)
theorem mem_f {x : Str} (h : x ∈ fN) : Fa.free x ∈ fa7 := List.mem_append_right _ (List.mem_map_of_mem h)
theorem end7 {P : Program} {w : World} {K : PySem.W.Frag} {h : Heap} {mg : Str → Option Value} {f : Addr} (X : K.In h) (G : h.Ns mainGlobals mg) (hfa : mg ("law" : Str) = some (.ref f)) (c : SaysE fa7 fn7 K) (b : ex7 K = true) :
    ∃ fd : FuncData, (∀ (s : Shared) (u : Value), BindsTo s fd ⟨[u], []⟩ [("_law_script", u)]) ∧ ∀ base : Heap, K.In base → base.Ns mainGlobals mg → FnOkG P w K mg base 7 f fd ["_law_script"] (spLaw K) := by
  obtain ⟨b1, b2⟩ := ba b
  have g : ∀ x : Str, x ∈ gN → mg x = some (.ref (ga K x)) := fun x hx => glo_ok X G (factG c (mem_g hx))
  have fr : ∀ x : Str, x ∈ fN → mg x = none := fun x hx => free_ok X G (factG c (mem_f hx))
  have B : Bl mg := ⟨fr _ (by decide), fr _ (by decide), fr _ (by decide), fr _ (by decide), fr _ (by decide), fr _ (by decide), fr _ (by decide), fr _ (by decide), fr _ (by decide), fr _ (by decide), fr _ (by decide), fr _ (by decide), fr _ (by decide), fr _ (by decide), fr _ (by decide), bltB_ok X G b2⟩
  have T : PySem.LowX.LowTxt K mg "InvalidQuestion" "InvalidQuestion.__init__" (ga K "InvalidQuestion") (ma K (ga K "InvalidQuestion") "__init__") := low_of X G (d := dI) rfl (saysFn c 0 rfl).1 (saysFn c 0 rfl).2 (factG c (mem_g (by decide))) b1
  obtain ⟨_, F1⟩ := saysFun c 1 rfl
  obtain ⟨_, F2⟩ := saysFun c 2 rfl
  obtain ⟨_, F3⟩ := saysFun c 3 rfl
  obtain ⟨_, F4⟩ := saysFun c 4 rfl
  obtain ⟨_, F5⟩ := saysFun c 5 rfl
  obtain ⟨_, F6⟩ := saysFun c 6 rfl
  obtain ⟨_, F7⟩ := saysFun c 7 rfl
  obtain ⟨_, F8⟩ := saysFun c 8 rfl
  obtain ⟨_, F9⟩ := saysFun c 9 rfl
  obtain ⟨_, F10⟩ := saysFun c 10 rfl
  obtain ⟨_, F11⟩ := saysFun c 11 rfl
  obtain ⟨_, F12⟩ := saysFun c 12 rfl
  obtain ⟨_, F13⟩ := saysFun c 13 rfl
  obtain ⟨_, F14⟩ := saysFun c 14 rfl
  obtain ⟨_, F15⟩ := saysFun c 15 rfl
  obtain ⟨_, F16⟩ := saysFun c 16 rfl
  obtain ⟨_, F17⟩ := saysFun c 17 rfl
  obtain ⟨_, F18⟩ := saysFun c 18 rfl
  obtain ⟨_, F19⟩ := saysFun c 19 rfl
  obtain ⟨_, F20⟩ := saysFun c 20 rfl
  obtain ⟨_, F21⟩ := saysFun c 21 rfl
  obtain ⟨_, F22⟩ := saysFun c 22 rfl
  obtain ⟨_, F23⟩ := saysFun c 23 rfl
  obtain ⟨_, F24⟩ := saysFun c 24 rfl
  obtain ⟨fdL, FL⟩ := saysFun c 25 rfl
  obtain ⟨_, F26⟩ := saysFun c 26 rfl
  obtain ⟨_, F27⟩ := saysFun c 27 rfl
  have e := hfa.symm.trans (g "law" (by decide))
  cases e
  have bL : ∀ (s : Shared) (u : Value), BindsTo s fdL ⟨[u], []⟩ [("_law_script", u)] := by
    obtain ⟨oc, od, kV, doc, pm, an, cdv, ct, osl, rfl, lk, hcd⟩ := FL.ex
    exact fun s u => .of_eq rfl
  refine ⟨fdL, bL, fun base _ _ => ?_⟩
  have c1 := mkCal (P := P) (w := w) (base := base) F1 (ok_isInt B F1) (g _ (by decide)) fun _ _ _ _ _ _ us hl => match us, hl with | [_], _ => rfl
  have c2 := mkCal (P := P) (w := w) (base := base) F2 (ok_prod F2) (g _ (by decide)) fun _ _ _ _ _ _ us hl => match us, hl with | [_], _ => rfl
  have c3 := mkCal (P := P) (w := w) (base := base) F3 (ok_inv F3) (g _ (by decide)) fun _ _ _ _ _ _ us hl => match us, hl with | [_, _], _ => rfl
  have c4 := mkCal (P := P) (w := w) (base := base) F4 (ok_leave c3 F4) (g _ (by decide)) fun _ _ _ _ _ _ us hl => match us, hl with | [_, _], _ => rfl
  have o5 := ok_isLot (P := P) (w := w) (base := base) B c1 F5
  have c5 := mkCal F5 o5 (g _ (by decide)) fun _ _ _ _ _ _ us hl => match us, hl with | [_], _ => rfl
  have k5 := mkCalK (ks := ["value"]) (b := false) F5 o5 (g _ (by decide)) fun _ _ _ _ _ _ us hl => match us, hl with | [_], _ => rfl
  have c6 := mkCal (P := P) (w := w) (base := base) F6 (ok_fitL B F6) (g _ (by decide)) fun _ _ _ _ _ _ us hl => match us, hl with | [_, _], _ => rfl
  have c12 := mkCal (P := P) (w := w) (base := base) F12 (ok_check T c5 F12) (g _ (by decide)) fun _ _ _ _ _ _ us hl => match us, hl with | [_, _], _ => rfl
  have o7 := ok_fits c12 c6 F7
  have c7 := mkCal F7 o7 (g _ (by decide)) fun _ _ _ _ _ _ us hl => match us, hl with | [_, _], _ => rfl
  have k7 := mkCalK (ks := ["lot", "count"]) (b := false) F7 o7 (g _ (by decide)) fun _ _ _ _ _ _ us hl => match us, hl with | [_, _], _ => rfl
  have o8 := ok_res B c12 c2 c4 F8
  have c8 := mkCal F8 o8 (g _ (by decide)) fun _ _ _ _ _ _ us hl => match us, hl with | [_], _ => rfl
  have k8 := mkCalK (ks := ["lot"]) (b := false) F8 o8 (g _ (by decide)) fun _ _ _ _ _ _ us hl => match us, hl with | [_], _ => rfl
  have c26 := mkCal (P := P) (w := w) (base := base) F26 (ok_nextL F26) (g _ (by decide)) fun _ _ _ _ _ _ us hl => match us, hl with | [_, _, _], _ => rfl
  have o9 := ok_next c8 c2 c26 F9
  have c9 := mkCal F9 o9 (g _ (by decide)) fun _ _ _ _ _ _ us hl => match us, hl with | [_, _], _ => rfl
  have k9 := mkCalK (ks := ["count", "lot"]) (b := true) F9 o9 (g _ (by decide)) fun _ _ _ _ _ _ us hl => match us, hl with | [_, _], _ => rfl
  have c11 := mkCal (P := P) (w := w) (base := base) F11 (ok_below B F11) (g _ (by decide)) fun _ _ _ _ _ _ us hl => match us, hl with | [_, _, _], _ => rfl
  have c27 := mkCal (P := P) (w := w) (base := base) F27 (ok_betwL c11 F27) (g _ (by decide)) fun _ _ _ _ _ _ us hl => match us, hl with | [_, _, _, _], _ => rfl
  have o10 := ok_betw c8 c2 c27 F10
  have c10 := mkCal F10 o10 (g _ (by decide)) fun _ _ _ _ _ _ us hl => match us, hl with | [_, _, _], _ => rfl
  have k10 := mkCalK (ks := ["high", "low", "lot"]) (b := true) F10 o10 (g _ (by decide)) fun _ _ _ _ _ _ us hl => match us, hl with | [_, _, _], _ => rfl
  have c13 := mkCal (P := P) (w := w) (base := base) F13 (ok_draw B F13) (g _ (by decide)) fun _ _ _ _ _ _ us hl => match us, hl with | [_, _], _ => rfl
  have c14 := mkCal (P := P) (w := w) (base := base) F14 (ok_any B F14) (g _ (by decide)) fun _ _ _ _ _ _ us hl => match us, hl with | [_, _], _ => rfl
  have c15 := mkCal (P := P) (w := w) (base := base) F15 (ok_of B c14 F15) (g _ (by decide)) fun _ _ _ _ _ _ us hl => match us, hl with | [_, _], _ => rfl
  have c16 := mkCal (P := P) (w := w) (base := base) F16 (ok_div B F16) (g _ (by decide)) fun _ _ _ _ _ _ us hl => match us, hl with | [_, _], _ => rfl
  have c17 := mkCal (P := P) (w := w) (base := base) F17 (ok_lot B c14 c15 c16 F17) (g _ (by decide)) fun _ _ _ _ _ _ us hl => match us, hl with | [_], _ => rfl
  have c18 := mkCal (P := P) (w := w) (base := base) F18 (ok_rests B F18) (g _ (by decide)) fun _ _ _ _ _ _ us hl => match us, hl with | [_], _ => rfl
  have c19 := mkCal (P := P) (w := w) (base := base) F19 (ok_lfits B F19) (g _ (by decide)) fun _ _ _ _ _ _ us hl => match us, hl with | [_, _], _ => rfl
  have c20 := mkCal (P := P) (w := w) (base := base) F20 (ok_lislot B c16 F20) (g _ (by decide)) fun _ _ _ _ _ _ us hl => match us, hl with | [_], _ => rfl
  have c21 := mkCal (P := P) (w := w) (base := base) F21 (ok_near B c14 c15 F21) (g _ (by decide)) fun _ _ _ _ _ _ us hl => match us, hl with | [_, _], _ => rfl
  have c22 := mkCal (P := P) (w := w) (base := base) F22 (ok_count B c14 c15 F22) (g _ (by decide)) fun _ _ _ _ _ _ us hl => match us, hl with | [_, _], _ => rfl
  have c23 := mkCal (P := P) (w := w) (base := base) F23 (ok_lbelow B F23) (g _ (by decide)) fun _ _ _ _ _ _ us hl => match us, hl with | [_, _, _], _ => rfl
  have c24 := mkCal (P := P) (w := w) (base := base) F24 (ok_asked T k7 c8 c9 c10 F24) (g _ (by decide)) fun _ _ _ _ _ _ us hl => match us, hl with | [_, _, _, _], _ => rfl
  exact ok_law B c13 c17 c18 c19 k8 c8 c22 c7 k9 k10 c23 c21 k5 c5 c20 c14 c24 FL
abbrev R7 : PySem.W.OpenRow := PySem.W.OpenLaw.row PySem.Challenge.rw_batchnumbers_k07_whole_fitting_integers
abbrev hk7 : PySem.W.Hook := hookZ 5 fa7 fn7 ex7
def ob7 (s : PySem.W.SharedT) : Al × Bool := obsZ 5 fa7 fn7 ex7 (HandSHeadRun.getT s)
theorem ob7_eq (s : PySem.W.SharedT) : ob7 s = hk7.obs s.abs := obsZ_eq (HandSHeadRun.getT_eq s)
def loose7 : List Str := ["is_integer", "product_of", "inverse", "number_leaving", "BatchError", "InvalidQuestion", "is_lot", "fits_lot", "fits", "residues", "next_fitting", "fitting_between", "_leaving_below", "next_leaving", "leaving_between", "check_lot",
  "_law_draw", "_law_any", "_law_of", "_law_mixed", "_law_divisor", "_law_lot", "_law_rests", "_law_fits", "_law_is_lot", "_law_near", "_law_count", "_law_below", "_law_asked"]
theorem run7 (w : World) : HandSHeadRun.RunEqI R7 (PySem.W.view R7.prog [0, 34]) hk7 ob7 6000 loose7 w := by
  unfold HandSHeadRun.RunEqI
  kernel_rfl
end KV
open PySem PySem.W PySem.Calls PyProof.Rows
set_option maxRecDepth 100000 in
set_option maxHeartbeats 8000000 in
theorem PySem.Challenge.cw_batchnumbers_k07_whole_fitting_integers_holds : PySem.Challenge.rw_batchnumbers_k07_whole_fitting_integers.Holds := by
  w_on; o_law
  refine HandSHeadRun.head_imp (r := OpenLaw.row PySem.Challenge.rw_batchnumbers_k07_whole_fitting_integers) (q := view (OpenLaw.row PySem.Challenge.rw_batchnumbers_k07_whole_fitting_integers).prog [0, 34]) (H := KV.hk7) (ob := KV.ob7) (M := 6000) (loose := KV.loose7) (d := HandSHeadRun.topDef (OpenLaw.row PySem.Challenge.rw_batchnumbers_k07_whole_fitting_integers).prog 34) (kwd := []) KV.ob7_eq
    KV.run7 (by kernel_rfl) (by kernel_rfl) (by kernel_rfl) (by rfl) (by first | assumption | decide +kernel) (by decide +kernel) ⟨rfl, rfl, rfl, rfl, rfl, by decide +kernel⟩ ?hw ?hc
  case hw => w_witness2
  case hc =>
    refine KV.walk_ofGE (l := PySem.Challenge.rw_batchnumbers_k07_whole_fitting_integers) (n := 63) (k := 7) (x := "_law_script") rfl (by decide) (by kernel_rfl) ⟨rfl, by decide, by decide⟩ ?F
    intro w mg fa h Y G hmg0
    obtain ⟨K, KX, c, b⟩ := Y
    have hmg : mg ("law" : PySem.Str) = some (.ref fa) := by
      have e : (HandSHeadRun.topDef (OpenLaw.row PySem.Challenge.rw_batchnumbers_k07_whole_fitting_integers).prog 34).name = ("law" : PySem.Str) := by kernel_rfl
      rw [← e]
      exact hmg0
    obtain ⟨fd, hb, hF⟩ := KV.end7 (P := (PySem.Challenge.rw_batchnumbers_k07_whole_fitting_integers).prog) (w := w) KX G hmg c b
    exact ⟨K, fd, KV.spLaw K, KX, hb, fun H a ns _ hS => ⟨a, ns, rfl, hS, fun _ => rfl⟩, hF⟩
