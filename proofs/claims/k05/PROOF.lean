import PyProof.Rows.All
import Wide.All
import OpenK.AllK
import Wide.FinOn
import HandS.Head0
import HandS.Head1
import HandS.Head2
import HandS.HeadEnd
import HandS.HeadHook1
import HandS.HeadHook4
import HandS.Words
import HandS.ForMost
import HandS.Lambda
import HandS.Wide
import HandS.IsInst
import HandS.WideBits
import HandS.Sort
import HandS.SortRule
import KE.DataMinMax
import KE.SortData
import PyProof.P3Eq
import HandS.DictComp
import HandS.Zip
import HandS.Conv
import HandS.ForExc
import HandS.WordsExc
import HandS.TryOnly
import HandS.ExcOwn
import HandS.Exc
import HandS.More
import KE.KeyNested
import HandS.Strs
import HandS.TupAny
import HandS.Text
import HandS.Flow
import HandS.SortInts
import HandS.Walk
import HandS.Iter
import HandS.Defaults
import HandS.Style
import HandS.MakeKwOnly
import HandS.CallSlots
import HandS.SetFor
import HandS.Dict
import HandS.List
import PyProof.AutoSeq1
import HandS.TryMany
import HandS.SortKw
import HandS.ExcIs
import KE.SortKeyHeap
import KE.KSortKey
import KE.KLam
import HandS.HeadWalk
import HandS.Deep
import KE.KIndexOf
import HandS.RevRange
import KE.KDictSum
import HandS.TupMul
import HandS.TupLen
import HandS.SetKeys
import HandS.StrMore
import KE.GoesNew
import KE.GoesEnumKw
import PySem.Challenge.RW_nearby_k05_network_texts
set_option Elab.async false
set_option linter.all false
set_option maxRecDepth 100000
namespace Hdx
open PySem PySem.Spec PyProof.Rows L2
abbrev Fs : Type := List (List (PySem.W.Frag → Bool))
abbrev Al : Type := Bool × List He.FnV
structure Fd where
  at_ : Addr
  name : Str
  qual : Str
  params : Arguments
  body : List Stmt
  scope : Scope
def Fd.val (d : Fd) : He.FnV := some (d.name, d.qual, d.params, .stmts d.body, d.scope, mainGlobals, [], .none, builtinsNs)
def fv (K : PySem.W.Frag) (a : Addr) : He.FnV := match K.lookup a with
  | some ⟨_, _, .func fd, _⟩ => some (fd.name, fd.qualname, fd.params, fd.body, fd.scope, fd.globals, fd.closure, fd.defaults, fd.builtins)
  | _ => none
def cv (K : PySem.W.Frag) (a : Addr) (q : Str) : Bool := match K.lookup a with
  | some ⟨_, _, .func fd, _⟩ => PySem.W.codeIn K fd.code q
  | _ => false
def obs (fa : Fs) (fn : List Fd) (K : PySem.W.Frag) : Al := ((fa.all fun l => l.all fun f => f K) && fn.all fun d => cv K d.at_ d.qual, fn.map fun d => fv K d.at_)
def val (fn : List Fd) : Al := (true, fn.map Fd.val)
def Says (fa : Fs) (fn : List Fd) (K : PySem.W.Frag) : Prop := obs fa fn K = val fn
def emptyB (g : Addr → Option Obj) (P : Addr) : Bool := match g P with
  | some o => He.emptyTab o
  | none => false
def obsG (as ts : List Addr) (fa : Fs) (fn : List Fd) (g : Addr → Option Obj) : Al := ((obs fa fn (He.frG g as)).1 && ts.all (emptyB g), (obs fa fn (He.frG g as)).2)
def hook (as ts : List Addr) (fa : Fs) (fn : List Fd) : PySem.W.Hook where
  α := Al
  obs := fun s => obsG as ts fa fn s.heap.get?
  val := fun _ => val fn
  says := fun _ h => ∃ K : PySem.W.Frag, K.In h ∧ Says fa fn K ∧ ∀ P ∈ ts, h.get? P = some { cls := .none, data := .fields #[] }
  of := fun _ s e => by
    have e1 : ((obs fa fn (He.frG s.heap.get? as)).1 && ts.all (emptyB s.heap.get?)) = true := congrArg (fun z : Al => z.1) e
    have e2 : (obs fa fn (He.frG s.heap.get? as)).2 = fn.map Fd.val := congrArg (fun z : Al => z.2) e
    obtain ⟨h1, h2⟩ := He.ba e1
    refine ⟨_, He.frG_in, Prod.ext h1 e2, fun P hP => ?_⟩
    have h3 := List.all_eq_true.mp h2 P hP
    unfold emptyB at h3
    cases q : s.heap.get? P with
    | none => rw [q] at h3; cases h3
    | some o => rw [q] at h3; rw [He.emptyTab_eq h3]
  keeps := fun _ _ _ ⟨K, hK, c, t⟩ k => ⟨K, PySem.W.Frag.In.keeps hK k, c, fun P hP => k _ _ (t P hP)⟩
theorem obsG_eq {as ts : List Addr} {fa : Fs} {fn : List Fd} (s : PySem.W.SharedT) : obsG as ts fa fn (HandSHeadRun.getT s) = (hook as ts fa fn).obs s.abs := by
  have e : HandSHeadRun.getT s = s.abs.heap.get? := funext (HandSHeadRun.getT_eq s)
  rw [e] <;> rfl
def intB (K : PySem.W.Frag) (x : Str) (i : Int) : Bool := match PySem.W.nsIn K mainGlobals x with
  | some (some (.int j _)) => decide (j = i)
  | _ => false
structure QQ where
  oc : Value
  od : Option Addr
  sl : Array (Option Value)
  kV : Value
  dc : Value
  pm : Value
  an : Option Addr
  cd : Value
  ct : Value
section
variable {fa : Fs} {fn : List Fd} {K : PySem.W.Frag}
theorem Says.f (c : Says fa fn K) (i j : Nat) {l : List (PySem.W.Frag → Bool)} {f : PySem.W.Frag → Bool} (h1 : fa[i]? = some l) (h2 : l[j]? = some f) : f K = true := by
  have c1 := (He.ba (show ((fa.all fun l => l.all fun f => f K) && fn.all fun d => cv K d.at_ d.qual) = true from congrArg (fun z : Al => z.1) c)).1
  exact List.all_eq_true.mp (List.all_eq_true.mp c1 l (List.mem_of_getElem? h1)) f (List.mem_of_getElem? h2)
theorem Says.fd (c : Says fa fn K) (i : Nat) {d : Fd} (h : fn[i]? = some d) :
    ∃ q : QQ, K.lookup (d.at_) = some ⟨q.oc, q.od, .func (PySem.W.fnOf d.name d.qual d.params d.body d.scope .none q.kV q.dc q.pm q.an q.cd q.ct), q.sl⟩ ∧ PySem.W.codeIn K q.cd d.qual = true := by
  have c2 := (He.ba (show ((fa.all fun l => l.all fun f => f K) && fn.all fun d => cv K d.at_ d.qual) = true from congrArg (fun z : Al => z.1) c)).2
  have e : fn.map (fun d => fv K d.at_) = fn.map Fd.val := congrArg (fun z : Al => z.2) c
  have e2 : (fn.map fun d => fv K d.at_)[i]? = (fn.map Fd.val)[i]? := by rw [e]
  rw [List.getElem?_map, List.getElem?_map, h] at e2
  have c3 : cv K d.at_ d.qual = true := List.all_eq_true.mp c2 d (List.mem_of_getElem? h)
  have e3 : fv K d.at_ = d.val := Option.some.inj e2
  unfold cv at c3
  unfold fv at e3
  cases q : K.lookup d.at_ with
  | none =>
    rw [q] at c3
    cases c3
  | some o =>
    obtain ⟨oc, od, dt, osl⟩ := o
    rw [q] at c3 e3
    cases dt with
    | func fd =>
      obtain ⟨n1, n2, n3, n4, n5, n6, n7, n8, n9, n10, n11, n12, n13, n14, n15⟩ := fd
      have e4 : (some (n1, n2, n3, n4, n5, n6, n7, n8, n15) : He.FnV) = some (d.name, d.qual, d.params, .stmts d.body, d.scope, mainGlobals, [], .none, builtinsNs) := e3
      simp only [Option.some.injEq, Prod.mk.injEq] at e4
      obtain ⟨h1, h2, h3, h4, h5, h6, h7, h8, h9⟩ := e4
      subst h1 h2 h3 h4 h5 h6 h7 h8 h9
      exact ⟨⟨oc, od, osl, n9, n10, n11, n12, n13, n14⟩, rfl, c3⟩
    | _ => cases c3
theorem int_ns {x : Str} {i : Int} (h : intB K x i = true) : ∃ t, PySem.W.nsIn K mainGlobals x = some (some (.int i t)) := by
  unfold intB at h
  cases e : PySem.W.nsIn K mainGlobals x with
  | none => rw [e] at h; cases h
  | some o =>
    rw [e] at h
    cases o with
    | none => cases h
    | some v =>
      cases v with
      | int j t =>
        have ej : j = i := of_decide_eq_true h
        rw [ej]
        exact ⟨t, rfl⟩
      | _ => cases h
end
end Hdx
set_option maxHeartbeats 0
namespace QK05e
open PySem PySem.Spec PyProof.Rows L2 Hdx
def topS (i : Nat) : Stmt := PySem.Challenge.pw_nearby_k05_network_texts.main.body.getD i (.Pass ⟨0, 0, 0, 0⟩)
abbrev s__wall : Stmt := topS 0
abbrev s__check_names : Stmt := topS 7
abbrev s_Network__check_returns : Stmt := inClass (topS 6) 7
abbrev s__check_row : Stmt := topS 8
abbrev s__ports_by_neighbor : Stmt := topS 9
abbrev s_Network___init__ : Stmt := inClass (topS 6) 0
abbrev s_Network_size : Stmt := inClass (topS 6) 1
abbrev s_Network_names : Stmt := inClass (topS 6) 2
abbrev s_Network_neighbors : Stmt := inClass (topS 6) 3
abbrev s_Network_degree : Stmt := inClass (topS 6) 4
abbrev s_Network_far_port : Stmt := inClass (topS 6) 5
abbrev s_Network_links : Stmt := inClass (topS 6) 6
abbrev s_network_text : Stmt := topS 12
abbrev s__lines_of : Stmt := topS 14
abbrev s_is_number : Stmt := topS 17
abbrev s__names_in : Stmt := topS 16
abbrev s__read_rows : Stmt := topS 15
abbrev s__check_others : Stmt := topS 18
abbrev s_read_network : Stmt := topS 13
abbrev s__law_cell : Stmt := topS 20
abbrev s__law_draw_net : Stmt := topS 21
abbrev s__law_shape_net : Stmt := topS 22
abbrev s__law_net : Stmt := topS 23
abbrev s__law_draws : Stmt := topS 24
abbrev s__law_like : Stmt := topS 25
abbrev s__law_made : Stmt := topS 26
abbrev s__law_drawn : Stmt := topS 27
abbrev s__law_lines : Stmt := topS 28
abbrev s__law_is : Stmt := topS 29
abbrev s_law : Stmt := topS 30
def hfn0 : List Fd := [⟨21, "_wall", "_wall", defArgs s__wall, defBody s__wall, defScope s__wall⟩,
  ⟨140, "_check_names", "_check_names", defArgs s__check_names, defBody s__check_names, defScope s__check_names⟩,
  ⟨126, "_check_returns", "Network._check_returns", defArgs s_Network__check_returns, defBody s_Network__check_returns, defScope s_Network__check_returns⟩,
  ⟨147, "_check_row", "_check_row", defArgs s__check_row, defBody s__check_row, defScope s__check_row⟩,
  ⟨152, "_ports_by_neighbor", "_ports_by_neighbor", defArgs s__ports_by_neighbor, defBody s__ports_by_neighbor, defScope s__ports_by_neighbor⟩,
  ⟨77, "__init__", "Network.__init__", defArgs s_Network___init__, defBody s_Network___init__, defScope s_Network___init__⟩,
  ⟨84, "size", "Network.size", defArgs s_Network_size, defBody s_Network_size, defScope s_Network_size⟩,
  ⟨91, "names", "Network.names", defArgs s_Network_names, defBody s_Network_names, defScope s_Network_names⟩] ++ ([⟨98, "neighbors", "Network.neighbors", defArgs s_Network_neighbors, defBody s_Network_neighbors, defScope s_Network_neighbors⟩,
  ⟨105, "degree", "Network.degree", defArgs s_Network_degree, defBody s_Network_degree, defScope s_Network_degree⟩,
  ⟨112, "far_port", "Network.far_port", defArgs s_Network_far_port, defBody s_Network_far_port, defScope s_Network_far_port⟩,
  ⟨119, "links", "Network.links", defArgs s_Network_links, defBody s_Network_links, defScope s_Network_links⟩,
  ⟨157, "network_text", "network_text", defArgs s_network_text, defBody s_network_text, defScope s_network_text⟩,
  ⟨169, "_lines_of", "_lines_of", defArgs s__lines_of, defBody s__lines_of, defScope s__lines_of⟩,
  ⟨188, "is_number", "is_number", defArgs s_is_number, defBody s_is_number, defScope s_is_number⟩,
  ⟨181, "_names_in", "_names_in", defArgs s__names_in, defBody s__names_in, defScope s__names_in⟩] ++ ([⟨176, "_read_rows", "_read_rows", defArgs s__read_rows, defBody s__read_rows, defScope s__read_rows⟩,
  ⟨193, "_check_others", "_check_others", defArgs s__check_others, defBody s__check_others, defScope s__check_others⟩,
  ⟨162, "read_network", "read_network", defArgs s_read_network, defBody s_read_network, defScope s_read_network⟩,
  ⟨200, "_law_cell", "_law_cell", defArgs s__law_cell, defBody s__law_cell, defScope s__law_cell⟩,
  ⟨205, "_law_draw_net", "_law_draw_net", defArgs s__law_draw_net, defBody s__law_draw_net, defScope s__law_draw_net⟩,
  ⟨210, "_law_shape_net", "_law_shape_net", defArgs s__law_shape_net, defBody s__law_shape_net, defScope s__law_shape_net⟩,
  ⟨217, "_law_net", "_law_net", defArgs s__law_net, defBody s__law_net, defScope s__law_net⟩,
  ⟨224, "_law_draws", "_law_draws", defArgs s__law_draws, defBody s__law_draws, defScope s__law_draws⟩] ++ ([⟨229, "_law_like", "_law_like", defArgs s__law_like, defBody s__law_like, defScope s__law_like⟩,
  ⟨234, "_law_made", "_law_made", defArgs s__law_made, defBody s__law_made, defScope s__law_made⟩,
  ⟨241, "_law_drawn", "_law_drawn", defArgs s__law_drawn, defBody s__law_drawn, defScope s__law_drawn⟩,
  ⟨246, "_law_lines", "_law_lines", defArgs s__law_lines, defBody s__law_lines, defScope s__law_lines⟩,
  ⟨251, "_law_is", "_law_is", defArgs s__law_is, defBody s__law_is, defScope s__law_is⟩,
  ⟨256, "law", "law", defArgs s_law, defBody s_law, defScope s_law⟩])))
def fa0 : List (PySem.W.Frag → Bool) := [fun K => He.eqO (PySem.W.nsIn K mainGlobals "InvalidNetwork") (some (some (.ref 63))),
  fun K => He.eqO (PySem.W.nsIn K mainGlobals "Network") (some (some (.ref 129))),
  fun K => He.eqO (PySem.W.nsIn K mainGlobals "_wall") (some (some (.ref 21))),
  fun K => PySem.W.keepIn K (.ref 21),
  fun K => He.eqO (PySem.W.nsIn K mainGlobals "_check_names") (some (some (.ref 140))),
  fun K => PySem.W.keepIn K (.ref 140),
  fun K => He.eqO (PySem.W.findIn K (.ref 129) "_check_returns") (some (some (.ref 126))),
  fun K => PySem.W.isFn K (.ref 126),
  fun K => PySem.W.keepIn K (.ref 126),
  fun K => He.eqO (PySem.W.nsIn K mainGlobals "_check_row") (some (some (.ref 147))),
  fun K => PySem.W.keepIn K (.ref 147),
  fun K => He.eqO (PySem.W.nsIn K mainGlobals "_ports_by_neighbor") (some (some (.ref 152))),
  fun K => PySem.W.keepIn K (.ref 152),
  fun K => He.eqO (PySem.W.findIn K (.ref 129) "__init__") (some (some (.ref 77))),
  fun K => PySem.W.isFn K (.ref 77),
  fun K => PySem.W.keepIn K (.ref 77),
  fun K => He.eqO (PySem.W.findIn K (.ref 129) "size") (some (some (.ref 84))),
  fun K => PySem.W.isFn K (.ref 84),
  fun K => PySem.W.keepIn K (.ref 84),
  fun K => He.eqO (PySem.W.findIn K (.ref 129) "names") (some (some (.ref 91))),
  fun K => PySem.W.isFn K (.ref 91),
  fun K => PySem.W.keepIn K (.ref 91),
  fun K => He.eqO (PySem.W.findIn K (.ref 129) "neighbors") (some (some (.ref 98))),
  fun K => PySem.W.isFn K (.ref 98)]
def fa1 : List (PySem.W.Frag → Bool) := [fun K => PySem.W.keepIn K (.ref 98),
  fun K => He.eqO (PySem.W.findIn K (.ref 129) "degree") (some (some (.ref 105))),
  fun K => PySem.W.isFn K (.ref 105),
  fun K => PySem.W.keepIn K (.ref 105),
  fun K => He.eqO (PySem.W.findIn K (.ref 129) "far_port") (some (some (.ref 112))),
  fun K => PySem.W.isFn K (.ref 112),
  fun K => PySem.W.keepIn K (.ref 112),
  fun K => He.eqO (PySem.W.findIn K (.ref 129) "links") (some (some (.ref 119))),
  fun K => PySem.W.isFn K (.ref 119),
  fun K => PySem.W.keepIn K (.ref 119),
  fun K => He.eqO (PySem.W.nsIn K mainGlobals "network_text") (some (some (.ref 157))),
  fun K => PySem.W.keepIn K (.ref 157),
  fun K => He.eqO (PySem.W.nsIn K mainGlobals "_lines_of") (some (some (.ref 169))),
  fun K => PySem.W.keepIn K (.ref 169),
  fun K => He.eqO (PySem.W.nsIn K mainGlobals "is_number") (some (some (.ref 188))),
  fun K => PySem.W.keepIn K (.ref 188),
  fun K => He.eqO (PySem.W.nsIn K mainGlobals "_names_in") (some (some (.ref 181))),
  fun K => PySem.W.keepIn K (.ref 181),
  fun K => He.eqO (PySem.W.nsIn K mainGlobals "_read_rows") (some (some (.ref 176))),
  fun K => PySem.W.keepIn K (.ref 176),
  fun K => He.eqO (PySem.W.nsIn K mainGlobals "_check_others") (some (some (.ref 193))),
  fun K => PySem.W.keepIn K (.ref 193),
  fun K => He.eqO (PySem.W.nsIn K mainGlobals "read_network") (some (some (.ref 162))),
  fun K => PySem.W.keepIn K (.ref 162)]
def fa2 : List (PySem.W.Frag → Bool) := [fun K => He.eqO (PySem.W.nsIn K mainGlobals "_law_cell") (some (some (.ref 200))),
  fun K => PySem.W.keepIn K (.ref 200),
  fun K => He.eqO (PySem.W.nsIn K mainGlobals "_law_draw_net") (some (some (.ref 205))),
  fun K => PySem.W.keepIn K (.ref 205),
  fun K => He.eqO (PySem.W.nsIn K mainGlobals "_law_shape_net") (some (some (.ref 210))),
  fun K => PySem.W.keepIn K (.ref 210),
  fun K => He.eqO (PySem.W.nsIn K mainGlobals "_law_net") (some (some (.ref 217))),
  fun K => PySem.W.keepIn K (.ref 217),
  fun K => He.eqO (PySem.W.nsIn K mainGlobals "_law_draws") (some (some (.ref 224))),
  fun K => PySem.W.keepIn K (.ref 224),
  fun K => He.eqO (PySem.W.nsIn K mainGlobals "_law_like") (some (some (.ref 229))),
  fun K => PySem.W.keepIn K (.ref 229),
  fun K => He.eqO (PySem.W.nsIn K mainGlobals "_law_made") (some (some (.ref 234))),
  fun K => PySem.W.keepIn K (.ref 234),
  fun K => He.eqO (PySem.W.nsIn K mainGlobals "_law_drawn") (some (some (.ref 241))),
  fun K => PySem.W.keepIn K (.ref 241),
  fun K => He.eqO (PySem.W.nsIn K mainGlobals "_law_lines") (some (some (.ref 246))),
  fun K => PySem.W.keepIn K (.ref 246),
  fun K => He.eqO (PySem.W.nsIn K mainGlobals "_law_is") (some (some (.ref 251))),
  fun K => PySem.W.keepIn K (.ref 251),
  fun K => He.eqO (PySem.W.nsIn K mainGlobals "law") (some (some (.ref 256))),
  fun K => PySem.W.keepIn K (.ref 256),
  fun K => PySem.W.plainGet K 129 Str.empty,
  fun K => PySem.W.hasDictIn K 129]
def fa3 : List (PySem.W.Frag → Bool) := [fun K => PySem.W.plainOver K 129,
  fun K => He.eqO (PySem.W.findIn K (.ref 129) "__setattr__") (some (some (.builtin "object.__setattr__"))),
  fun K => PySem.W.makesIn K 129,
  fun K => PySem.W.keepIn K (.ref 129),
  fun K => He.eqO (PySem.W.findIn K (.ref 129) "_names") (some none),
  fun K => He.eqO (PySem.W.findIn K (.ref 129) "_neighbors") (some none),
  fun K => He.eqO (PySem.W.findIn K (.ref 129) "_ports") (some none),
  fun K => PySem.W.excIn K 63 [.type "ValueError", .type "Exception", .type "BaseException", .type "object"] "ValueError.__new__",
  fun K => PySem.W.keepIn K (.ref 63),
  fun K => decide (PySem.W.subIn K (.ref 63) (.type "BaseException") = some true),
  fun K => decide (PySem.W.typeIn K (.ref 63) = some (.type "type")),
  fun K => PySem.W.isClsIn K 63,
  fun K => decide (PySem.W.subIn K (.ref 63) (.ref 63) = some true),
  fun K => He.eqO (PySem.W.nsIn K mainGlobals "abs") (some none),
  fun K => He.eqO (PySem.W.nsIn K mainGlobals "all") (some none),
  fun K => He.eqO (PySem.W.nsIn K mainGlobals "bool") (some none),
  fun K => He.eqO (PySem.W.nsIn K mainGlobals "enumerate") (some none),
  fun K => He.eqO (PySem.W.nsIn K mainGlobals "int") (some none),
  fun K => He.eqO (PySem.W.nsIn K mainGlobals "isinstance") (some none),
  fun K => He.eqO (PySem.W.nsIn K mainGlobals "len") (some none),
  fun K => He.eqO (PySem.W.nsIn K mainGlobals "list") (some none),
  fun K => He.eqO (PySem.W.nsIn K mainGlobals "min") (some none),
  fun K => He.eqO (PySem.W.nsIn K mainGlobals "range") (some none),
  fun K => He.eqO (PySem.W.nsIn K mainGlobals "set") (some none)]
def fa4 : List (PySem.W.Frag → Bool) := [fun K => He.eqO (PySem.W.nsIn K mainGlobals "str") (some none),
  fun K => He.eqO (PySem.W.nsIn K mainGlobals "tuple") (some none),
  fun K => intB K "MOST_DIGITS" 9]
abbrev ts : List Addr := []
def fs0 : Fs := [fa0, fa1, fa2, fa3, fa4]
def fa : Fs := fs0
def hfn : List Fd := hfn0
def as0 : List Addr := [2, 3, 20, 21, 30, 31, 47, 48, 50, 51, 62, 63, 76, 77, 83, 84, 90, 91, 97, 98, 104, 105, 111, 112]
def as1 : List Addr := [118, 119, 125, 126, 128, 129, 139, 140, 146, 147, 151, 152, 156, 157, 161, 162, 168, 169, 175, 176, 180, 181, 187, 188]
def as2 : List Addr := [192, 193, 199, 200, 204, 205, 209, 210, 216, 217, 223, 224, 228, 229, 233, 234, 240, 241, 245, 246, 250, 251, 255, 256]
def as : List Addr := as0 ++ (as1 ++ (as2))
def names0 : List PySem.Str := ["_wall", "__name__", "NearbyError", "InvalidText", "InvalidNetwork", "Network", "_check_names", "_check_row", "_ports_by_neighbor", "MOST_DIGITS", "network_text", "read_network", "_lines_of", "_read_rows", "_names_in", "is_number"]
def names1 : List PySem.Str := ["_check_others", "_law_cell", "_law_draw_net", "_law_shape_net", "_law_net", "_law_draws", "_law_like", "_law_made", "_law_drawn", "_law_lines", "_law_is"]
def names : List PySem.Str := names0 ++ (names1)
abbrev R : PySem.W.OpenRow := PySem.W.OpenLaw.row PySem.Challenge.rw_nearby_k05_network_texts
abbrev qv : Program := PySem.W.view R.prog [30]
theorem run0 (w : World) : HandSHeadRun.RunEq R qv (hook as ts fs0 hfn0) (fun s => obsG as ts fs0 hfn0 (HandSHeadRun.getT s)) 60000 names w := by
  intro os
  kernel_rfl
theorem run (w : World) : HandSHeadRun.RunEq R qv (hook as ts fa hfn) (fun s => obsG as ts fa hfn (HandSHeadRun.getT s)) 60000 names w := run0 w
end QK05e
namespace Ab
open PySem PySem.Spec PyProof.Rows L2
structure AbsV where
  rep : Hp → V → Prop
  mono : ∀ {G G' : Hp} {v : V}, Same G G' → rep G v → rep G' v
abbrev PR (G : Hp) : List V → List AbsV → Prop := Paired fun v (r : AbsV) => r.rep G v
theorem PR.mono {G G' : Hp} (s : Same G G') : ∀ {vs : List V} {l : List AbsV}, PR G vs l → PR G' vs l
  | _, _, .nil => .nil
  | _, _, .cons h t => .cons (AbsV.mono _ s h) (PR.mono s t)
theorem PR.get {G : Hp} : ∀ {vs : List V} {l : List AbsV} {i : Nat} {r : AbsV}, PR G vs l → l[i]? = some r → ∃ v, vs[i]? = some v ∧ r.rep G v
  | _, _, i, r, .nil, h => by simp at h
  | _, _, 0, r, .cons a t, h => ⟨_, rfl, by cases (Option.some.inj h); exact a⟩
  | _, _, i + 1, r, .cons a t, h => PR.get (i := i) t h
theorem PR.get' {G : Hp} : ∀ {vs : List V} {l : List AbsV} {i : Nat} {v : V}, PR G vs l → vs[i]? = some v → ∃ r, l[i]? = some r ∧ r.rep G v
  | _, _, i, r, .nil, h => by simp at h
  | _, _, 0, r, .cons a t, h => ⟨_, rfl, by cases (Option.some.inj h); exact a⟩
  | _, _, i + 1, r, .cons a t, h => PR.get' (i := i) t h
theorem PR.append {G : Hp} : ∀ {vs ws : List V} {l m : List AbsV}, PR G vs l → PR G ws m → PR G (vs ++ ws) (l ++ m)
  | _, _, _, _, .nil, h => h
  | _, _, _, _, .cons a t, h => .cons a (PR.append t h)
theorem PR.len {G : Hp} {vs : List V} {l : List AbsV} (h : PR G vs l) : vs.length = l.length := Paired.length h
theorem PR.set {G : Hp} {r : AbsV} {v : V} (h : r.rep G v) : ∀ {vs : List V} {l : List AbsV} (i : Nat), PR G vs l → PR G (vs.set i v) (l.set i r)
  | _, _, i, .nil => .nil
  | _, _, 0, .cons a t => .cons h t
  | _, _, i + 1, .cons a t => .cons a (PR.set h i t)
theorem PR.take {G : Hp} : ∀ {vs : List V} {l : List AbsV} (n : Nat), PR G vs l → PR G (vs.take n) (l.take n)
  | _, _, 0, _ => .nil
  | _, _, n + 1, .nil => .nil
  | _, _, n + 1, .cons a t => .cons a (PR.take n t)
theorem PR.drop {G : Hp} : ∀ {vs : List V} {l : List AbsV} (n : Nat), PR G vs l → PR G (vs.drop n) (l.drop n)
  | _, _, 0, h => h
  | _, _, n + 1, .nil => .nil
  | _, _, n + 1, .cons a t => PR.drop n t
theorem PR.reverse {G : Hp} : ∀ {vs : List V} {l : List AbsV}, PR G vs l → PR G vs.reverse l.reverse
  | _, _, .nil => .nil
  | _, _, .cons a t => by
    rw [List.reverse_cons, List.reverse_cons]
    exact (PR.reverse t).append (.cons a .nil)
def lsA (l : List AbsV) : AbsV := ⟨fun G v => ∃ p vs, v = .ref p ∧ G p = some (.lst vs) ∧ PR G vs l, fun s ⟨p, vs, e, h, r⟩ => ⟨p, vs, e, s _ _ h, r.mono s⟩⟩
def tuA (l : List AbsV) : AbsV := ⟨fun G v => ∃ p vs, v = .ref p ∧ G p = some (.tup vs) ∧ PR G vs l, fun s ⟨p, vs, e, h, r⟩ => ⟨p, vs, e, s _ _ h, r.mono s⟩⟩
def flA (x : V) : AbsV := ⟨fun _ v => v = x, fun _ h => h⟩
abbrev nI (n : Int) : AbsV := flA (.int n)
abbrev nB (b : Bool) : AbsV := flA (.bl b)
abbrev nS (z : Str) : AbsV := flA (.str z)
abbrev nN : AbsV := flA .non
def Pl (o : HO) : Prop := (∀ ps, o ≠ .tbl ps) ∧ ∀ c q, o ≠ LamX.CodeO c q
structure TR where
  rep : Hp → Addr → HO → Prop
  mono : ∀ {G G' : Hp} {p : Addr} {u : HO}, Same G G' → rep G p u → rep G' p u
  pl : ∀ {G : Hp} {p : Addr} {u : HO}, rep G p u → Pl u
  nt : ∀ {G : Hp} {p : Addr} {u : HO}, rep G p u → ∀ xs, u ≠ .tup xs
inductive Slot where
  | un
  | val (r : AbsV)
  | own (l : List AbsV)
  | red (l : List AbsV)
  | scr (ns : List Int)
  | dic (kvs : List (Key × AbsV))
  | dct (kvs : List (List Key × AbsV))
  | thg (q : Option Addr) (R : TR)
  | ins (p C : Addr) (fs : List (Str × AbsV))
  | nst (p : Addr) (qs : List Addr) (L : List (List AbsV))
def Slot.mut : Slot → Bool
  | .own _ | .dic _ | .dct _ | .thg _ _ | .ins _ _ _ | .nst _ _ _ => true
  | _ => false
def Slot.inn : Slot → List Addr
  | .nst _ qs _ => qs
  | _ => []
theorem Slot.inn_of {s : Slot} (h : s.mut = false) : s.inn = [] := by
  cases s <;> first | rfl | cases h
abbrev PK {κ : Type} (G : Hp) : List (κ × V) → List (κ × AbsV) → Prop := Paired fun a b => a.1 = b.1 ∧ b.2.rep G a.2
theorem PK.mono {κ : Type} {G G' : Hp} (s : Same G G') : ∀ {ws : List (κ × V)} {kvs : List (κ × AbsV)}, PK G ws kvs → PK G' ws kvs
  | _, _, .nil => .nil
  | _, _, .cons h t => .cons ⟨h.1, AbsV.mono _ s h.2⟩ (PK.mono s t)
def dcA (kvs : List (Key × AbsV)) : AbsV := ⟨fun G v => ∃ p ws, v = .ref p ∧ G p = some (.dK ws) ∧ PK G ws kvs, fun s ⟨p, vs, e, h, r⟩ => ⟨p, vs, e, s _ _ h, r.mono s⟩⟩
def inA (C : Addr) (fs : List (Str × AbsV)) : AbsV := ⟨fun G v => ∃ p dx ws, v = .ref p ∧ G p = some (.ins C dx ws) ∧ PK G ws fs, fun s ⟨p, dx, vs, e, h, r⟩ => ⟨p, dx, vs, e, s _ _ h, r.mono s⟩⟩
def iaA (p C : Addr) (fs : List (Str × AbsV)) : AbsV := ⟨fun G v => v = .ref p ∧ ∃ dx ws, G p = some (.ins C dx ws) ∧ PK G ws fs, fun s ⟨e, dx, vs, h, r⟩ => ⟨e, dx, vs, s _ _ h, r.mono s⟩⟩
def SlotOk (K : PySem.W.Frag) (B G H : Hp) : Slot → Option V → Prop
  | .un, _ => True
  | .val r, o => ∃ v, o = some v ∧ r.rep G v
  | .own l, o => ∃ p vs, o = some (.ref p) ∧ B p = none ∧ G p = none ∧ H p = some (.lst vs) ∧ PR G vs l
  | .red l, o => ∃ p vs, o = some (.ref p) ∧ B p = some (.lst vs) ∧ PR G vs l
  | .scr ns, o => ∃ p, o = some (.ref p) ∧ SqL K B p (ns.map V.int)
  | .dic kvs, o => ∃ p ws, o = some (.ref p) ∧ B p = none ∧ G p = none ∧ H p = some (.dK ws) ∧ PK G ws kvs
  | .dct kvs, o => ∃ p ws, o = some (.ref p) ∧ B p = none ∧ G p = none ∧ H p = some (.dT ws) ∧ PK G ws kvs
  | .thg q R, o => ∃ p u, o = some (.ref p) ∧ B p = none ∧ G p = none ∧ H p = some u ∧ R.rep G p u ∧ ∀ a, q = some a → p = a
  | .ins p C fs, o => ∃ dx ws, o = some (.ref p) ∧ B p = none ∧ G p = none ∧ H p = some (.ins C dx ws) ∧ PK G ws fs
  | .nst p qs L, o => o = some (.ref p) ∧ B p = none ∧ G p = none ∧ H p = some (.lst (qs.map V.ref)) ∧ Paired (fun q l => B q = none ∧ G q = none ∧ ∃ vs, H q = some (.lst vs) ∧ PR G vs l) qs L ∧ (p :: qs).Nodup
class Tabl where
  tb : List (Addr × Str)
  wd : Option World := none
instance (priority := 10) noTabl : Tabl := { tb := [] }
variable [Tabl]
theorem SlotOk.addrP {K : PySem.W.Frag} {B G H : Hp} : ∀ {s : Slot} {o : Option V}, s.mut = true → SlotOk K B G H s o → ∃ p u, o = some (.ref p) ∧ B p = none ∧ G p = none ∧ H p = some u ∧ Pl u
  | .own _, _, _, ⟨p, vs, e, b, g, h, _⟩ => ⟨p, _, e, b, g, h, ⟨fun _ z => (nomatch z), fun _ _ z => (nomatch z)⟩⟩
  | .dic _, _, _, ⟨p, vs, e, b, g, h, _⟩ => ⟨p, _, e, b, g, h, ⟨fun _ z => (nomatch z), fun _ _ z => (nomatch z)⟩⟩
  | .dct _, _, _, ⟨p, vs, e, b, g, h, _⟩ => ⟨p, _, e, b, g, h, ⟨fun _ z => (nomatch z), fun _ _ z => (nomatch z)⟩⟩
  | .thg _ R, _, _, ⟨p, u, e, b, g, h, r, _⟩ => ⟨p, u, e, b, g, h, R.pl r⟩
  | .ins p _ _, _, _, ⟨_, vs, e, b, g, h, _⟩ => ⟨p, _, e, b, g, h, ⟨fun _ z => (nomatch z), fun _ _ z => (nomatch z)⟩⟩
  | .nst p _ _, _, _, ⟨e, b, g, h, _⟩ => ⟨p, _, e, b, g, h, ⟨fun _ z => (nomatch z), fun _ _ z => (nomatch z)⟩⟩
  | .un, _, h, _ => by cases h
  | .val _, _, h, _ => by cases h
  | .red _, _, h, _ => by cases h
  | .scr _, _, h, _ => by cases h
theorem SlotOk.addr {K : PySem.W.Frag} {B G H : Hp} : ∀ {s : Slot} {o : Option V}, s.mut = true → SlotOk K B G H s o → ∃ p u, o = some (.ref p) ∧ B p = none ∧ G p = none ∧ H p = some u
  | .own _, _, _, ⟨p, vs, e, b, g, h, _⟩ => ⟨p, _, e, b, g, h⟩
  | .dic _, _, _, ⟨p, vs, e, b, g, h, _⟩ => ⟨p, _, e, b, g, h⟩
  | .dct _, _, _, ⟨p, vs, e, b, g, h, _⟩ => ⟨p, _, e, b, g, h⟩
  | .thg _ _, _, _, ⟨p, u, e, b, g, h, _⟩ => ⟨p, u, e, b, g, h⟩
  | .ins p _ _, _, _, ⟨_, vs, e, b, g, h, _⟩ => ⟨p, _, e, b, g, h⟩
  | .nst p _ _, _, _, ⟨e, b, g, h, _⟩ => ⟨p, _, e, b, g, h⟩
  | .un, _, h, _ => by cases h
  | .val _, _, h, _ => by cases h
  | .red _, _, h, _ => by cases h
  | .scr _, _, h, _ => by cases h
theorem _root_.LamX.TabS.by {X Y : Hp} {P : Addr} {q : Str} (t : LamX.TabS X P q) (h : ∀ a o, ¬ Pl o → X a = some o → Y a = some o) : LamX.TabS Y P q := by
  obtain ⟨ps, h1, h2, h3⟩ := t
  refine ⟨ps, h _ _ (fun z => z.1 _ rfl) h1, h2, fun pos cv z => ?_⟩
  obtain ⟨c, ec, hc⟩ := h3 pos cv z
  exact ⟨c, ec, h _ _ (fun z => z.2 _ _ rfl) hc⟩
theorem pl_lst {vs : List V} : Pl (.lst vs) := ⟨fun _ z => (nomatch z), fun _ _ z => (nomatch z)⟩
structure Grow (H H' : Hp) : Prop where
  k : ∀ b o, H b = some o → (∀ ps, o ≠ .tbl ps) → H' b = some o
  t : ∀ b ps, H b = some (.tbl ps) → ∃ qs, H' b = some (.tbl qs)
  s : ∀ p ∈ Tabl.tb, LamX.TabS H p.1 p.2 → LamX.TabS H' p.1 p.2
theorem grow_of {H H' : Hp} (s : Same H H') : Grow H H' := ⟨fun b o e _ => s b o e, fun b ps e => ⟨ps, s b _ e⟩, fun _ _ t => t.ext s⟩
theorem Grow.refl (H : Hp) : Grow H H := grow_of (Same.refl H)
theorem Grow.trans {H H1 H2 : Hp} (a : Grow H H1) (b : Grow H1 H2) : Grow H H2 :=
  ⟨fun c o e n => b.k c o (a.k c o e n) n, fun c ps e => by
    obtain ⟨qs, e1⟩ := a.t c ps e
    exact b.t c qs e1, fun p hp t => b.s p hp (a.s p hp t)⟩
theorem Grow.at {H H' : Hp} (s : Grow H H') (b : Addr) (o : HO) (e : H b = some o) (n : ∀ ps, o ≠ .tbl ps := by exact fun _ z => nomatch z) : H' b = some o := s.k b o e n
theorem Grow.some {H H' : Hp} {b : Addr} (s : Grow H H') (h : H b ≠ none) : H' b ≠ none := fun z => by
  cases e : H b with
  | none => exact h e
  | some o =>
    by_cases n : ∀ ps, o ≠ .tbl ps
    · rw [s.k b o e n] at z; cases z
    · obtain ⟨ps, hp⟩ := Classical.not_forall.mp n
      have hp := Classical.not_not.mp hp
      subst hp
      obtain ⟨qs, e1⟩ := s.t b ps e
      rw [e1] at z; cases z
theorem Grow.free {H H' : Hp} {b : Addr} (s : Grow H H') (h : H' b = none) : H b = none := by
  cases e : H b with
  | none => rfl
  | some o => exact absurd h (s.some (by rw [e]; exact fun z => nomatch z))
theorem Grow.seq {K : PySem.W.Frag} {H H' : Hp} {p : Addr} {vs : List V} (s : Grow H H') (h : SqL K H p vs) : SqL K H' p vs := by
  refine h.imp (fun z => z.imp (fun z => s.at _ _ z) fun ⟨o, z⟩ => ⟨o, s.at _ _ z⟩) fun z => z
theorem Grow.mut {H H' : Hp} {D : Addr} {o : HO} (x : Grow H H') (h : H D = none) (hD : ∀ u, H' D = .some u → Pl u) : Grow H (upd H' D o) :=
  ⟨fun b u e n => by rw [upd_ne (ne_of_none e h)]; exact x.k b u e n, fun b ps e => by rw [upd_ne (ne_of_none e h)]; exact x.t b ps e, fun p hp t => by
    have t' := x.s p hp t
    obtain ⟨ps, h1, h2, h3⟩ := t
    obtain ⟨qs, e1, e2, e3⟩ := t'
    refine ⟨qs, by rw [upd_ne (ne_of_none h1 h)]; exact e1, e2, fun pos cv z => ?_⟩
    obtain ⟨c, ec, hc⟩ := e3 pos cv z
    refine ⟨c, ec, ?_⟩
    rw [upd_ne (fun z => by subst z; exact (hD _ hc).2 _ _ rfl)]; exact hc⟩
theorem _root_.LamX.TabS.upd {H : Hp} {P : Addr} {q : Str} {D : Addr} {u o : HO} (t : LamX.TabS H P q) (hD : H D = some u) (pl : Pl u) : LamX.TabS (L2.upd H D o) P q := by
  obtain ⟨ps, h1, h2, h3⟩ := t
  refine ⟨ps, by rw [upd_ne (fun z => by subst z; rw [hD] at h1; cases h1; exact pl.1 _ rfl)]; exact h1, h2, fun pos cv z => ?_⟩
  obtain ⟨c, ec, hc⟩ := h3 pos cv z
  exact ⟨c, ec, by rw [upd_ne (fun z => by subst z; rw [hD] at hc; cases hc; exact pl.2 _ _ rfl)]; exact hc⟩
def Fx (H : Hp) (p : Addr) : Prop := ∃ u, H p = some u ∧ ∀ xs, u ≠ .tup xs
theorem fx {H : Hp} {p : Addr} {u : HO} (h : H p = some u) (n : ∀ xs, u ≠ .tup xs := by exact fun _ z => (nomatch z)) : Fx H p := ⟨u, h, n⟩
theorem Fx.ne {H : Hp} {p : Addr} (h : Fx H p) : H p ≠ none := by obtain ⟨u, e, _⟩ := h; rw [e]; exact fun z => nomatch z
theorem Fx.grow {H H' : Hp} {p : Addr} (s : Grow H H') (h : Fx H p) : Fx H' p := by
  obtain ⟨u, e, n⟩ := h
  by_cases t : ∃ ps, u = .tbl ps
  · obtain ⟨ps, rfl⟩ := t
    obtain ⟨qs, e1⟩ := s.t p ps e
    exact fx e1
  · exact ⟨u, s.k p u e (fun ps z => t ⟨ps, z⟩), n⟩
structure Ext (G H G' H' : Hp) : Prop where
  g : Same G G'
  h : Grow H H'
  gh : Same G' H'
  n : ∀ p, Fx H p → G p = none → G' p = none
theorem Ext.refl {G H : Hp} (gh : Same G H) : Ext G H G H := ⟨Same.refl _, Grow.refl _, gh, fun _ _ h => h⟩
theorem some_of_same {H H' : Hp} {p : Addr} (s : Grow H H') (h : Fx H p) : Fx H' p := h.grow s
theorem Ext.trans {G H G1 H1 G2 H2 : Hp} (a : Ext G H G1 H1) (b : Ext G1 H1 G2 H2) : Ext G H G2 H2 :=
  ⟨a.g.trans b.g, a.h.trans b.h, b.gh, fun p h e => b.n p (some_of_same a.h h) (a.n p h e)⟩
theorem Ext.new {G H : Hp} {p : Addr} {o : HO} (gh : Same G H) (h : H p = none) : Ext G H (upd G p o) (upd H p o) := by
  have g : G p = none := gh.free h
  refine ⟨fun b u e => ?_, grow_of fun b u e => ?_, fun b u e => ?_, fun q hq e => ?_⟩
  · rw [upd_ne (ne_of_none e g)]; exact e
  · rw [upd_ne (ne_of_none e h)]; exact e
  · by_cases z : b = p
    · subst z; rw [upd_same] at e ⊢; exact e
    · rw [upd_ne z] at e ⊢; exact gh b u e
  · have z : q ≠ p := fun z => hq.ne (by rw [z]; exact h)
    rw [upd_ne z]; exact e
theorem Ext.newO {G H : Hp} {p : Addr} {o : HO} (gh : Same G H) (h : H p = none) : Ext G H G (upd H p o) :=
  ⟨Same.refl _, grow_of fun b u e => by rw [upd_ne (ne_of_none e h)]; exact e, fun b u e => by rw [upd_ne (ne_of_none (gh b u e) h)]; exact gh b u e, fun _ _ e => e⟩
theorem Ext.freeze {G H G' H' : Hp} {p : Addr} {u : HO} (x : Ext G H G' H') (h : H p = none) (g' : G' p = none) (h' : H' p = some u) : Ext G H (upd G' p u) H' := by
  refine ⟨fun b u e => ?_, x.h, fun b u e => ?_, fun q hq e => ?_⟩
  · have e' := x.g b u e
    rw [upd_ne (ne_of_none e' g')]; exact e'
  · by_cases z : b = p
    · subst z; rw [upd_same] at e; rw [h']; exact e
    · rw [upd_ne z] at e; exact x.gh b u e
  · have z : q ≠ p := fun z => hq.ne (by rw [z]; exact h)
    rw [upd_ne z]; exact x.n q hq e
structure OkB (B G0 G H : Hp) : Prop where
  bh : Grow B H
  gh : Same G H
  g0 : Same G0 G
  nb : ∀ p, Fx B p → G0 p = none → G p = none
theorem OkB.ext {B G0 G H G' H' : Hp} (k : OkB B G0 G H) (x : Ext G H G' H') : OkB B G0 G' H' :=
  ⟨k.bh.trans x.h, x.gh, k.g0.trans x.g, fun p h e => x.n p (some_of_same k.bh h) (k.nb p h e)⟩
def TbOk (K : PySem.W.Frag) (G H : Hp) : Prop := ∀ p ∈ Tabl.tb, LamX.TabS H p.1 p.2 ∧ G p.1 = none
theorem TbOk.ext {K : PySem.W.Frag} {G H G' H' : Hp} (t : TbOk K G H) (x : Ext G H G' H') : TbOk K G' H' := fun p hp =>
  ⟨x.h.s p hp (t p hp).1, x.n _ (by obtain ⟨ps, e, _⟩ := (t p hp).1; exact fx e) (t p hp).2⟩
structure Gd (K : PySem.W.Frag) (G H : Hp) : Prop where
  s : Same G H
  tb : TbOk K G H
theorem Gd.ext {K : PySem.W.Frag} {G H G' H' : Hp} (t : Gd K G H) (x : Ext G H G' H') : Gd K G' H' := ⟨x.gh, t.tb.ext x⟩
structure Ok (K : PySem.W.Frag) (B G0 : Hp) (E : List Slot) (σ : L2.St) (G H : Hp) : Prop extends OkB B G0 G H where
  tb : TbOk K G H
  sl : Paired (SlotOk K B G H) E σ
  ds : ∀ (i j : Nat) (p : Addr) (s s' : Slot), E[i]? = some s → E[j]? = some s' → s.mut = true → s'.mut = true → σ[i]? = some (some (.ref p)) → σ[j]? = some (some (.ref p)) → i = j
  dn : ∀ (i j : Nat) (q : Addr) (s s' : Slot), E[i]? = some s → E[j]? = some s' → s'.mut = true → q ∈ s.inn → σ[j]? ≠ some (some (.ref q)) ∧ (q ∈ s'.inn → i = j)
theorem P_get {α β : Type} {F : α → β → Prop} : ∀ {as : List α} {bs : List β} {i : Nat} {a : α}, Paired F as bs → as[i]? = some a → ∃ b, bs[i]? = some b ∧ F a b
  | _, _, i, r, .nil, h => by simp at h
  | _, _, 0, r, .cons a t, h => ⟨_, rfl, by cases (Option.some.inj h); exact a⟩
  | _, _, i + 1, r, .cons a t, h => P_get (i := i) t h
theorem P_set {α β : Type} {F : α → β → Prop} {a : α} {b : β} (h : F a b) : ∀ {as : List α} {bs : List β} (i : Nat), Paired F as bs → Paired F (as.set i a) (bs.set i b)
  | _, _, i, .nil => .nil
  | _, _, 0, .cons _ t => .cons h t
  | _, _, i + 1, .cons c t => .cons c (P_set h i t)
theorem P_mono {α β : Type} {F F' : α → β → Prop} (hm : ∀ a b, F a b → F' a b) : ∀ {as : List α} {bs : List β}, Paired F as bs → Paired F' as bs
  | _, _, .nil => .nil
  | _, _, .cons c t => .cons (hm _ _ c) (P_mono hm t)
theorem SlotOk.ext {K : PySem.W.Frag} {B G H G' H' : Hp} (bh : Grow B H) (gh : Same G H) (x : Ext G H G' H') : ∀ (s : Slot) (o : Option V), SlotOk K B G H s o → SlotOk K B G' H' s o
  | .un, _, _ => trivial
  | .val r, _, ⟨v, e, h⟩ => ⟨v, e, r.mono x.g h⟩
  | .own l, _, ⟨p, vs, e, b, g, h, q⟩ => ⟨p, vs, e, b, x.n p (fx h) g, x.h.at _ _ h, q.mono x.g⟩
  | .red l, _, ⟨p, vs, e, b, q⟩ => ⟨p, vs, e, b, q.mono x.g⟩
  | .scr ns, _, h => h
  | .dic l, _, ⟨p, vs, e, b, g, h, q⟩ => ⟨p, vs, e, b, x.n p (fx h) g, x.h.at _ _ h, q.mono x.g⟩
  | .dct l, _, ⟨p, vs, e, b, g, h, q⟩ => ⟨p, vs, e, b, x.n p (fx h) g, x.h.at _ _ h, q.mono x.g⟩
  | .thg q R, _, ⟨p, u, e, b, g, h, r, f⟩ => ⟨p, u, e, b, x.n p (fx h (R.nt r)) g, x.h.at _ _ h (R.pl r).1, R.mono x.g r, f⟩
  | .ins p C l, _, ⟨dx, vs, e, b, g, h, q⟩ => ⟨dx, vs, e, b, x.n p (fx h) g, x.h.at _ _ h, q.mono x.g⟩
  | .nst p qs L, _, ⟨e, b, g, h, q, nd⟩ => ⟨e, b, x.n p (fx h) g, x.h.at _ _ h, P_mono (fun q l ⟨b1, g1, vs, h1, r1⟩ => ⟨b1, x.n q (fx h1) g1, vs, x.h.at _ _ h1, r1.mono x.g⟩) q, nd⟩
theorem Ok.ext {K : PySem.W.Frag} {B G0 G H G' H' : Hp} {E : List Slot} {σ : L2.St} (k : Ok K B G0 E σ G H) (x : Ext G H G' H') : Ok K B G0 E σ G' H' :=
  ⟨k.toOkB.ext x, k.tb.ext x, P_mono (SlotOk.ext k.bh k.gh x) k.sl, k.ds, k.dn⟩
theorem Ok.gd {K : PySem.W.Frag} {B G0 G H : Hp} {E : List Slot} {σ : L2.St} (k : Ok K B G0 E σ G H) : Gd K G H := ⟨k.gh, k.tb⟩
theorem P_len {α β : Type} {F : α → β → Prop} : ∀ {as : List α} {bs : List β}, Paired F as bs → as.length = bs.length
  | _, _, .nil => rfl
  | _, _, .cons _ t => congrArg (· + 1) (P_len t)
theorem P_of {α β : Type} {F : α → β → Prop} : ∀ {as : List α} {bs : List β}, as.length = bs.length → (∀ (i : Nat) (a : α) (b : β), as[i]? = some a → bs[i]? = some b → F a b) → Paired F as bs
  | [], [], _, _ => .nil
  | [], _ :: _, h, _ => by cases h
  | _ :: _, [], h, _ => by cases h
  | a :: as, b :: bs, h, q => .cons (q 0 a b rfl rfl) (P_of (Nat.succ.inj h) fun i x y hx hy => q (i + 1) x y hx hy)
theorem get_set {α : Type} {E : List α} {i a : Nat} {s n : α} (h : (E.set i s)[a]? = some n) : (a = i ∧ n = s) ∨ (i ≠ a ∧ E[a]? = some n) := by
  by_cases z : i = a
  · subst z
    by_cases hl : i < E.length
    · rw [List.getElem?_set_self hl] at h; cases h; exact .inl ⟨rfl, rfl⟩
    · rw [List.getElem?_eq_none (by simpa using hl)] at h; cases h
  · rw [List.getElem?_set_ne z] at h
    exact .inr ⟨z, h⟩
theorem Ok.set {K : PySem.W.Frag} {B G0 G H : Hp} {E : List Slot} {σ : L2.St} {s : Slot} {o : Option V} (k : Ok K B G0 E σ G H) (i : Nat) (h : SlotOk K B G H s o) (hn : s.mut = false) : Ok K B G0 (E.set i s) (σ.set i o) G H := by
  refine ⟨k.toOkB, k.tb, P_set h i k.sl, fun a b p l l' ea eb ma mb sa sb => ?_, fun a b q l l' ea eb mb hq => ?_⟩
  · rcases get_set ea with ⟨_, rfl⟩ | ⟨na, ea⟩
    · rw [hn] at ma; cases ma
    · rcases get_set eb with ⟨_, rfl⟩ | ⟨nb, eb⟩
      · rw [hn] at mb; cases mb
      · rw [List.getElem?_set_ne na] at sa
        rw [List.getElem?_set_ne nb] at sb
        exact k.ds a b p l l' ea eb ma mb sa sb
  · rcases get_set ea with ⟨_, rfl⟩ | ⟨na, ea⟩
    · rw [Slot.inn_of hn] at hq; cases hq
    · rcases get_set eb with ⟨_, rfl⟩ | ⟨nb, eb⟩
      · rw [hn] at mb; cases mb
      · rw [List.getElem?_set_ne nb]
        exact k.dn a b q l l' ea eb mb hq
theorem Ok.setM {K : PySem.W.Frag} {B G0 G H : Hp} {E : List Slot} {σ : L2.St} {p : Addr} {s : Slot} (k : Ok K B G0 E σ G H) (i : Nat) (h : SlotOk K B G H s (some (.ref p)))
    (hn : ∀ (j : Nat) (s' : Slot), j ≠ i → E[j]? = some s' → s'.mut = true → σ[j]? ≠ some (some (.ref p)) ∧ p ∉ s'.inn) (hi : s.inn = [] := by rfl) : Ok K B G0 (E.set i s) (σ.set i (some (.ref p))) G H := by
  have hl : E.length = σ.length := P_len k.sl
  have mutOf : ∀ {l : Slot} {q : Addr}, q ∈ l.inn → l.mut = true := fun {l q} hq => by
    cases l <;> first | rfl | cases hq
  refine ⟨k.toOkB, k.tb, P_set h i k.sl, fun a c r m m' ea ec ma mc sa sc => ?_, fun a c q m m' ea ec mc hq => ?_⟩
  · rcases get_set ea with ⟨rfl, rfl⟩ | ⟨na, ea1⟩
    · have hla : a < σ.length := by
        have := (List.getElem?_eq_some_iff.mp sa).1
        simpa using this
      rw [List.getElem?_set_self hla] at sa
      cases sa
      rcases get_set ec with ⟨rfl, rfl⟩ | ⟨nc, ec1⟩
      · rfl
      · rw [List.getElem?_set_ne nc] at sc
        exact absurd sc (hn c m' (fun z => nc z.symm) ec1 mc).1
    · rw [List.getElem?_set_ne na] at sa
      rcases get_set ec with ⟨rfl, rfl⟩ | ⟨nc, ec1⟩
      · have hlc : c < σ.length := by
          have := (List.getElem?_eq_some_iff.mp sc).1
          simpa using this
        rw [List.getElem?_set_self hlc] at sc
        cases sc
        exact absurd sa (hn a m (fun z => na z.symm) ea1 ma).1
      · rw [List.getElem?_set_ne nc] at sc
        exact k.ds a c r m m' ea1 ec1 ma mc sa sc
  · rcases get_set ea with ⟨rfl, rfl⟩ | ⟨na, ea1⟩
    · rw [hi] at hq; cases hq
    · rcases get_set ec with ⟨rfl, rfl⟩ | ⟨nc, ec1⟩
      · refine ⟨fun z => ?_, fun z => by rw [hi] at z; cases z⟩
        have hlc : c < σ.length := by
          have := (List.getElem?_eq_some_iff.mp z).1
          simpa using this
        rw [List.getElem?_set_self hlc] at z
        cases z
        exact (hn a m (fun z => na z.symm) ea1 (mutOf hq)).2 hq
      · rw [List.getElem?_set_ne nc]
        exact k.dn a c q m m' ea1 ec1 mc hq
theorem P_mem {α β : Type} {F : α → β → Prop} {a : α} : ∀ {as : List α} {bs : List β}, Paired F as bs → a ∈ as → ∃ b, F a b
  | _, _, .nil, h => by cases h
  | _, _, .cons x t, h => by
    rcases List.mem_cons.mp h with e | e
    · rw [e]; exact ⟨_, x⟩
    · exact P_mem t e
theorem Ok.fresh {K : PySem.W.Frag} {B G0 G H : Hp} {E : List Slot} {σ : L2.St} {p : Addr} {j : Nat} {s : Slot} (k : Ok K B G0 E σ G H) (hp : H p = none) (e : E[j]? = some s) (m : s.mut = true) : σ[j]? ≠ some (some (.ref p)) ∧ p ∉ s.inn := by
  obtain ⟨o, e1, so⟩ := P_get k.sl e
  refine ⟨fun z => ?_, fun z => ?_⟩
  · obtain ⟨p', u, e2, _, _, h'⟩ := so.addr m
    rw [e1, e2] at z
    cases z
    rw [hp] at h'; cases h'
  · cases s with
    | nst p' qs L =>
      obtain ⟨_, _, _, _, q, _⟩ := so
      obtain ⟨l, _, _, vs, h1, _⟩ := P_mem q z
      rw [hp] at h1; cases h1
    | _ => cases z
theorem Ok.updM {K : PySem.W.Frag} {B G0 G H : Hp} {E : List Slot} {σ : L2.St} {i : Nat} {p : Addr} {s s' : Slot} {u : HO} (k : Ok K B G0 E σ G H) (h : E[i]? = some s) (hm : s.mut = true) (e : σ[i]? = some (some (.ref p))) (hs : SlotOk K B G (upd H p u) s' (some (.ref p))) (hi : s'.inn = s.inn := by rfl) : Ok K B G0 (E.set i s') σ G (upd H p u) := by
  obtain ⟨o, eO, so⟩ := P_get k.sl h
  obtain ⟨pO, u0, e2, b, g, hh, pl⟩ := so.addrP hm
  rw [e] at eO
  have e3 := Option.some.inj eO
  rw [e2] at e3
  clear eO
  cases e3
  have hl : i < E.length := (List.getElem?_eq_some_iff.mp h).1
  refine ⟨⟨k.bh.mut b (fun v z => by rw [hh] at z; cases z; exact pl), fun b' u z => ?_, k.g0, k.nb⟩, fun t ht => ⟨?_, (k.tb t ht).2⟩, ?_, fun a c r n n' ea ec ma mc sa sc => ?_, fun a c q n n' ea ec mc hq => ?_⟩
  · rw [upd_ne (ne_of_none z g)]; exact k.gh b' u z
  · exact (k.tb t ht).1.upd hh pl
  · refine P_of (by rw [List.length_set]; exact P_len k.sl) fun j t o hs' ho => ?_
    by_cases hj : i = j
    · subst hj
      rw [List.getElem?_set_self hl] at hs'
      rw [e] at ho
      cases hs'; cases ho
      exact hs
    · rw [List.getElem?_set_ne hj] at hs'
      obtain ⟨o', eo, so'⟩ := P_get k.sl hs'
      have hoo : o' = o := by rw [eo] at ho; exact Option.some.inj ho
      rw [hoo] at so'
      have np : ∀ p' : Addr, t.mut = true → o = some (V.ref p') → p' ≠ p := fun p' mt e' z => by
        rw [z] at e'
        exact hj (k.ds i j p s t h hs' hm mt e (by rw [ho, e']))
      cases t with
      | un => trivial
      | val r' => exact so'
      | own l' =>
        obtain ⟨p', vs', e', b', g', h', pr'⟩ := so'
        exact ⟨p', vs', e', b', g', by rw [upd_ne (np p' rfl e')]; exact h', pr'⟩
      | dic l' =>
        obtain ⟨p', vs', e', b', g', h', pr'⟩ := so'
        exact ⟨p', vs', e', b', g', by rw [upd_ne (np p' rfl e')]; exact h', pr'⟩
      | dct l' =>
        obtain ⟨p', vs', e', b', g', h', pr'⟩ := so'
        exact ⟨p', vs', e', b', g', by rw [upd_ne (np p' rfl e')]; exact h', pr'⟩
      | thg q' R' =>
        obtain ⟨p', u', e', b', g', h', pr'⟩ := so'
        exact ⟨p', u', e', b', g', by rw [upd_ne (np p' rfl e')]; exact h', pr'⟩
      | ins p' C l' =>
        obtain ⟨dx', vs', e', b', g', h', pr'⟩ := so'
        exact ⟨dx', vs', e', b', g', by rw [upd_ne (np p' rfl e')]; exact h', pr'⟩
      | nst p' qs L =>
        obtain ⟨e', b', g', h', q', nd'⟩ := so'
        have nq : ∀ q ∈ qs, q ≠ p := fun q hq z => by
          subst z
          exact (k.dn j i q _ s hs' h hm hq).1 e
        have all : ∀ {as : List Addr} {L : List (List AbsV)}, (∀ q ∈ as, q ≠ p) → Paired (fun q l => B q = none ∧ G q = none ∧ ∃ vs, H q = some (.lst vs) ∧ PR G vs l) as L → Paired (fun q l => B q = none ∧ G q = none ∧ ∃ vs, (upd H p u) q = some (.lst vs) ∧ PR G vs l) as L := fun {as L} ha hp => by
          induction hp with
          | nil => exact .nil
          | cons x t ih =>
            obtain ⟨b1, g1, vs, h1, r1⟩ := x
            have n1 := ha _ (List.mem_cons_self ..)
            exact .cons ⟨b1, g1, vs, by rw [upd_ne n1]; exact h1, r1⟩ (ih fun q hq => ha q (List.mem_cons_of_mem _ hq))
        exact ⟨e', b', g', by rw [upd_ne (np p' rfl e')]; exact h', all nq q', nd'⟩
      | red l' => exact so'
      | scr ns => exact so'
  · have own : ∀ (a : Nat) (n : Slot), (E.set i s')[a]? = some n → n.mut = true → ∃ n', E[a]? = some n' ∧ n'.mut = true := fun a n ea ma => by
      by_cases z : i = a
      · subst z; exact ⟨s, h, hm⟩
      · rw [List.getElem?_set_ne z] at ea; exact ⟨n, ea, ma⟩
    obtain ⟨n1, ea', m1⟩ := own a n ea ma
    obtain ⟨n2, ec', m2⟩ := own c n' ec mc
    exact k.ds a c r n1 n2 ea' ec' m1 m2 sa sc
  · have own : ∀ (a : Nat) (n : Slot), (E.set i s')[a]? = some n → ∃ n', E[a]? = some n' ∧ n'.inn = n.inn ∧ (n.mut = true → n'.mut = true) := fun a n ea => by
      rcases get_set ea with ⟨rfl, rfl⟩ | ⟨_, ea⟩
      · exact ⟨s, h, hi.symm, fun _ => hm⟩
      · exact ⟨n, ea, rfl, fun z => z⟩
    obtain ⟨n1, ea', i1, _⟩ := own a n ea
    obtain ⟨n2, ec', i2, m2⟩ := own c n' ec
    rw [← i1] at hq
    rw [← i2]
    exact k.dn a c q n1 n2 ea' ec' (m2 mc) hq
theorem Ok.freezeM {K : PySem.W.Frag} {B G0 G H : Hp} {E : List Slot} {σ : L2.St} {i : Nat} {p : Addr} {s : Slot} {u : HO} {r : AbsV} (k : Ok K B G0 E σ G H) (h : E[i]? = some s) (hm : s.mut = true) (e : σ[i]? = some (some (.ref p))) (hu : H p = some u) (hr : r.rep (upd G p u) (.ref p)) (hi : s.inn = [] := by rfl) : Ok K B G0 (E.set i (.val r)) σ (upd G p u) H := by
  obtain ⟨o, eO, so⟩ := P_get k.sl h
  obtain ⟨pO, u0, e2, b, g, hh, pl⟩ := so.addrP hm
  rw [e] at eO
  have e3 := Option.some.inj eO
  rw [e2] at e3
  clear eO
  cases e3
  have hl : i < E.length := (List.getElem?_eq_some_iff.mp h).1
  have sg : Same G (upd G p u) := fun b u' e => by rw [upd_ne (ne_of_none e g)]; exact e
  have bb : OkB B G0 (upd G p u) H := ⟨k.bh, fun b u' e => by
      by_cases z : b = p
      · subst z; rw [upd_same] at e; rw [hu]; exact e
      · rw [upd_ne z] at e; exact k.gh b u' e, k.g0.trans sg, fun q' hq e => by
      have z : q' ≠ p := fun z => hq.ne (by rw [z]; exact b)
      rw [upd_ne z]; exact k.nb q' hq e⟩
  refine ⟨bb, fun t ht => ⟨(k.tb t ht).1, by
      obtain ⟨ps, e1, _⟩ := (k.tb t ht).1
      rw [upd_ne (fun z => by rw [z, hh] at e1; cases e1; exact pl.1 _ rfl)]; exact (k.tb t ht).2⟩, P_of (by rw [List.length_set]; exact P_len k.sl) fun j t o hs' ho => ?_, fun a c ra m m' ea ec ma mc sa sc => ?_, fun a c q m m' ea ec mc hq => ?_⟩
  · by_cases hj : i = j
    · subst hj
      rw [List.getElem?_set_self hl] at hs'
      rw [e] at ho
      cases hs'; cases ho
      exact ⟨_, rfl, hr⟩
    · rw [List.getElem?_set_ne hj] at hs'
      obtain ⟨o', eo, so'⟩ := P_get k.sl hs'
      have hoo : o' = o := by rw [eo] at ho; exact Option.some.inj ho
      rw [hoo] at so'
      have np : ∀ p' : Addr, t.mut = true → o = some (V.ref p') → p' ≠ p := fun p' mt e' z => by
        rw [z] at e'
        exact hj (k.ds i j p s t h hs' hm mt e (by rw [ho, e']))
      cases t with
      | un => trivial
      | val r' => obtain ⟨v, e, rv⟩ := so'; exact ⟨v, e, r'.mono sg rv⟩
      | own l' =>
        obtain ⟨p', vs', e', b', g', h', pr'⟩ := so'
        exact ⟨p', vs', e', b', by rw [upd_ne (np p' rfl e')]; exact g', h', pr'.mono sg⟩
      | dic l' =>
        obtain ⟨p', vs', e', b', g', h', pr'⟩ := so'
        exact ⟨p', vs', e', b', by rw [upd_ne (np p' rfl e')]; exact g', h', pr'.mono sg⟩
      | dct l' =>
        obtain ⟨p', vs', e', b', g', h', pr'⟩ := so'
        exact ⟨p', vs', e', b', by rw [upd_ne (np p' rfl e')]; exact g', h', pr'.mono sg⟩
      | thg q' R' =>
        obtain ⟨p', u', e', b', g', h', pr', f'⟩ := so'
        exact ⟨p', u', e', b', by rw [upd_ne (np p' rfl e')]; exact g', h', R'.mono sg pr', f'⟩
      | ins p' C l' =>
        obtain ⟨dx', vs', e', b', g', h', pr'⟩ := so'
        exact ⟨dx', vs', e', b', by rw [upd_ne (np p' rfl e')]; exact g', h', pr'.mono sg⟩
      | nst p' qs L =>
        obtain ⟨e', b', g', h', q', nd'⟩ := so'
        have nq : ∀ q ∈ qs, q ≠ p := fun q hq z => by
          subst z
          exact (k.dn j i q _ s hs' h hm hq).1 e
        have all : ∀ {as : List Addr} {L : List (List AbsV)}, (∀ q ∈ as, q ≠ p) → Paired (fun q l => B q = none ∧ G q = none ∧ ∃ vs, H q = some (.lst vs) ∧ PR G vs l) as L → Paired (fun q l => B q = none ∧ (upd G p u) q = none ∧ ∃ vs, H q = some (.lst vs) ∧ PR (upd G p u) vs l) as L := fun {as L} ha hp => by
          induction hp with
          | nil => exact .nil
          | cons x t ih =>
            obtain ⟨b1, g1, vs, h1, r1⟩ := x
            have n1 := ha _ (List.mem_cons_self ..)
            exact .cons ⟨b1, by rw [upd_ne n1]; exact g1, vs, h1, r1.mono sg⟩ (ih fun q hq => ha q (List.mem_cons_of_mem _ hq))
        exact ⟨e', b', by rw [upd_ne (np p' rfl e')]; exact g', h', all nq q', nd'⟩
      | red l' => obtain ⟨p', vs', e', b', pr'⟩ := so'; exact ⟨p', vs', e', b', pr'.mono sg⟩
      | scr ns => exact so'
  · have na : i ≠ a := fun z => by subst z; rw [List.getElem?_set_self hl] at ea; cases ea; cases ma
    have nc : i ≠ c := fun z => by subst z; rw [List.getElem?_set_self hl] at ec; cases ec; cases mc
    rw [List.getElem?_set_ne na] at ea
    rw [List.getElem?_set_ne nc] at ec
    exact k.ds a c _ m m' ea ec ma mc sa sc
  · rcases get_set ea with ⟨rfl, rfl⟩ | ⟨na, ea⟩
    · cases hq
    · rcases get_set ec with ⟨rfl, rfl⟩ | ⟨nc, ec⟩
      · cases mc
      · exact k.dn a c q m m' ea ec mc hq
end Ab
namespace Ab
variable [Ab.Tabl]
open PySem PySem.Spec PyProof.Rows L2
def EV (K : PySem.W.Frag) (E : List Slot) (te : TE) (r : AbsV) : Prop := ∀ (B G0 : Hp) (σ : L2.St) (G H : Hp), Ok K B G0 E σ G H → ∀ Q : VK, (∀ v G' H', Ext G H G' H' → r.rep G' v → Q v H') → te σ H Q
def EVF (K : PySem.W.Frag) (E : List Slot) (te : TE) (l : List AbsV) : Prop := ∀ (B G0 : Hp) (σ : L2.St) (G H : Hp), Ok K B G0 E σ G H → ∀ Q : VK, (∀ p vs G' H', Ext G H G' H' → H p = none → G' p = none → H' p = some (.lst vs) → PR G' vs l → Q (.ref p) H') → te σ H Q
def ET (K : PySem.W.Frag) (E : List Slot) (tt : TT) (b : Bool) : Prop := ∀ (B G0 : Hp) (σ : L2.St) (G H : Hp), Ok K B G0 E σ G H → ∀ Q : Bool → Hp → Prop, (∀ G' H', Ext G H G' H' → Q b H') → tt σ H Q
def ArgOk (K : PySem.W.Frag) (G H : Hp) : Slot → V → Prop
  | .un, _ => True
  | .val r, v => r.rep G v
  | .own _, _ => False
  | .red l, v => ∃ p vs, v = .ref p ∧ H p = some (.lst vs) ∧ PR G vs l
  | .scr ns, v => ∃ p, v = .ref p ∧ SqL K H p (ns.map V.int)
  | .dic _, _ => False
  | .dct _, _ => False
  | .thg _ _, _ => False
  | .ins _ _ _, _ => False
  | .nst _ _ _, _ => False
theorem ArgOk.ext {K : PySem.W.Frag} {G H G' H' : Hp} (x : Ext G H G' H') : ∀ {s : Slot} {v : V}, ArgOk K G H s v → ArgOk K G' H' s v
  | .un, _, h => h
  | .val r, _, h => r.mono x.g h
  | .own _, _, h => h
  | .red l, _, ⟨p, vs, e, h, q⟩ => ⟨p, vs, e, x.h.at _ _ h, q.mono x.g⟩
  | .scr ns, _, ⟨p, e, h⟩ => ⟨p, e, x.h.seq h⟩
  | .dic _, _, h => h
  | .dct _, _, h => h
  | .thg _ _, _, h => h
  | .ins _ _ _, _, h => h
  | .nst _ _ _, _, h => h
structure AE where
  nx : List Slot → Prop
  bk : List Slot → Prop
  ct : List Slot → Prop
  rt : Slot → Prop
  ex : List Slot → Addr → Prop := fun _ _ => False
  ew : Value → Option Addr → L2.St → Hp → Prop := fun _ _ _ _ => True
structure Sat (K : PySem.W.Frag) (B G0 : Hp) (A : AE) (D : Ends) : Prop where
  nx : ∀ E σ G H, A.nx E → Ok K B G0 E σ G H → D.nx σ H
  bk : ∀ E σ G H, A.bk E → Ok K B G0 E σ G H → D.bk σ H
  ct : ∀ E σ G H, A.ct E → Ok K B G0 E σ G H → D.ct σ H
  rtV : ∀ r v G H, A.rt (.val r) → OkB B G0 G H → r.rep G v → D.rt v H
  rtO : ∀ l p vs G H, A.rt (.own l) → OkB B G0 G H → B p = none → G p = none → H p = some (.lst vs) → PR G vs l → D.rt (.ref p) H
  ex : ∀ E σ G H C, A.ex E C → Ok K B G0 E σ G H → A.ew (.ref C) none σ H
def ES (K : PySem.W.Frag) (E : List Slot) (ts : TS) (A : AE) : Prop := ∀ (B G0 : Hp) (σ : L2.St) (G H : Hp) (D : Ends), Ok K B G0 E σ G H → Sat K B G0 A D → ts D σ H
section
variable {K : PySem.W.Frag} {E : List Slot} {ta tb tc te : TE} {t u : TT} {r s : AbsV} {l m : List AbsV}
theorem EVF.ev (h : EVF K E te l) : EV K E te (lsA l) := fun B G0 σ G H k Q q => h B G0 σ G H k Q fun p vs G' H' x hn g' h' pr =>
  q (.ref p) (upd G' p (.lst vs)) H' (x.freeze hn g' h') ⟨p, vs, rfl, upd_same, pr.mono (fun b u e => by rw [upd_ne (ne_of_none e g')]; exact e)⟩
theorem dec_int (a b : Int) : decide (V.int a = V.int b) = decide (a = b) := by
  by_cases h : a = b
  · rw [h]; simp
  · rw [decide_eq_false h, decide_eq_false (fun z => h (by cases z; rfl))]
theorem small {n : Nat} (h : n ≤ 100000) : n ≤ sizeLine := Nat.le_trans h (by decide)
theorem smallT {n : Nat} (h : n < 100000) : n < sizeLine := Nat.lt_of_lt_of_le h (by decide)
end
end Ab
namespace Ab
variable [Ab.Tabl]
open PySem PySem.Spec PyProof.Rows L2
section
variable {K : PySem.W.Frag} {E : List Slot} {ta tb tc te : TE} {t u : TT} {ts us : TS} {r s : AbsV} {l m : List AbsV} {A : AE}
theorem OkB.via {B G0 G1 H1 G H : Hp} (a : OkB B G0 G1 H1) (b : OkB B G1 G H) : OkB B G0 G H :=
  ⟨b.bh, b.gh, a.g0.trans b.g0, fun p h e => b.nb p h (a.nb p h e)⟩
theorem OkB.here {B G0 G H : Hp} (a : OkB B G0 G H) : OkB B G G H := ⟨a.bh, a.gh, Same.refl _, fun _ _ e => e⟩
theorem Ok.via {B G0 G1 H1 G H : Hp} {σ : L2.St} (a : OkB B G0 G1 H1) (b : Ok K B G1 E σ G H) : Ok K B G0 E σ G H := ⟨a.via b.toOkB, b.tb, b.sl, b.ds, b.dn⟩
theorem Ok.here {B G0 G H : Hp} {σ : L2.St} (a : Ok K B G0 E σ G H) : Ok K B G E σ G H := ⟨a.toOkB.here, a.tb, a.sl, a.ds, a.dn⟩
theorem Sat.later {B G0 G1 H1 : Hp} {D : Ends} (S : Sat K B G0 A D) (a : OkB B G0 G1 H1) : Sat K B G1 A D :=
  ⟨fun E σ G H h k => S.nx E σ G H h (k.via a), fun E σ G H h k => S.bk E σ G H h (k.via a), fun E σ G H h k => S.ct E σ G H h (k.via a),
    fun r v G H h k q => S.rtV r v G H h (a.via k) q, fun l p vs G H h k b g e pr => S.rtO l p vs G H h (a.via k) b g e pr, fun E σ G H C h k => S.ex E σ G H C h (k.via a)⟩
theorem ES.imp {A' : AE} (h : ES K E ts A) (hn : ∀ E, A.nx E → A'.nx E) (hb : ∀ E, A.bk E → A'.bk E) (hc : ∀ E, A.ct E → A'.ct E) (hr : ∀ s, A.rt s → A'.rt s) (hx : ∀ E C, A.ex E C → A'.ex E C := by exact fun _ _ h => h) (he : A.ew = A'.ew := by rfl) : ES K E ts A' := fun B G0 σ G H D k S =>
  h B G0 σ G H D k ⟨fun E σ G H z => S.nx E σ G H (hn E z), fun E σ G H z => S.bk E σ G H (hb E z), fun E σ G H z => S.ct E σ G H (hc E z), fun r v G H z => S.rtV r v G H (hr _ z), fun l p vs G H z => S.rtO l p vs G H (hr _ z), fun E σ G H C z k => by rw [he]; exact S.ex E σ G H C (hx E C z) k⟩
theorem es_next (h : A.nx E) : ES K E tNext A := fun B G0 σ G H D k S => S.nx E σ G H h k
theorem es_cont (h : A.ct E) : ES K E tCont A := fun B G0 σ G H D k S => S.ct E σ G H h k
theorem es_seq (h : ES K E ts { A with nx := fun E' => ES K E' us A }) : ES K E (tSeq ts us) A := fun B G0 σ G H D k S =>
  h B G0 σ G H { D with nx := us D } k ⟨fun E' σ' G' H' h' k' => h' B G0 σ' G' H' D k' S, S.bk, S.ct, S.rtV, S.rtO, S.ex⟩
theorem es_asg {i : Nat} (h : EV K E te r) (q : A.nx (E.set i (.val r))) : ES K E (tAsg te (gName i)) A := fun B G0 σ G H D k S =>
  h B G0 σ G H k _ fun v G1 H1 x1 r1 => S.nx _ _ G1 H1 q ((k.ext x1).set i ⟨v, rfl, r1⟩ rfl)
theorem es_asgF {i : Nat} (h : EVF K E te l) (q : A.nx (E.set i (.own l))) : ES K E (tAsg te (gName i)) A := fun B G0 σ G H D k S =>
  h B G0 σ G H k _ fun p vs G1 H1 x1 hn g1 h1 r1 => S.nx _ _ G1 H1 q ((k.ext x1).setM i (s := .own l) ⟨p, vs, rfl, k.bh.free hn, g1, h1, r1⟩ fun j s' hj e m => k.fresh hn e m)
theorem es_ret (h : EV K E te r) (q : A.rt (.val r)) : ES K E (tRet te) A := fun B G0 σ G H D k S =>
  h B G0 σ G H k _ fun v G1 H1 x1 r1 => S.rtV r v G1 H1 q (k.toOkB.ext x1) r1
theorem es_retF (h : EVF K E te l) (q : A.rt (.own l)) : ES K E (tRet te) A := fun B G0 σ G H D k S =>
  h B G0 σ G H k _ fun p vs G1 H1 x1 hn g1 h1 r1 => S.rtO l p vs G1 H1 q (k.toOkB.ext x1) (k.bh.free hn) g1 h1 r1
theorem es_retO {i : Nat} (h : E[i]? = some (.own l)) (q : A.rt (.own l)) : ES K E (tRet (tVar i)) A := fun B G0 σ G H D k S => by
  obtain ⟨o, e, p, vs, e2, b, g, hh, pr⟩ := P_get k.sl h
  subst e2
  exact ⟨.ref p, e, S.rtO l p vs G H q k.toOkB b g hh pr⟩
theorem es_if {b : Bool} (h : ET K E t b) (h1 : b = true → ES K E ts A) (h2 : b = false → ES K E us A) : ES K E (tIfS t ts us) A := fun B G0 σ G H D k S =>
  h B G0 σ G H k _ fun G1 H1 x1 => by
    cases b with
    | true => exact h1 rfl B G0 σ G1 H1 D (k.ext x1) S
    | false => exact h2 rfl B G0 σ G1 H1 D (k.ext x1) S
theorem es_freeze {i : Nat} (h : E[i]? = some (.own l)) (q : ES K (E.set i (.val (lsA l))) ts A) : ES K E ts A := fun B G0 σ G H D k S => by
  obtain ⟨o, e, p, vs, e2, b, g, hh, pr⟩ := P_get k.sl h
  subst e2
  have sg : Same G (upd G p (.lst vs)) := fun b u e => by rw [upd_ne (ne_of_none e g)]; exact e
  exact q B G0 σ _ H D (k.freezeM h rfl e hh ⟨p, vs, rfl, upd_same, pr.mono sg⟩) S
theorem es_freezeI {i : Nat} {p C : Addr} {fs : List (Str × AbsV)} (h : E[i]? = some (.ins p C fs)) (q : ES K (E.set i (.val (iaA p C fs))) ts A) : ES K E ts A := fun B G0 σ G H D k S => by
  obtain ⟨o, e, dx, vs, e2, b, g, hh, pr⟩ := P_get k.sl h
  subst e2
  have sg : Same G (upd G p (.ins C dx vs)) := fun b u e => by rw [upd_ne (ne_of_none e g)]; exact e
  exact q B G0 σ _ H D (k.freezeM h rfl e hh ⟨rfl, dx, vs, upd_same, pr.mono sg⟩) S
theorem Ok.upd {B G0 G H : Hp} {σ : L2.St} {i : Nat} {p : Addr} {vs : List V} (k : Ok K B G0 E σ G H) (h : E[i]? = some (.own l)) (e : σ[i]? = some (some (.ref p))) (pr : PR G vs m) : Ok K B G0 (E.set i (.own m)) σ G (upd H p (.lst vs)) := by
  obtain ⟨o, eO, pO, ws, e2, b, g, hh, _⟩ := P_get k.sl h
  have e3 : some (V.ref p) = some (V.ref pO) := by rw [e] at eO; rw [← e2]; exact Option.some.inj eO
  cases e3
  exact k.updM h rfl e ⟨p, vs, rfl, b, g, upd_same, pr⟩
theorem es_app {i : Nat} (hx : E[i]? = some (.own l)) (h : EV K E te r) (hl : l.length < 100000) (q : A.nx (E.set i (.own (l ++ [r])))) : ES K E (tDrop (tBM K "list" rAppend (tVar i) (tCons te tNil))) A := fun B G0 σ G H D k S => by
  obtain ⟨o, e, p, vs, e2, b, g, hh, pr⟩ := P_get k.sl hx
  subst e2
  refine ⟨.ref p, e, .inl ⟨rfl, _, SqL.of hh⟩, h B G0 σ G H k _ fun v G1 H1 x1 r1 => ?_⟩
  have k1 := k.ext x1
  exact ⟨p, vs, v, rfl, rfl, x1.h.at _ _ hh, by rw [pr.len]; exact smallT hl, S.nx _ _ _ _ q (k1.upd hx e ((pr.mono x1.g).append (.cons r1 .nil)))⟩
end
end Ab
namespace Ab
variable [Ab.Tabl]
open PySem PySem.Spec PyProof.Rows L2
section
variable {K : PySem.W.Frag} {E : List Slot} {ta tb tc te : TE} {t u : TT} {ts us : TS} {r s : AbsV} {l m : List AbsV} {A : AE}
theorem w_range1 {a : Int} (h : EV K E te (nI a)) (h1 : -(2 ^ 62) ≤ a) (h2 : a < 2 ^ 62) : ∀ (B G0 : Hp) (σ : L2.St) (G H : Hp), Ok K B G0 E σ G H → ∀ R : It → Hp → Prop, (∀ G' H', Ext G H G' H' → R (Itr 0 a.toNat) H') → iRng1 (tCons te tNil) σ H R := fun B G0 σ G H k R q =>
  h B G0 σ G H k _ fun v G1 H1 x1 r1 => ⟨a, by rw [r1], h1, h2, q G1 H1 x1⟩
def wipeE (E : List Slot) : List Nat → List Slot
  | [] => E
  | v :: vs => (wipeE E vs).set v .un
theorem Ok.wipe {B G0 G H : Hp} {σ : L2.St} (k : Ok K B G0 E σ G H) : ∀ vs : List Nat, Ok K B G0 (wipeE E vs) (wipe σ vs) G H
  | [] => k
  | v :: vs => (Ok.wipe k vs).set v trivial rfl
theorem wipe_set {σ : L2.St} {i : Nat} {v : V} : wipe ((wipe σ [i]).set i (some v)) [i] = wipe σ [i] := by
  show (((σ.set i none).set i (some v)).set i none) = σ.set i none
  rw [List.set_set, List.set_set]
theorem Ext.mut {G H G' H' : Hp} {D : Addr} {o u : HO} (x : Ext G H G' H') (h : H D = none) (g : G' D = none) (hu : H' D = some u) (pl : Pl u := by exact ⟨fun _ z => (nomatch z), fun _ _ z => (nomatch z)⟩) : Ext G H G' (upd H' D o) :=
  ⟨x.g, x.h.mut h fun v z => by rw [hu] at z; cases z; exact pl, fun b u e => by rw [upd_ne (ne_of_none e g)]; exact x.gh b u e, x.n⟩
end
def ResOk (G H G' H' : Hp) : Slot → V → Prop
  | .val r, v => r.rep G' v
  | .own l, v => ∃ p vs, v = .ref p ∧ H p = none ∧ G' p = none ∧ H' p = some (.lst vs) ∧ PR G' vs l
  | _, _ => False
def spX (K : PySem.W.Frag) {X : Type} (args : X → List Slot) (pre : X → Prop) (res : X → Slot) : Sp := fun vs H Q _ => ∃ (x : X) (G : Hp), pre x ∧ Gd K G H ∧ Paired (ArgOk K G H) (args x) vs ∧ ∀ v G' H', Ext G H G' H' → ResOk G H G' H' (res x) v → Q v H'
section
variable {K : PySem.W.Frag} {E : List Slot} {te : TE} {ta : TA} {r : AbsV} {l : List AbsV} {X : Type} {args : X → List Slot} {pre : X → Prop} {res : X → Slot} {Ex0 : XK}
end
def AR (s : Slot) : AE := { nx := fun _ => s = .val nN, bk := fun _ => False, ct := fun _ => False, rt := fun s' => s' = s }
section
variable {P : Program} {w : World} {K : PySem.W.Frag} {mg : Str → Option Value} {base : Heap}
theorem P_app {α β : Type} {F : α → β → Prop} : ∀ {as as' : List α} {bs bs' : List β}, Paired F as bs → Paired F as' bs' → Paired F (as ++ as') (bs ++ bs')
  | _, _, _, _, .nil, h => h
  | _, _, _, _, .cons a t, h => .cons a (P_app t h)
theorem slots_start {K : PySem.W.Frag} {G H : Hp} : ∀ {as : List Slot} {vs : List V}, Paired (ArgOk K G H) as vs → Paired (SlotOk K H G H) as (vs.map some)
  | _, _, .nil => .nil
  | s :: as, v :: vs, .cons a t => .cons (by
      cases s with
      | un => trivial
      | val r => exact ⟨v, rfl, a⟩
      | own l => exact a.elim
      | red l => obtain ⟨p, ws, e, h, pr⟩ := a; exact ⟨p, ws, by rw [e], h, pr⟩
      | scr ns => obtain ⟨p, e, h⟩ := a; exact ⟨p, by rw [e], h⟩
      | dic _ => exact a.elim
      | dct _ => exact a.elim
      | thg _ _ => exact a.elim
      | ins _ _ _ => exact a.elim
      | nst _ _ _ => exact a.elim) (slots_start t)
theorem slots_un {K : PySem.W.Frag} {B G H : Hp} : ∀ n : Nat, Paired (SlotOk K B G H) (List.replicate n Slot.un) (List.replicate n (none : Option V))
  | 0 => .nil
  | n + 1 => .cons trivial (slots_un n)
theorem no_mut {K : PySem.W.Frag} {G H : Hp} : ∀ {as : List Slot} {vs : List V} {i : Nat} {s : Slot}, Paired (ArgOk K G H) as vs → as[i]? = some s → s.mut = false
  | _, _, i, s, .nil, h => by simp at h
  | s' :: as, v :: vs, 0, s, .cons a t, h => by
    have e : s' = s := Option.some.inj h
    subst e
    cases s' with
    | own _ => exact a.elim
    | dic _ => exact a.elim
    | dct _ => exact a.elim
    | thg _ _ => exact a.elim
    | ins _ _ _ => exact a.elim
    | nst _ _ _ => exact a.elim
    | _ => rfl
  | s' :: as, v :: vs, i + 1, s, .cons a t, h => no_mut t (i := i) h
theorem start_mut {G H : Hp} {as : List Slot} {vs : List V} (a : Paired (ArgOk K G H) as vs) {n i : Nat} {s : Slot} (ea : (as ++ List.replicate n Slot.un)[i]? = some s) : s.mut = false := by
  by_cases hi : i < as.length
  · rw [List.getElem?_append_left hi] at ea; exact no_mut a ea
  · rw [List.getElem?_append_right (by omega)] at ea
    have := List.mem_of_getElem? ea
    have := (List.mem_replicate.mp this).2
    rw [this]; rfl
theorem start_ok {G H : Hp} {as : List Slot} {vs : List V} (gh : Gd K G H) (a : Paired (ArgOk K G H) as vs) (n : Nat) : Ok K H G (as ++ List.replicate n .un) (vs.map some ++ List.replicate n none) G H :=
  ⟨⟨Grow.refl _, gh.s, Same.refl _, fun _ _ e => e⟩, gh.tb, P_app (slots_start a) (slots_un n), (fun i j p s s' ea _ ms => by
    have hf := start_mut a ea
    rw [hf] at ms; cases ms), (fun i j q s s' ea _ _ hq => by
    rw [Slot.inn_of (start_mut a ea)] at hq; cases hq)⟩
theorem okA {X : Type} {args : X → List Slot} {pre : X → Prop} {res : X → Slot} {x qual : Str} {st : Stmt} {f : Addr} {fd : FuncData} {N ps : List Str} {k : Nat} (F : Fun K x qual st f fd) (S : FnScope N ps (defScope st)) (la : ∀ x, (args x).length = ps.length)
    (hb : ∀ (cdv : Value) (A : Around) (outer : List Env) (s : Shared) (H : Hp) (E : XK), Room k (A.deeper (envOfC qual (defScope st) s.heap.objs.size f cdv)) →
      ∃ t, PSs (cxOf CX0 P w K mg base N qual (defScope st) f cdv A outer s H E).nox (defBody st) t ∧ ∀ x, pre x → ES K (args x ++ List.replicate (N.length - ps.length) .un) t (AR (res x))) : FnOk P w K mg base CX0 (k + 1) f fd ps (spX K args pre res) := by
  refine F.ok S (fun vs H Q E h => ?_) fun cdv A outer s H vs Q E hr h => ?_
  · obtain ⟨x, G, _, _, a, _⟩ := h
    rw [← P_len a, la]
  · obtain ⟨t, ht, he⟩ := hb cdv A outer s H E hr
    obtain ⟨x, G, hp, gh, a, q⟩ := h
    refine ⟨t, ht, ?_⟩
    have lv : vs.length = ps.length := by rw [← P_len a, la]
    unfold L2.start
    rw [lv]
    refine he x hp H G _ G H _ (start_ok gh a _) ⟨fun E σ G' H' h' k' => ?_, fun _ _ _ _ h' _ => h'.elim, fun _ _ _ _ h' _ => h'.elim, fun r v G' H' h' k' rv => ?_, fun l p ws G' H' h' k' b g e pr => ?_, fun _ _ _ _ _ h' _ => h'.elim⟩
    · refine q _ G' H' ⟨k'.g0, k'.bh, k'.gh, k'.nb⟩ ?_
      rw [h']; exact rfl
    · refine q _ G' H' ⟨k'.g0, k'.bh, k'.gh, k'.nb⟩ ?_
      have h2 : Slot.val r = res x := h'
      rw [← h2]; exact rv
    · refine q _ G' H' ⟨k'.g0, k'.bh, k'.gh, k'.nb⟩ ?_
      have h2 : Slot.own l = res x := h'
      rw [← h2]; exact ⟨p, ws, rfl, b, g, e, pr⟩
end
end Ab
namespace Ab
variable [Ab.Tabl]
open PySem PySem.Spec PyProof.Rows L2
structure Cal (P : Program) (w : World) (K : PySem.W.Frag) (mg : Str → Option Value) (base : Heap) (k : Nat) (x : Str) (sp : Sp) : Prop where
  ex : ∃ (f : Addr) (fd : FuncData) (ps : List Str), FnOk P w K mg base CX0 k f fd ps sp ∧ mg x = some (.ref f) ∧ PySem.W.keepIn K (.ref f) = true ∧ Binds K fd ps []
structure DefAt (K : PySem.W.Frag) (mg : Str → Option Value) (x : Str) (st : Stmt) (ps : List Str) : Prop where
  ex : ∃ (f : Addr) (fd : FuncData), Fun K x x st f fd ∧ mg x = some (.ref f) ∧ Binds K fd ps []
section
variable {X : Cx} {e : Expr} {es : List Expr} {t : TA} {p pos : Pos} {sp : Sp} {x : Str} {j k : Nat}
end
section
variable {P : Program} {w : World} {K : PySem.W.Frag} {mg : Str → Option Value} {base : Heap}
theorem Cal.mono {x : Str} {sp : Sp} {j k : Nat} (c : Cal P w K mg base j x sp) (h : j ≤ k) : Cal P w K mg base k x sp := by
  obtain ⟨f, fd, ps, F, r⟩ := c.ex
  exact ⟨f, fd, ps, F.mono h, r⟩
end
section
variable {X : Cx} (K : PySem.W.Frag)
theorem isiK (h : X.K = K := by rfl) : CallR X (.builtin "isinstance") (rIsi K) := by subst h; exact call_isi
end
section
variable {X : Cx} (K : PySem.W.Frag)
end
theorem bt_len : bootBuiltins "len" = some (.builtin "len") := by decide +kernel
theorem bt_abs : bootBuiltins "abs" = some (.builtin "abs") := by decide +kernel
theorem bt_min : bootBuiltins "min" = some (.builtin "min") := by decide +kernel
theorem bt_all : bootBuiltins "all" = some (.builtin "all") := by decide +kernel
theorem bt_isinstance : bootBuiltins "isinstance" = some (.builtin "isinstance") := by decide +kernel
theorem bt_int : bootBuiltins "int" = some (.type "int") := by decide +kernel
theorem bt_bool : bootBuiltins "bool" = some (.type "bool") := by decide +kernel
theorem bt_str : bootBuiltins "str" = some (.type "str") := by decide +kernel
theorem bt_list : bootBuiltins "list" = some (.type "list") := by decide +kernel
theorem bt_tuple : bootBuiltins "tuple" = some (.type "tuple") := by decide +kernel
section
variable {K : PySem.W.Frag} {E : List Slot} {ta tb tc te : TE} {t u : TT} {ts us : TS} {r s : AbsV} {l m : List AbsV} {A : AE}
end
end Ab
set_option maxHeartbeats 2000000
namespace Ab
variable [Ab.Tabl]
open PySem PySem.Spec PyProof.Rows L2
section
variable {X : Cx}
end
section
variable {X : Cx} (K : PySem.W.Frag)
end
section
variable {K : PySem.W.Frag} {E : List Slot} {te : TE} {r : AbsV}
end
section
variable {K : PySem.W.Frag} {E : List Slot} {te ta tb : TE} {r : AbsV}
end
section
variable {K : PySem.W.Frag} {E : List Slot} {ta tb : TE} {r : AbsV} {l : List AbsV}
end
end Ab
set_option maxHeartbeats 2000000
namespace Ab
variable [Ab.Tabl]
open PySem PySem.Spec PyProof.Rows L2
def absI (c : Int) : Int := if c < 0 then -c else c
def mixF (f k : Int) : Int :=
  let m1 := (f * 48271 + (k + 1) * 69621) % 2147483647
  let m2 := (m1 * m1 + m1 * 16807 + k * 7919) % 2147483629
  let m3 := (m2 * m2 + f + 13 * k) % 2147483587
  m3 / 7 % 4096
def drawsS (c : Int) : Nat → List Int × Int
  | 0 => ([], absI c)
  | i + 1 => if (decide (10 ^ (18 : Int).toNat ≤ absI c) && decide (0 < (drawsS c i).2)) = true then ((drawsS c i).1 ++ [(drawsS c i).2 % 4096], (drawsS c i).2 / 4096) else ((drawsS c i).1 ++ [mixF (absI c) (0 + (i : Int))], (drawsS c i).2)
def drawsF (c : Int) (n : Nat) : List Int := (drawsS c n).1
theorem drawsS_len (c : Int) : ∀ n : Nat, (drawsS c n).1.length = n
  | 0 => rfl
  | n + 1 => by
    have ih := drawsS_len c n
    unfold drawsS
    split <;> (rw [List.length_append, ih]; rfl)
theorem drawsS_mem (c : Int) : ∀ (n : Nat) (x : Int), x ∈ (drawsS c n).1 → 0 ≤ x ∧ x < 4096
  | 0, x, h => by cases h
  | n + 1, x, h => by
    have ih := drawsS_mem c n x
    unfold drawsS at h
    split at h
    · rcases List.mem_append.mp h with h | h
      · exact ih h
      · rw [List.mem_singleton.mp h]; omega
    · rcases List.mem_append.mp h with h | h
      · exact ih h
      · rw [List.mem_singleton.mp h]; unfold mixF; dsimp only; omega
theorem eqV_int (a b : Int) : eqV (.int a) (.int b) = decide (a = b) := by
  unfold eqV
  rfl
section
variable {K : PySem.W.Frag} {E : List Slot} {ta tb te th : TE} {r : AbsV} {l m : List AbsV}
end
end Ab
set_option maxHeartbeats 2000000
namespace Ab
variable [Ab.Tabl]
open PySem PySem.Spec PyProof.Rows L2
section
variable {K : PySem.W.Frag} {E : List Slot} {ta tb tc te ti : TE} {t u : TT} {ts us : TS} {r s : AbsV} {l m : List AbsV} {A : AE}
def lookA {κ : Type} [DecidableEq κ] (kvs : List (κ × AbsV)) (k : κ) : Option AbsV := (kvs.find? fun kv => decide (kv.1 = k)).map (·.2)
theorem PK.look {κ : Type} [DecidableEq κ] {G : Hp} (k : κ) : ∀ {ws : List (κ × V)} {kvs : List (κ × AbsV)}, PK G ws kvs → match lookA kvs k with | some r => ∃ v, (ws.find? fun kv => decide (kv.1 = k)).map (·.2) = some v ∧ r.rep G v | none => (ws.find? fun kv => decide (kv.1 = k)).map (·.2) = none
  | _, _, .nil => rfl
  | (a, v) :: ws, (b, r) :: kvs, .cons h t => by
    obtain ⟨e, hv⟩ := h
    dsimp only at e hv
    subst e
    unfold lookA
    rw [List.find?_cons, List.find?_cons]
    dsimp only
    by_cases z : a = k
    · rw [decide_eq_true z]; exact ⟨v, rfl, hv⟩
    · rw [decide_eq_false z]; exact PK.look k t
def putA {κ : Type} [DecidableEq κ] (kvs : List (κ × AbsV)) (k : κ) (r : AbsV) : List (κ × AbsV) := if (kvs.any fun kv => decide (kv.1 = k)) = true then kvs.map fun kv => if kv.1 = k then (kv.1, r) else kv else kvs ++ [(k, r)]
theorem PK.any {κ : Type} [DecidableEq κ] {G : Hp} (k : κ) : ∀ {ws : List (κ × V)} {kvs : List (κ × AbsV)}, PK G ws kvs → (ws.any fun kv => decide (kv.1 = k)) = (kvs.any fun kv => decide (kv.1 = k))
  | _, _, .nil => rfl
  | (a, v) :: ws, (b, r) :: kvs, .cons h t => by
    obtain ⟨e, _⟩ := h
    dsimp only at e
    subst e
    rw [List.any_cons, List.any_cons, PK.any k t]
theorem PK.append {κ : Type} {G : Hp} : ∀ {ws ws' : List (κ × V)} {kvs kvs' : List (κ × AbsV)}, PK G ws kvs → PK G ws' kvs' → PK G (ws ++ ws') (kvs ++ kvs')
  | _, _, _, _, .nil, h => h
  | _, _, _, _, .cons a t, h => .cons a (PK.append t h)
theorem PK.mapput {κ : Type} [DecidableEq κ] {G : Hp} (k : κ) {v : V} {r : AbsV} (hv : r.rep G v) : ∀ {ws : List (κ × V)} {kvs : List (κ × AbsV)}, PK G ws kvs → PK G (ws.map fun kv => if kv.1 = k then (kv.1, v) else kv) (kvs.map fun kv => if kv.1 = k then (kv.1, r) else kv)
  | _, _, .nil => .nil
  | (a, u) :: ws, (b, r') :: kvs, .cons h t => by
    obtain ⟨e, hb⟩ := h
    dsimp only at e hb
    subst e
    rw [List.map_cons, List.map_cons]
    refine .cons ?_ (PK.mapput k hv t)
    dsimp only
    split
    · exact ⟨rfl, hv⟩
    · exact ⟨rfl, hb⟩
theorem PK.put {κ : Type} [DecidableEq κ] {G : Hp} (k : κ) {v : V} {r : AbsV} (hv : r.rep G v) {ws : List (κ × V)} {kvs : List (κ × AbsV)} (h : PK G ws kvs) : PK G (putK ws k v) (putA kvs k r) := by
  unfold putK putA
  rw [PK.any k h]
  split
  · exact PK.mapput k hv h
  · exact PK.append h (.cons ⟨rfl, hv⟩ .nil)
theorem PK.len {κ : Type} {G : Hp} {ws : List (κ × V)} {kvs : List (κ × AbsV)} (h : PK G ws kvs) : ws.length = kvs.length := Paired.length h
theorem lookup_find {κ : Type} [DecidableEq κ] [BEq κ] [LawfulBEq κ] (k : κ) {β : Type} : ∀ ws : List (κ × β), ws.lookup k = (ws.find? fun kv => decide (kv.1 = k)).map (·.2)
  | [] => rfl
  | (a, v) :: ws => by
    rw [List.lookup_cons, List.find?_cons]
    dsimp only
    by_cases z : k = a
    · subst z
      rw [beq_self_eq_true, decide_eq_true rfl]; rfl
    · rw [decide_eq_false (fun e => z e.symm), beq_false_of_ne z]
      exact lookup_find k ws
theorem putF_new {f : Str} {v : V} : ∀ {ws : List (Str × V)}, (ws.find? fun kv => decide (kv.1 = f)) = none → putF f v ws = ws ++ [(f, v)]
  | [], _ => rfl
  | (a, u) :: ws, h => by
    rw [List.find?_cons] at h
    dsimp only at h
    by_cases z : a = f
    · rw [decide_eq_true z] at h; cases h
    · rw [decide_eq_false z] at h
      show (if a = f then _ else (a, u) :: putF f v ws) = _
      rw [if_neg z, putF_new h]; rfl
theorem es_fld {i : Nat} {p C : Addr} {fs : List (Str × AbsV)} {f : Str} (hx : E[i]? = some (.ins p C fs)) (hc : Cls K C) (hn : NoAttr K C f) (h : EV K E te r) (hl : lookA fs f = none) (hs : fs.length < 900) (q : A.nx (E.set i (.ins p C (fs ++ [(f, r)])))) : ES K E (sFld K (tVar i) te f) A := fun B G0 σ G H D k S =>
  h B G0 σ G H k _ fun v G1 H1 x1 r1 => by
    have k1 := k.ext x1
    obtain ⟨o, e, dx, ws, e2, b, g, hh, pr⟩ := P_get k1.sl hx
    subst e2
    have hl2 := PK.look f pr
    rw [hl] at hl2
    have hl3 : (ws.find? fun kv => decide (kv.1 = f)) = none := by
      cases z : ws.find? fun kv => decide (kv.1 = f) with
      | none => rfl
      | some w => rw [z] at hl2; cases hl2
    refine ⟨.ref p, e, p, C, dx, ws, rfl, hh, hc, hn, by rw [pr.len]; omega, S.nx _ σ G1 _ q ?_⟩
    have hp2 : PK G1 (putF f v ws) (fs ++ [(f, r)]) := by
      rw [putF_new hl3]
      exact PK.append pr (.cons ⟨rfl, r1⟩ .nil)
    exact k1.updM hx rfl e ⟨dx, putF f v ws, rfl, b, g, upd_same, hp2⟩
end
section
variable {P : Program} {w : World} {K : PySem.W.Frag} {mg : Str → Option Value} {base : Heap}
end
end Ab
set_option maxHeartbeats 2000000
namespace Ab
variable [Ab.Tabl]
open PySem PySem.Spec PyProof.Rows L2
section
variable {K : PySem.W.Frag} {E : List Slot} {ta tb tc te ti tk tv : TE} {t u : TT} {ts us : TS} {r s : AbsV} {l m : List AbsV} {A : AE}
def dd (ns : List Int) : Nat := (PyProof.Rows.firstMet (fun i => ns.getD i 0) ns.length).length
def tLenSetG (K : PySem.W.Frag) (ta : TE) : TE := fun σ H Q => ta σ H fun x H1 => ∃ (l : Addr) (ns : List Int), x = .ref l ∧ SqL K H1 l (ns.map V.int) ∧ ns.length ≤ 4000 ∧ Q (.int (dd ns : Nat)) H1
theorem pe_lenSetG {X : Cx} {a : Expr} {ta : TE} {p p2 q pos : Pos} (hg : Gl X "len") (hm : X.mg "len" = none) (hg2 : Gl X "set") (hm2 : X.mg "set" = none) (ha : PE X a ta) (hc : X.calm = true := by rfl)
    (na : starEach [a] X.env = (false, eval a X.env) :: starEach [] X.env := by rfl) : PE X (.Call (.Name "len" p) [.Call (.Name "set" p2) [a] [] q] [] pos) (tLenSetG X.K ta) := by
  refine ⟨fun pins s σ H Q I h => ?_⟩
  refine Call_ (ld_blt I hg hm boot_len ?_)
  refine PyProof.Rows.callWith_builtin1 (PyProof.Rows.args_cons ?_ rfl) rfl rfl
  refine Call_ (ld_blt I hg2 hm2 boot_set ?_)
  refine PyProof.Rows.callWith_type1 (PyProof.Rows.args_cons (thn (ha.run pins s σ H _ I h) fun v s1 ⟨x, H1, I1, r1, q1⟩ => PyProof.Rows.args_nil ?_) na) na rfl
  obtain ⟨l, ns, ex, hs, hle, q1⟩ := q1
  subst ex
  cases r1
  obtain ⟨its, r, pl, hz⟩ := I1.list hs
  have hlen : its.toArray.size = ns.length := by rw [List.size_toArray, ← r.length, List.length_map]
  have hfl := PyProof.Rows.firstMet_length_le (fun i => ns.getD i 0) ns.length
  refine call_set_list (I1.ok.hd hc) pl.isList (by simpa using RZ.intsAre_vals r) (by rw [hlen]; unfold scanBound; omega) fun h' tk hS hk => ?_
  refine PyProof.Rows.args_nil ?_
  rw [hlen] at hS
  obtain ⟨o, es, ep, t, ho, hex, hd, _, _, _, hf, hn⟩ := hS
  have I2 : Inv X pins σ H1 { s1 with heap := h', toks := tk } := I1.kept fun b o e => hk b o (Heap.lt_size e) e
  exact call_len_set ho hex hd hf (by rw [hn] <;> omega) ⟨.int (dd ns : Nat), H1, I2.tok _, ⟨_, by rw [hn]; rfl⟩, q1⟩
def EVDF (K : PySem.W.Frag) (E : List Slot) (te : TE) (kvs : List (Key × AbsV)) : Prop := ∀ (B G0 : Hp) (σ : L2.St) (G H : Hp), Ok K B G0 E σ G H → ∀ Q : VK, (∀ p ws G' H', Ext G H G' H' → H p = none → G' p = none → H' p = some (.dK ws) → PK G' ws kvs → Q (.ref p) H') → te σ H Q
theorem EVDF.ev {kvs : List (Key × AbsV)} (h : EVDF K E te kvs) : EV K E te (dcA kvs) := fun B G0 σ G H k Q q => h B G0 σ G H k Q fun p ws G' H' x hn g' h' pr =>
  q (.ref p) (upd G' p (.dK ws)) H' (x.freeze hn g' h') ⟨p, ws, rfl, upd_same, pr.mono (fun b u e => by rw [upd_ne (ne_of_none e g')]; exact e)⟩
end
end Ab
set_option maxHeartbeats 2000000
namespace Ab
variable [Ab.Tabl]
open PySem PySem.Spec PyProof.Rows L2
abbrev Out := Slot ⊕ Addr
def EX (K : PySem.W.Frag) (E : List Slot) (te : TE) (ew : WX) (o : Out) : Prop := ∀ (B G0 : Hp) (σ : L2.St) (G H : Hp), Ok K B G0 E σ G H → ∀ Q : VK, (∀ r v G' H', o = .inl r → Ext G H G' H' → ResOk G H G' H' r v → Q v H') → (∀ C G' H', o = .inr C → Ext G H G' H' → ew (.ref C) none σ H') → te σ H Q
section
variable {K : PySem.W.Frag} {E : List Slot} {ta tb te : TE} {r : AbsV} {l : List AbsV} {A : AE} {ew : WX} {o : Out}
theorem EX.ev (h : EX K E te ew o) (e : o = .inl (.val r)) : EV K E te r := fun B G0 σ G H k Q q => h B G0 σ G H k Q (fun s v G' H' z x rv => by
  rw [e] at z
  cases z
  exact q v G' H' x rv) fun C G' H' z => by rw [e] at z; cases z
theorem EX.evf (h : EX K E te ew o) (e : o = .inl (.own l)) : EVF K E te l := fun B G0 σ G H k Q q => h B G0 σ G H k Q (fun s v G' H' z x rv => by
  rw [e] at z
  cases z
  obtain ⟨p, ws, e, h1, g2, h2, pr⟩ := rv
  subst e
  exact q p ws G' H' x h1 g2 h2 pr) fun C G' H' z => by rw [e] at z; cases z
end
def spE (K : PySem.W.Frag) {X : Type} (args : X → List Slot) (pre : X → Prop) (out : X → Out) : Sp := fun vs H Q E => ∃ (x : X) (G : Hp), pre x ∧ Gd K G H ∧ Paired (ArgOk K G H) (args x) vs ∧ (∀ r, out x = .inl r → ∀ v G' H', Ext G H G' H' → ResOk G H G' H' r v → Q v H') ∧ (∀ C, out x = .inr C → ∀ G' H', Ext G H G' H' → E (.ref C) none H')
def spIE (K : PySem.W.Frag) (C : Addr) {X : Type} (args : X → List Slot) (pre : X → Prop) (fs : X → List (Str × AbsV)) (bad : X → Option Addr) : Sp := fun vs H Q E => ∃ (x : X) (p dx : Addr) (Hb G : Hp) (us : List V), vs = .ref p :: us ∧ Hb p = none ∧ Hb dx = none ∧ dx ≠ p ∧ H = upd (upd Hb dx (.own p)) p (.ins C dx []) ∧ pre x ∧ Gd K G Hb ∧ Paired (ArgOk K G Hb) (args x) us ∧
  (bad x = none → ∀ G' H', Ext G Hb G' H' → (inA C (fs x)).rep G' (.ref p) → Q .non H') ∧ (∀ D, bad x = some D → ∀ G' H', Ext G Hb G' H' → E (.ref D) none H')
theorem ResOk.later {G H G1 H1 G' H' : Hp} {s : Slot} {v : V} (x : Ext G H G1 H1) (h : ResOk G1 H1 G' H' s v) : ResOk G H G' H' s v := by
  cases s with
  | val r => exact h
  | own l =>
    obtain ⟨p, ws, e, h1, g2, h2, pr⟩ := h
    exact ⟨p, ws, e, x.h.free h1, g2, h2, pr⟩
  | un => exact h
  | red _ => exact h
  | scr _ => exact h
  | dic _ => exact h
  | dct _ => exact h
  | thg _ _ => exact h
  | ins _ _ _ => exact h
  | nst _ _ _ => exact h
section
variable {K : PySem.W.Frag} {E : List Slot} {te : TE} {ta : TA} {r : AbsV} {l : List AbsV} {X : Type} {args : X → List Slot} {pre : X → Prop} {out : X → Out} {Ex : XK} {W : WX} {C : Addr} {fs : List (Str × AbsV)}
end
def AX (o : Out) (Ex : XK) : AE := { nx := fun _ => o = .inl (.val nN), bk := fun _ => False, ct := fun _ => False, rt := fun s' => o = .inl s', ex := fun _ C => o = .inr C, ew := fun cls d _ H => Ex cls d H }
section
variable {P : Program} {w : World} {K : PySem.W.Frag} {mg : Str → Option Value} {base : Heap}
theorem okE {X : Type} {args : X → List Slot} {pre : X → Prop} {out : X → Out} {x qual : Str} {st : Stmt} {f : Addr} {fd : FuncData} {N ps : List Str} {k : Nat} (F : Fun K x qual st f fd) (S : FnScope N ps (defScope st)) (la : ∀ x, (args x).length = ps.length)
    (hb : ∀ (cdv : Value) (A : Around) (outer : List Env) (s : Shared) (H : Hp) (E : XK), Room k (A.deeper (envOfC qual (defScope st) s.heap.objs.size f cdv)) →
      ∃ t, PSs (cxOf (CX P w) P w K mg base N qual (defScope st) f cdv A outer s H E) (defBody st) t ∧ ∀ x, pre x → ES K (args x ++ List.replicate (N.length - ps.length) .un) t (AX (out x) E)) : FnOk P w K mg base (CX P w) (k + 1) f fd ps (spE K args pre out) := by
  refine F.okX S (fun vs H Q E h => ?_) fun cdv A outer s H vs Q E hr h => ?_
  · obtain ⟨x, G, _, _, a, _⟩ := h
    rw [← P_len a, la]
  · obtain ⟨t, ht, he⟩ := hb cdv A outer s H E hr
    obtain ⟨x, G, hp, gh, a, q, qx⟩ := h
    refine ⟨t, ht, ?_⟩
    have lv : vs.length = ps.length := by rw [← P_len a, la]
    unfold L2.start
    rw [lv]
    refine he x hp H G _ G H _ (start_ok gh a _) ⟨fun E σ G' H' h' k' => ?_, fun _ _ _ _ h' _ => h'.elim, fun _ _ _ _ h' _ => h'.elim, fun r v G' H' h' k' rv => ?_, fun l p ws G' H' h' k' b g e pr => ?_, fun E' σ' G' H' C h' k' => ?_⟩
    · exact q _ h' _ G' H' ⟨k'.g0, k'.bh, k'.gh, k'.nb⟩ rfl
    · exact q _ h' _ G' H' ⟨k'.g0, k'.bh, k'.gh, k'.nb⟩ rv
    · exact q _ h' _ G' H' ⟨k'.g0, k'.bh, k'.gh, k'.nb⟩ ⟨p, ws, rfl, b, g, e, pr⟩
    · exact qx C h' G' H' ⟨k'.g0, k'.bh, k'.gh, k'.nb⟩
theorem okIE {C : Addr} {X : Type} {args : X → List Slot} {pre : X → Prop} {fs : X → List (Str × AbsV)} {bad : X → Option Addr} {qual : Str} {st : Stmt} {f : Addr} {fd : FuncData} {N ps : List Str} {k : Nat} (F : Fun K "__init__" qual st f fd) (S : FnScope N ps (defScope st)) (la : ∀ x, (args x).length + 1 = ps.length)
    (hb : ∀ (cdv : Value) (A : Around) (outer : List Env) (s : Shared) (H : Hp) (E : XK), Room k (A.deeper (envOfC qual (defScope st) s.heap.objs.size f cdv)) →
      ∃ t, PSs (cxOf (CX P w) P w K mg base N qual (defScope st) f cdv A outer s H E) (defBody st) t ∧ ∀ p x, pre x → ES K (.ins p C [] :: args x ++ List.replicate (N.length - ps.length) .un) t { nx := fun E' => bad x = none ∧ E'[0]? = some (.val (iaA p C (fs x))), bk := fun _ => False, ct := fun _ => False, rt := fun _ => False, ex := fun _ D => bad x = some D, ew := fun cls d _ H => E cls d H }) : FnOk P w K mg base (CX P w) (k + 1) f fd ps (spIE K C args pre fs bad) := by
  refine F.okX S (fun vs H Q E h => ?_) fun cdv A outer s H vs Q E hr h => ?_
  · obtain ⟨x, p, dx, Hb, G, us, e, _, _, _, _, _, _, a, _⟩ := h
    rw [e, List.length_cons, ← P_len a, la]
  · obtain ⟨t, ht, he⟩ := hb cdv A outer s H E hr
    obtain ⟨x, p, dx, Hb, G, us, e, np, nd, ne, eH, hp, gh, a, q, qx⟩ := h
    subst e
    refine ⟨t, ht, ?_⟩
    have lv : (V.ref p :: us).length = ps.length := by rw [List.length_cons, ← P_len a, la]
    have e0 : L2.start N (V.ref p :: us) = (some (V.ref p) :: us.map some) ++ List.replicate (N.length - ps.length) none := by
      unfold L2.start
      rw [lv]; rfl
    rw [e0]
    have s1 : Same Hb H := fun b o e => by
      rw [eH, upd_ne (ne_of_none e np), upd_ne (ne_of_none e nd)]; exact e
    have hH : H p = some (.ins C dx []) := by rw [eH, upd_same]
    have k0 : Ok K Hb G (.ins p C [] :: args x ++ List.replicate (N.length - ps.length) .un) ((some (V.ref p) :: us.map some) ++ List.replicate (N.length - ps.length) none) G H := by
      have k1 := start_ok (K := K) (G := G) (H := Hb) gh a (N.length - ps.length)
      have x1 : Ext G Hb G H := ⟨Same.refl _, (grow_of s1), gh.s.trans s1, fun _ _ e => e⟩
      have k2 := k1.ext x1
      refine ⟨k2.toOkB, k2.tb, .cons ⟨dx, [], rfl, np, gh.s.free np, hH, .nil⟩ k2.sl, fun i j r s s' ei ej mi mj si sj => ?_, fun i j q s s' ei ej mj hq => ?_⟩
      rotate_left
      · have : s.inn = [] := by
          cases i with
          | zero => have ei' : Slot.ins p C [] = s := Option.some.inj ei; rw [← ei']; rfl
          | succ i => exact Slot.inn_of (start_mut a (i := i) ei)
        rw [this] at hq; cases hq
      have only : ∀ (i : Nat) (s : Slot), (Slot.ins p C [] :: (args x ++ List.replicate (N.length - ps.length) Slot.un))[i]? = some s → s.mut = true → i = 0 := fun i s ei mi => by
        cases i with
        | zero => rfl
        | succ i =>
          have ei' : (args x ++ List.replicate (N.length - ps.length) Slot.un)[i]? = some s := ei
          have hf : s.mut = false := by
            by_cases hi : i < (args x).length
            · rw [List.getElem?_append_left hi] at ei'; exact no_mut a ei'
            · rw [List.getElem?_append_right (by omega)] at ei'
              have := List.mem_of_getElem? ei'
              have := (List.mem_replicate.mp this).2
              rw [this]; rfl
          rw [hf] at mi; cases mi
      rw [only i s ei mi, only j s' ej mj]
    refine he p x hp Hb G _ G H _ k0 ⟨fun E σ G' H' h' k' => ?_, fun _ _ _ _ h' _ => h'.elim, fun _ _ _ _ h' _ => h'.elim, fun r v G' H' h' _ _ => h'.elim, fun l p ws G' H' h' _ _ _ _ _ => h'.elim, fun E' σ' G' H' D h' k' => qx D h' G' H' ⟨k'.g0, k'.bh, k'.gh, k'.nb⟩⟩
    obtain ⟨o, e, v, e2, e3, rv⟩ := P_get k'.sl (show E[0]? = some (.val (iaA p C (fs x))) from h'.2)
    obtain ⟨dx', ws', g', pk⟩ := rv
    exact q h'.1 G' H' ⟨k'.g0, k'.bh, k'.gh, k'.nb⟩ ⟨p, dx', ws', rfl, g', pk⟩
end
structure CalX (P : Program) (w : World) (K : PySem.W.Frag) (mg : Str → Option Value) (base : Heap) (k : Nat) (x : Str) (sp : Sp) : Prop where
  ex : ∃ (f : Addr) (fd : FuncData) (ps : List Str), FnOk P w K mg base (CX P w) k f fd ps sp ∧ mg x = some (.ref f) ∧ PySem.W.keepIn K (.ref f) = true ∧ Binds K fd ps []
structure MetX (P : Program) (w : World) (K : PySem.W.Frag) (mg : Str → Option Value) (base : Heap) (k : Nat) (C : Addr) (m : Str) (sp : Sp) : Prop where
  ex : Cls K C ∧ ∃ (f : Addr) (fd : FuncData) (ps : List Str), FnOk P w K mg base (CX P w) k f fd ps sp ∧ Meth K C m f ∧ Binds K fd ps []
structure MakX (P : Program) (w : World) (K : PySem.W.Frag) (mg : Str → Option Value) (base : Heap) (k : Nat) (x : Str) (C : Addr) (sp : Sp) : Prop where
  ex : ∃ (f : Addr) (fd : FuncData) (ps : List Str), Mk K C f ∧ FnOk P w K mg base (CX P w) k f fd ps sp ∧ mg x = some (.ref C) ∧ Binds K fd ps []
structure ExcC (K : PySem.W.Frag) (mg : Str → Option Value) (x : Str) (C : Addr) : Prop where
  g : mg x = some (.ref C)
  x : PySem.W.excIn K C [.type "ValueError", .type "Exception", .type "BaseException", .type "object"] "ValueError.__new__" = true
  k : PySem.W.keepIn K (.ref C) = true
  b : PySem.W.subIn K (.ref C) (.type "BaseException") = some true
  t : PySem.W.typeIn K (.ref C) = some (.type "type")
  e : PySem.W.exmOne K (.ref C) (.ref C) = some true
structure MetAt (K : PySem.W.Frag) (C : Addr) (m qual : Str) (st : Stmt) (ps : List Str) : Prop where
  ex : Cls K C ∧ ∃ (f : Addr) (fd : FuncData), Fun K m qual st f fd ∧ Meth K C m f ∧ Binds K fd ps []
structure MakAt (K : PySem.W.Frag) (mg : Str → Option Value) (C : Addr) (x qual : Str) (st : Stmt) (ps : List Str) : Prop where
  ex : ∃ (f : Addr) (fd : FuncData), Fun K "__init__" qual st f fd ∧ Mk K C f ∧ mg x = some (.ref C) ∧ Binds K fd ps []
theorem exc_self {K : PySem.W.Frag} {S : Addr} (h1 : PySem.W.subIn K (.ref S) (.type "BaseException") = some true) (h2 : PySem.W.isClsIn K S = true) (h3 : PySem.W.typeIn K (.ref S) = some (.type "type")) (h4 : PySem.W.subIn K (.ref S) (.ref S) = some true) : PySem.W.exmOne K (.ref S) (.ref S) = some true := by
  have a : (PySem.W.clsIn K S).isSome = true := h2
  unfold PySem.W.exmOne PySem.W.kitCls
  simp [h1, h3, h4, a]
section
variable {X : Cx} {e o : Expr} {es : List Expr} {t : TA} {ta : TE} {p pos : Pos} {sp : Sp} {x m : Str} {j k : Nat} {Ex : XK} {C : Addr}
theorem pe_cx (c : CalX X.prog X.w X.K X.mg X.base k x sp) (hr : Room j X.A) (hk : k ≤ j) (hg : Gl X x) (hx : Passes (CX X.prog X.w) X Ex) (ha : PA X (e :: es) t)
    (hdb : (x == ("__debug__" : Str)) = false := by decide) (he : starEach (e :: es) X.env = (false, eval e X.env) :: starEach es X.env := by rfl) (hpl : (backTo pos (starEach es X.env)).any (·.1) = false := by rfl) :
    PE X (.Call (.Name x p) (e :: es) [] pos) (tCall sp [] Ex t) := by
  obtain ⟨f, fd, ps, F, hm, kp, b⟩ := c.ex
  exact pe_call F (hr.mono hk) hg hm kp b .nil hx ha hdb he hpl
theorem pe_mx (c : MakX X.prog X.w X.K X.mg X.base k x C sp) (hr : Room j X.A) (hk : k + 1 ≤ j) (hg : Gl X x) (hx : Passes (CX X.prog X.w) X Ex) (ha : PA X (e :: es) t)
    (hdb : (x == ("__debug__" : Str)) = false := by decide) (he : starEach (e :: es) X.env = (false, eval e X.env) :: starEach es X.env := by rfl) (hpl : (backTo pos (starEach es X.env)).any (·.1) = false := by rfl) :
    PE X (.Call (.Name x p) (e :: es) [] pos) (tMake C sp [] Ex t) := by
  obtain ⟨f, fd, ps, M, F, hm, b⟩ := c.ex
  exact pe_make M F (hr.mono hk) hg hm b .nil hx ha hdb he hpl
end
end Ab
set_option maxHeartbeats 2000000
namespace Ab
variable [Ab.Tabl]
open PySem PySem.Spec PyProof.Rows L2
section
variable {X : Cx} {e o : Expr} {es : List Expr} {t : TA} {ta : TE} {p pos apos : Pos} {sp : Sp} {x m : Str} {j k : Nat} {Ex : XK} {C : Addr} {pl : Sem Bool}
end
section
variable {P : Program} {w : World} {K : PySem.W.Frag} {mg : Str → Option Value} {base : Heap}
theorem calX {X : Type} {args : X → List Slot} {pre : X → Prop} {out : X → Out} {x : Str} {st : Stmt} {N ps : List Str} {k : Nat} (d : DefAt K mg x st ps) (S : FnScope N ps (defScope st)) (la : ∀ x, (args x).length = ps.length)
    (hb : ∀ (f : Addr) (cdv : Value) (A : Around) (outer : List Env) (s : Shared) (H : Hp) (E : XK), Room k (A.deeper (envOfC x (defScope st) s.heap.objs.size f cdv)) →
      ∃ t, PSs (cxOf (CX P w) P w K mg base N x (defScope st) f cdv A outer s H E) (defBody st) t ∧ ∀ x, pre x → ES K (args x ++ List.replicate (N.length - ps.length) .un) t (AX (out x) E)) : CalX P w K mg base (k + 1) x (spE K args pre out) := by
  obtain ⟨f, fd, F, hm, b⟩ := d.ex
  exact ⟨f, fd, ps, okE F S la (fun cdv A outer s H E hr => hb f cdv A outer s H E hr), hm, F.kp, b⟩
theorem metX {X : Type} {args : X → List Slot} {pre : X → Prop} {out : X → Out} {C : Addr} {m qual : Str} {st : Stmt} {N ps : List Str} {k : Nat} (d : MetAt K C m qual st ps) (S : FnScope N ps (defScope st)) (la : ∀ x, (args x).length = ps.length)
    (hb : ∀ (f : Addr) (cdv : Value) (A : Around) (outer : List Env) (s : Shared) (H : Hp) (E : XK), Room k (A.deeper (envOfC qual (defScope st) s.heap.objs.size f cdv)) →
      ∃ t, PSs (cxOf (CX P w) P w K mg base N qual (defScope st) f cdv A outer s H E) (defBody st) t ∧ ∀ x, pre x → ES K (args x ++ List.replicate (N.length - ps.length) .un) t (AX (out x) E)) : MetX P w K mg base (k + 1) C m (spE K args pre out) := by
  obtain ⟨cl, f, fd, F, hm, b⟩ := d.ex
  exact ⟨cl, f, fd, ps, okE F S la (fun cdv A outer s H E hr => hb f cdv A outer s H E hr), hm, b⟩
theorem makX {C : Addr} {X : Type} {args : X → List Slot} {pre : X → Prop} {fs : X → List (Str × AbsV)} {bad : X → Option Addr} {x qual : Str} {st : Stmt} {N ps : List Str} {k : Nat} (d : MakAt K mg C x qual st ps) (S : FnScope N ps (defScope st)) (la : ∀ x, (args x).length + 1 = ps.length)
    (hb : ∀ (f : Addr) (cdv : Value) (A : Around) (outer : List Env) (s : Shared) (H : Hp) (E : XK), Room k (A.deeper (envOfC qual (defScope st) s.heap.objs.size f cdv)) →
      ∃ t, PSs (cxOf (CX P w) P w K mg base N qual (defScope st) f cdv A outer s H E) (defBody st) t ∧ ∀ p x, pre x → ES K (.ins p C [] :: args x ++ List.replicate (N.length - ps.length) .un) t { nx := fun E' => bad x = none ∧ E'[0]? = some (.val (iaA p C (fs x))), bk := fun _ => False, ct := fun _ => False, rt := fun _ => False, ex := fun _ D => bad x = some D, ew := fun cls d _ H => E cls d H }) : MakX P w K mg base (k + 1) x C (spIE K C args pre fs bad) := by
  obtain ⟨f, fd, F, M, hm, b⟩ := d.ex
  exact ⟨f, fd, ps, M, okIE F S la (fun cdv A outer s H E hr => hb f cdv A outer s H E hr), hm, b⟩
end
section
variable {K : PySem.W.Frag} {E : List Slot} {ta tb te : TE} {r : AbsV} {l : List AbsV} {A : AE}
theorem units1 {k : Nat} {A : Around} (h : Room k A) : A.units + 1 < cLine := by have := h.units; omega
def rgI (a b : Int) : List Int := (List.range (b - a).toNat).map fun i => a + (i : Nat)
end
end Ab
set_option maxHeartbeats 2000000
namespace Ab
variable [Ab.Tabl]
open PySem PySem.Spec PyProof.Rows L2
section
variable {K : PySem.W.Frag} {E : List Slot} {ta tb tc te ti : TE} {t u : TT} {ts us : TS} {r s : AbsV} {l m : List AbsV} {A : AE}
abbrev InnOk (B G H : Hp) (q : Addr) (l : List AbsV) : Prop := B q = none ∧ G q = none ∧ ∃ vs, H q = some (.lst vs) ∧ PR G vs l
theorem inn_set {B G H : Hp} {q : Addr} {vs : List V} {l' : List AbsV} (pr : PR G vs l') (hb : B q = none) (hg : G q = none) : ∀ {qs : List Addr} {L : List (List AbsV)} {c : Nat}, Paired (InnOk B G H) qs L → qs.Nodup → qs[c]? = some q → Paired (InnOk B G (upd H q (.lst vs))) qs (L.set c l')
  | _, _, c, .nil, _, h => by simp at h
  | q0 :: qs, l0 :: L, 0, .cons a t, nd, h => by
    have e : q0 = q := Option.some.inj h
    subst e
    have nd2 := (List.nodup_cons.mp nd).1
    refine .cons ⟨hb, hg, vs, upd_same, pr⟩ ?_
    clear nd h a
    induction t with
    | nil => exact .nil
    | cons x t ih =>
      obtain ⟨b1, g1, ws, h1, r1⟩ := x
      exact .cons ⟨b1, g1, ws, by rw [upd_ne (fun z => nd2 (by rw [z]; exact List.mem_cons_self ..))]; exact h1, r1⟩ (ih fun z => nd2 (List.mem_cons_of_mem _ z))
  | q0 :: qs, l0 :: L, c + 1, .cons a t, nd, h => by
    have hm : q ∈ qs := List.mem_of_getElem? (i := c) h
    have ne : q0 ≠ q := fun z => (List.nodup_cons.mp nd).1 (by rw [z]; exact hm)
    obtain ⟨b1, g1, ws, h1, r1⟩ := a
    exact .cons ⟨b1, g1, ws, by rw [upd_ne ne]; exact h1, r1⟩ (inn_set pr hb hg t (List.nodup_cons.mp nd).2 (c := c) h)
theorem inn_ne {B G H : Hp} {q : Addr} {o : HO} : ∀ {qs : List Addr} {L : List (List AbsV)}, Paired (InnOk B G H) qs L → q ∉ qs → Paired (InnOk B G (upd H q o)) qs L
  | _, _, .nil, _ => .nil
  | q0 :: qs, l0 :: L, .cons a t, h => by
    obtain ⟨b1, g1, ws, h1, r1⟩ := a
    exact .cons ⟨b1, g1, ws, by rw [upd_ne (fun z => h (by rw [z]; exact List.mem_cons_self ..))]; exact h1, r1⟩ (inn_ne t fun z => h (List.mem_cons_of_mem _ z))
theorem okUpdN {B G0 G H : Hp} {σ : L2.St} {i c : Nat} {p q : Addr} {qs : List Addr} {L : List (List AbsV)} {l' : List AbsV} {vs : List V} (k : Ok K B G0 E σ G H) (h : E[i]? = some (.nst p qs L)) (hq : qs[c]? = some q) (pr : PR G vs l') : Ok K B G0 (E.set i (.nst p qs (L.set c l'))) σ G (upd H q (.lst vs)) := by
  obtain ⟨o, eO, so⟩ := P_get k.sl h
  obtain ⟨e0, bp, gp, hp, pq, nd⟩ := id so
  have hm : q ∈ qs := List.mem_of_getElem? hq
  obtain ⟨lq, hL, bq, gq, ws, hqw, _⟩ : ∃ lq, L[c]? = some lq ∧ InnOk B G H q lq := P_get pq hq
  have hl : i < E.length := (List.getElem?_eq_some_iff.mp h).1
  have own : ∀ (a : Nat) (n : Slot), (E.set i (.nst p qs (L.set c l')))[a]? = some n → ∃ n', E[a]? = some n' ∧ n'.inn = n.inn ∧ (n.mut = true → n'.mut = true) := fun a n ea => by
    rcases get_set ea with ⟨rfl, rfl⟩ | ⟨_, ea⟩
    · exact ⟨_, h, rfl, fun _ => rfl⟩
    · exact ⟨n, ea, rfl, fun z => z⟩
  refine ⟨⟨k.bh.mut bq (fun v z => by rw [hqw] at z; cases z; exact pl_lst), fun b u z => ?_, k.g0, k.nb⟩, fun t ht => ⟨(k.tb t ht).1.upd hqw pl_lst, (k.tb t ht).2⟩, ?_, fun a d r n n' ea ed ma md sa sd => ?_, fun a d q' n n' ea ed md hq' => ?_⟩
  · rw [upd_ne (ne_of_none z gq)]; exact k.gh b u z
  · refine P_of (by rw [List.length_set]; exact P_len k.sl) fun j t o' hs' ho => ?_
    by_cases hj : i = j
    · subst hj
      rw [List.getElem?_set_self hl] at hs'
      rw [eO] at ho
      cases hs'; cases ho
      refine ⟨e0, bp, gp, ?_, inn_set pr bq gq pq (List.nodup_cons.mp nd).2 hq, nd⟩
      rw [upd_ne (fun z => (List.nodup_cons.mp nd).1 (by rw [z]; exact hm))]
      exact hp
    · rw [List.getElem?_set_ne hj] at hs'
      obtain ⟨o2, eo, so'⟩ := P_get k.sl hs'
      have hoo : o2 = o' := by rw [eo] at ho; exact Option.some.inj ho
      rw [hoo] at so'
      have np : ∀ p' : Addr, t.mut = true → o' = some (V.ref p') → p' ≠ q := fun p' mt e' z => by
        rw [z] at e'
        exact (k.dn i j q _ t h hs' mt hm).1 (by rw [ho, e'])
      cases t with
      | un => trivial
      | val r' => exact so'
      | own l' =>
        obtain ⟨p', vs', e', b', g', h', pr'⟩ := so'
        exact ⟨p', vs', e', b', g', by rw [upd_ne (np p' rfl e')]; exact h', pr'⟩
      | dic l' =>
        obtain ⟨p', vs', e', b', g', h', pr'⟩ := so'
        exact ⟨p', vs', e', b', g', by rw [upd_ne (np p' rfl e')]; exact h', pr'⟩
      | dct l' =>
        obtain ⟨p', vs', e', b', g', h', pr'⟩ := so'
        exact ⟨p', vs', e', b', g', by rw [upd_ne (np p' rfl e')]; exact h', pr'⟩
      | thg q' R' =>
        obtain ⟨p', u', e', b', g', h', pr'⟩ := so'
        exact ⟨p', u', e', b', g', by rw [upd_ne (np p' rfl e')]; exact h', pr'⟩
      | ins p' C l' =>
        obtain ⟨dx', vs', e', b', g', h', pr'⟩ := so'
        exact ⟨dx', vs', e', b', g', by rw [upd_ne (np p' rfl e')]; exact h', pr'⟩
      | nst p' qs' L' =>
        obtain ⟨e', b', g', h', q', nd'⟩ := so'
        refine ⟨e', b', g', by rw [upd_ne (np p' rfl e')]; exact h', inn_ne q' fun z => hj ((k.dn i j q _ _ h hs' rfl hm).2 z), nd'⟩
      | red l' => exact so'
      | scr ns => exact so'
  · obtain ⟨n1, ea', _, m1⟩ := own a n ea
    obtain ⟨n2, ed', _, m2⟩ := own d n' ed
    exact k.ds a d r n1 n2 ea' ed' (m1 ma) (m2 md) sa sd
  · obtain ⟨n1, ea', i1, _⟩ := own a n ea
    obtain ⟨n2, ed', i2, m2⟩ := own d n' ed
    rw [← i1] at hq'
    rw [← i2]
    exact k.dn a d q' n1 n2 ea' ed' (m2 md) hq'
theorem nst_get {B G H : Hp} {qs : List Addr} {L : List (List AbsV)} {c : Nat} {l : List AbsV} (h : Paired (InnOk B G H) qs L) (hl : L[c]? = some l) : ∃ q, qs[c]? = some q ∧ InnOk B G H q l := by
  have hlen := P_len h
  have hc : c < qs.length := by have := (List.getElem?_eq_some_iff.mp hl).1; omega
  obtain ⟨l2, e, r⟩ := P_get h (List.getElem?_eq_getElem hc)
  rw [hl] at e
  cases e
  exact ⟨_, List.getElem?_eq_getElem hc, r⟩
abbrev rIns : V → List V → Hp → VK → Prop := fun x vs H Q => ∃ (l : Addr) (xs : List V) (i : Int) (y : V), x = .ref l ∧ vs = [.int i, y] ∧ H l = some (.lst xs) ∧ xs.length < sizeLine ∧ 0 ≤ i ∧ i < 2 ^ 63 ∧ Q .non (upd H l (.lst (xs.take i.toNat ++ [y] ++ xs.drop i.toNat)))
theorem es_insN {i c : Nat} {n a : Int} {p : Addr} {qs : List Addr} {L : List (List AbsV)} (hx : E[i]? = some (.nst p qs L)) (hb : EV K E tb (nI n)) (hn : n = (c : Int)) (hc : L[c]? = some l) (ha : EV K E ta (nI a)) (h0 : 0 ≤ a ∧ a < 2 ^ 62) (h : EV K E te r) (hl : l.length < 100000) (q : A.nx (E.set i (.nst p qs (L.set c (l.take a.toNat ++ [r] ++ l.drop a.toNat))))) :
    ES K E (tDrop (tBM K "list" rIns (tOp (rIxL K) (tVar i) tb) (tCons ta (tCons te tNil)))) A := fun B G0 σ G H D k S => by
  obtain ⟨o, eO, e0, bp, gp, hp, pq, nd⟩ := P_get k.sl hx
  obtain ⟨ad, had, b1, g1, ws, h1, r1⟩ := nst_get pq hc
  refine ⟨.ref p, by rw [eO, e0], hb B G0 σ G H k _ fun y G2 H2 x2 r2 => ⟨p, qs.map V.ref, n, .ref ad, rfl, r2, SqL.of (x2.h.at _ _ hp), at_of hn (by rw [List.getElem?_map, had]; rfl), .inl ⟨rfl, _, SqL.of (x2.h.at _ _ h1)⟩, ?_⟩⟩
  refine ha B G0 σ G2 H2 (k.ext x2) _ fun v G3 H3 x3 r3 => h B G0 σ G3 H3 ((k.ext x2).ext x3) _ fun w G4 H4 x4 r4 => ?_
  cases r3
  have x24 := x2.trans (x3.trans x4)
  have k4 := k.ext x24
  have pr := r1.mono x24.g
  refine ⟨ad, ws, a, w, rfl, rfl, x24.h.at _ _ h1, by rw [r1.len]; exact smallT hl, h0.1, by omega, S.nx _ _ _ _ q (okUpdN k4 hx had ?_)⟩
  exact ((pr.take a.toNat).append (.cons r4 .nil)).append (pr.drop a.toNat)
theorem okSetN {B G0 G H : Hp} {σ : L2.St} {p : Addr} {qs : List Addr} {L : List (List AbsV)} (k : Ok K B G0 E σ G H) (i : Nat) (h : SlotOk K B G H (.nst p qs L) (some (.ref p)))
    (hn : ∀ (j : Nat) (s' : Slot), j ≠ i → E[j]? = some s' → s'.mut = true → ∀ q ∈ p :: qs, σ[j]? ≠ some (some (.ref q)) ∧ q ∉ s'.inn) : Ok K B G0 (E.set i (.nst p qs L)) (σ.set i (some (.ref p))) G H := by
  have hl : E.length = σ.length := P_len k.sl
  have nd : (p :: qs).Nodup := h.2.2.2.2.2
  have mutOf : ∀ {l : Slot} {q : Addr}, q ∈ l.inn → l.mut = true := fun {l q} hq => by
    cases l <;> first | rfl | cases hq
  have at_i : ∀ {q : Addr}, (σ.set i (some (.ref p)))[i]? = some (some (V.ref q)) → q = p := fun {q} z => by
    have hli : i < σ.length := by
      have := (List.getElem?_eq_some_iff.mp z).1
      simpa using this
    rw [List.getElem?_set_self hli] at z
    cases z; rfl
  refine ⟨k.toOkB, k.tb, P_set h i k.sl, fun a c r m m' ea ec ma mc sa sc => ?_, fun a c q m m' ea ec mc hq => ?_⟩
  · rcases get_set ea with ⟨ha, rfl⟩ | ⟨na, ea1⟩
    · rcases get_set ec with ⟨hc, rfl⟩ | ⟨nc, ec1⟩
      · rw [ha, hc]
      · rw [ha] at sa
        have e := at_i sa
        subst e
        rw [List.getElem?_set_ne nc] at sc
        exact absurd sc (hn c m' (fun z => nc z.symm) ec1 mc _ (List.mem_cons_self ..)).1
    · rw [List.getElem?_set_ne na] at sa
      rcases get_set ec with ⟨hc, rfl⟩ | ⟨nc, ec1⟩
      · rw [hc] at sc
        have e := at_i sc
        subst e
        exact absurd sa (hn a m (fun z => na z.symm) ea1 ma _ (List.mem_cons_self ..)).1
      · rw [List.getElem?_set_ne nc] at sc
        exact k.ds a c r m m' ea1 ec1 ma mc sa sc
  · rcases get_set ea with ⟨ha, rfl⟩ | ⟨na, ea1⟩
    · rcases get_set ec with ⟨hc, rfl⟩ | ⟨nc, ec1⟩
      · refine ⟨fun z => ?_, fun _ => by rw [ha, hc]⟩
        rw [hc] at z
        have e := at_i z
        subst e
        exact (List.nodup_cons.mp nd).1 hq
      · rw [List.getElem?_set_ne nc]
        have := hn c m' (fun z => nc z.symm) ec1 mc q (List.mem_cons_of_mem _ hq)
        exact ⟨this.1, fun z => absurd z this.2⟩
    · have ha := hn a m (fun z => na z.symm) ea1 (mutOf hq)
      rcases get_set ec with ⟨hc, rfl⟩ | ⟨nc, ec1⟩
      · refine ⟨fun z => ?_, fun z => absurd hq (ha q (List.mem_cons_of_mem _ z)).2⟩
        rw [hc] at z
        have e := at_i z
        subst e
        exact (ha _ (List.mem_cons_self ..)).2 hq
      · rw [List.getElem?_set_ne nc]
        exact k.dn a c q m m' ea1 ec1 mc hq
def NewN (G1 H1 : Hp) (D : Addr) (c : Nat) (H : Hp) : Prop := ∃ qs : List Addr, Ext G1 H1 G1 H ∧ H D = some (.lst (qs.map V.ref)) ∧ (∀ q ∈ qs, H1 q = none ∧ H q = some (.lst [])) ∧ (D :: qs).Nodup ∧ qs.length = c
theorem inn_new {B G H : Hp} : ∀ {qs : List Addr}, (∀ q ∈ qs, B q = none ∧ G q = none ∧ H q = some (.lst [])) → Paired (InnOk B G H) qs (List.replicate qs.length [])
  | [], _ => .nil
  | q :: qs, h => by
    obtain ⟨a, b, d⟩ := h q (List.mem_cons_self ..)
    exact .cons ⟨a, b, [], d, .nil⟩ (inn_new fun q hq => h q (List.mem_cons_of_mem _ hq))
theorem es_asgN {lo : Int} {n : Nat} {wi : TI} {i j : Nat} (hw : ∀ (B G0 : Hp) (σ : L2.St) (G H : Hp), Ok K B G0 E σ G H → ∀ R : It → Hp → Prop, (∀ G' H', Ext G H G' H' → R (Itr lo n) H') → wi σ H R) (hn : n ≤ 100000)
    (q : ∀ p qs, A.nx (E.set i (.nst p qs (List.replicate n [])))) : ES K E (tAsg (tLc wi (gName j) tYes (tLst tNil) [j]) (gName i)) A := fun B G0 σ G H D k S =>
  hw B G0 σ G H k _ fun G1 H1 x1 d hd => by
    have k1 := k.ext x1
    refine lc_range (NewN G1 H1 d) ⟨[], Ext.newO k1.gh hd, upd_same, (fun _ h => nomatch h), List.nodup_cons.mpr ⟨List.not_mem_nil, List.nodup_nil⟩, rfl⟩ (fun c H' hc hp => ?_) fun H' hp => ?_
    · obtain ⟨qs, x, hD, hq, nd, hlen⟩ := hp
      refine ⟨wipe_set, ?_⟩
      dsimp only [tYes]
      rw [if_pos rfl]
      refine ⟨small (by decide), fun a ha => ?_⟩
      have nad : d ≠ a := fun z => by rw [z, ha] at hD; cases hD
      have h1a : H1 a = none := by
        cases e : H1 a with
        | none => rfl
        | some u => exact absurd ha (x.h.some (by rw [e]; exact fun z => nomatch z))
      refine ⟨qs.map V.ref, by rw [upd_ne nad]; exact hD, by rw [List.length_map, hlen]; exact smallT (by omega), qs ++ [a], ?_, ?_, fun q hq2 => ?_, ?_, by rw [List.length_append, hlen]; rfl⟩
      · refine ⟨x.g, (x.h.trans (grow_of fun b u e => by rw [upd_ne (ne_of_none e ha)]; exact e)).mut hd (fun v z => by rw [upd_ne nad, hD] at z; cases z; exact pl_lst), fun b u e => ?_, fun _ _ e => e⟩
        · have eb := k1.gh b u e
          rw [upd_ne (ne_of_none eb hd), upd_ne (ne_of_none eb h1a)]; exact x.gh b u e
      · rw [upd_same, List.map_append]; rfl
      · rcases List.mem_append.mp hq2 with z | z
        · obtain ⟨z1, z2⟩ := hq q z
          have n1 : q ≠ d := fun e => (List.nodup_cons.mp nd).1 (by rw [← e]; exact z)
          have n2 : q ≠ a := fun e => by rw [e, ha] at z2; cases z2
          exact ⟨z1, by rw [upd_ne n1, upd_ne n2]; exact z2⟩
        · have e : q = a := by simpa using z
          subst e
          exact ⟨h1a, by rw [upd_ne (fun e => nad e.symm)]; exact upd_same⟩
      · have nq : a ∉ qs := fun z => by
          have := (hq a z).2
          rw [ha] at this; cases this
        rw [List.nodup_cons, List.nodup_append]
        refine ⟨fun z => ?_, (List.nodup_cons.mp nd).2, by simp, fun b hb c hc e => ?_⟩
        · rcases List.mem_append.mp z with z | z
          · exact (List.nodup_cons.mp nd).1 z
          · exact nad (by simpa using z)
        · have : c = a := by simpa using hc
          rw [e, this] at hb
          exact nq hb
    · obtain ⟨qs, x, hD, hq, nd, hlen⟩ := hp
      subst hlen
      refine S.nx _ _ G1 H' (q d qs) (okSetN (k1.ext x) i ⟨rfl, k1.bh.free hd, k1.gh.free hd, hD, inn_new fun q hq2 => ⟨k1.bh.free (hq q hq2).1, k1.gh.free (hq q hq2).1, (hq q hq2).2⟩, nd⟩ fun j s' _ e m q hq2 => ?_)
      rcases List.mem_cons.mp hq2 with z | z
      · rw [z]; exact k1.fresh hd e m
      · exact k1.fresh (hq q z).1 e m
open Classical in
theorem es_freezeN {i : Nat} {p : Addr} {qs : List Addr} {L : List (List AbsV)} (h : E[i]? = some (.nst p qs L)) (q : ES K (E.set i (.val (lsA (L.map lsA)))) ts A) : ES K E ts A := fun B G0 σ G H D k S => by
  obtain ⟨o, eO, so⟩ := P_get k.sl h
  obtain ⟨e0, bp, gp, hp, pq, nd⟩ := id so
  subst e0
  have hl : i < E.length := (List.getElem?_eq_some_iff.mp h).1
  let G' : Hp := fun a => if a ∈ p :: qs then H a else G a
  have inG : ∀ {a}, a ∈ p :: qs → G' a = H a := fun {a} ha => if_pos ha
  have outG : ∀ {a}, a ∉ p :: qs → G' a = G a := fun {a} ha => if_neg ha
  have gn : ∀ a ∈ p :: qs, G a = none ∧ B a = none := fun a ha => by
    rcases List.mem_cons.mp ha with z | z
    · rw [z]; exact ⟨gp, bp⟩
    · obtain ⟨l, b1, g1, _⟩ := P_mem pq z
      exact ⟨g1, b1⟩
  have sg : Same G G' := fun b u e => by
    rw [outG fun z => by rw [(gn b z).1] at e; cases e]; exact e
  have kb : OkB B G0 G' H := ⟨k.bh, fun b u e => by
      by_cases z : b ∈ p :: qs
      · rw [inG z] at e; exact e
      · rw [outG z] at e; exact k.gh b u e, k.g0.trans sg, fun b hb e => by
      rw [outG fun z => hb.ne (gn b z).2]; exact k.nb b hb e⟩
  have rep : (lsA (L.map lsA)).rep G' (.ref p) := by
    refine ⟨p, qs.map V.ref, rfl, by rw [inG (List.mem_cons_self ..)]; exact hp, ?_⟩
    have : ∀ {as : List Addr} {L : List (List AbsV)}, (∀ a ∈ as, a ∈ p :: qs) → Paired (InnOk B G H) as L → PR G' (as.map V.ref) (L.map lsA) := fun {as L} ha hp => by
      induction hp with
      | nil => exact .nil
      | cons x t ih =>
        obtain ⟨b1, g1, vs, h1, r1⟩ := x
        exact .cons ⟨_, vs, rfl, by rw [inG (ha _ (List.mem_cons_self ..))]; exact h1, r1.mono sg⟩ (ih fun a hm => ha a (List.mem_cons_of_mem _ hm))
    exact this (fun a ha => List.mem_cons_of_mem _ ha) pq
  have pl : ∀ a ∈ p :: qs, ∀ u, H a = some u → Pl u := fun a ha u e => by
    rcases List.mem_cons.mp ha with z | z
    · rw [z, hp] at e; cases e; exact pl_lst
    · obtain ⟨l, _, _, vs, h1, _⟩ := P_mem pq z
      rw [h1] at e; cases e; exact pl_lst
  refine q B G0 σ G' H D ⟨kb, fun t ht => ⟨(k.tb t ht).1, by
      obtain ⟨ps, e1, _⟩ := (k.tb t ht).1
      rw [outG fun z => (pl _ z _ e1).1 _ rfl]; exact (k.tb t ht).2⟩, P_of (by rw [List.length_set]; exact P_len k.sl) fun j t o hs' ho => ?_, fun a c ra m m' ea ec ma mc sa sc => ?_, fun a c q m m' ea ec mc hq => ?_⟩ S
  · by_cases hj : i = j
    · subst hj
      rw [List.getElem?_set_self hl] at hs'
      rw [eO] at ho
      cases hs'; cases ho
      exact ⟨_, rfl, rep⟩
    · rw [List.getElem?_set_ne hj] at hs'
      obtain ⟨o', eo, so'⟩ := P_get k.sl hs'
      have hoo : o' = o := by rw [eo] at ho; exact Option.some.inj ho
      rw [hoo] at so'
      have np : ∀ p' : Addr, t.mut = true → o = some (V.ref p') → p' ∉ p :: qs := fun p' mt e' z => by
        rcases List.mem_cons.mp z with z | z
        · subst z
          exact hj (k.ds i j _ _ t h hs' rfl mt eO (by rw [ho, e']))
        · exact (k.dn i j p' _ t h hs' mt z).1 (by rw [ho, e'])
      cases t with
      | un => trivial
      | val r' => obtain ⟨v, e, rv⟩ := so'; exact ⟨v, e, r'.mono sg rv⟩
      | own l' =>
        obtain ⟨p', vs', e', b', g', h', pr'⟩ := so'
        exact ⟨p', vs', e', b', by rw [outG (np p' rfl e')]; exact g', h', pr'.mono sg⟩
      | dic l' =>
        obtain ⟨p', vs', e', b', g', h', pr'⟩ := so'
        exact ⟨p', vs', e', b', by rw [outG (np p' rfl e')]; exact g', h', pr'.mono sg⟩
      | dct l' =>
        obtain ⟨p', vs', e', b', g', h', pr'⟩ := so'
        exact ⟨p', vs', e', b', by rw [outG (np p' rfl e')]; exact g', h', pr'.mono sg⟩
      | thg q' R' =>
        obtain ⟨p', u', e', b', g', h', pr', f'⟩ := so'
        exact ⟨p', u', e', b', by rw [outG (np p' rfl e')]; exact g', h', R'.mono sg pr', f'⟩
      | ins p' C l' =>
        obtain ⟨dx', vs', e', b', g', h', pr'⟩ := so'
        exact ⟨dx', vs', e', b', by rw [outG (np p' rfl e')]; exact g', h', pr'.mono sg⟩
      | nst p' qs' L' =>
        obtain ⟨e', b', g', h', q', nd'⟩ := so'
        have nq : ∀ a ∈ qs', a ∉ p :: qs := fun a ha z => by
          rcases List.mem_cons.mp z with z | z
          · subst z
            exact (k.dn j i a _ _ hs' h rfl ha).1 eO
          · exact hj ((k.dn i j a _ _ h hs' rfl z).2 ha)
        have all : ∀ {as : List Addr} {L : List (List AbsV)}, (∀ a ∈ as, a ∉ p :: qs) → Paired (InnOk B G H) as L → Paired (InnOk B G' H) as L := fun {as L} ha hp => by
          induction hp with
          | nil => exact .nil
          | cons x t ih =>
            obtain ⟨b1, g1, vs, h1, r1⟩ := x
            exact .cons ⟨b1, by rw [outG (ha _ (List.mem_cons_self ..))]; exact g1, vs, h1, r1.mono sg⟩ (ih fun a hm => ha a (List.mem_cons_of_mem _ hm))
        exact ⟨e', b', by rw [outG (np p' rfl e')]; exact g', h', all nq q', nd'⟩
      | red l' => obtain ⟨p', vs', e', b', pr'⟩ := so'; exact ⟨p', vs', e', b', pr'.mono sg⟩
      | scr ns => exact so'
  · rcases get_set ea with ⟨_, rfl⟩ | ⟨na, ea1⟩
    · cases ma
    · rcases get_set ec with ⟨_, rfl⟩ | ⟨nc, ec1⟩
      · cases mc
      · exact k.ds a c ra m m' ea1 ec1 ma mc sa sc
  · rcases get_set ea with ⟨_, rfl⟩ | ⟨na, ea1⟩
    · cases hq
    · rcases get_set ec with ⟨_, rfl⟩ | ⟨nc, ec1⟩
      · cases mc
      · exact k.dn a c q m m' ea1 ec1 mc hq
end
end Ab
set_option maxHeartbeats 2000000
namespace Ab
variable [Ab.Tabl]
open PySem PySem.Spec PyProof.Rows L2
def ndb (ns : List Int) : Bool := decide (dd ns = ns.length)
def okNames (ns : List Int) : Bool := !ns.isEmpty && (ns.all (fun x => decide (0 ≤ x)) && ndb ns)
def okRow (n : Int) (row : List Int) (size : Int) : Bool := row.all (fun o => decide (0 ≤ o) && decide (o < size) && !decide (o = n)) && ndb row
theorem fm_len {val : Nat → Int} : ∀ i : Nat, (PyProof.Rows.firstMet val i).length = i → ∀ a b, a < b → b < i → val a ≠ val b
  | 0, _, a, b, _, h => by omega
  | i + 1, hl, a, b, h1, h2 => by
    have hle := PyProof.Rows.firstMet_length_le val i
    rw [PyProof.Rows.firstMet_succ] at hl
    unfold PyProof.Rows.step_dedup at hl
    split at hl
    · omega
    · rename_i hno
      rw [List.length_append] at hl
      have hl2 : (PyProof.Rows.firstMet val i).length = i := by simpa using hl
      by_cases hb : b < i
      · exact fm_len i hl2 a b h1 hb
      · have e : b = i := by omega
        subst e
        intro z
        apply hno
        rw [PyProof.Rows.firstMet_any, List.any_eq_true]
        exact ⟨val a, List.mem_map.mpr ⟨a, List.mem_range.mpr h1, rfl⟩, by rw [z]; simp⟩
theorem ndb_iff {ns : List Int} : ndb ns = true ↔ ns.Nodup := by
  unfold ndb dd
  rw [decide_eq_true_eq]
  constructor
  · intro h
    rw [List.nodup_iff_pairwise_ne, List.pairwise_iff_getElem]
    intro a b ha hb hab
    have := fm_len _ h a b hab hb
    rw [List.getD_eq_getElem?_getD, List.getElem?_eq_getElem ha, List.getD_eq_getElem?_getD, List.getElem?_eq_getElem hb] at this
    exact this
  · intro h
    rw [RZ.firstMet_nodup h _ (Nat.le_refl _), List.take_length]
def okBack (nb : List (List Int)) : Bool := (List.range nb.length).all fun i => (nb.getD i []).all fun o => (nb.getD o.toNat []).contains (i : Int)
def okNet (ns : List Int) (nb : List (List Int)) : Bool := okNames ns && (decide (nb.length = ns.length) && ((List.range nb.length).all (fun i => okRow (i : Nat) (nb.getD i []) ns.length) && okBack nb))
def insL (L : List (List Int)) (c : Nat) (a x : Int) : List (List Int) := L.set c ((L.getD c []).take a.toNat ++ [x] ++ (L.getD c []).drop a.toNat)
def dNum (k n : Int) : Int := (n * 69621 + 12345 + k * 7) % 2147483647
def dGo (degree f g : Int) (L : List (List Int)) : Bool := !decide (f = g) && (!decide (g ∈ L.getD f.toNat []) && (decide (((L.getD f.toNat []).length : Int) < degree) && decide (((L.getD g.toNat []).length : Int) < degree)))
def dPut (n f g : Int) (L : List (List Int)) : List (List Int) := insL (insL L f.toNat ((n / 65536) % (((L.getD f.toNat []).length : Int) + 1)) g) g.toNat ((n / 262144) % ((((insL L f.toNat ((n / 65536) % (((L.getD f.toNat []).length : Int) + 1)) g).getD g.toNat []).length : Int) + 1)) f
def dStep (count degree k : Int) (s : Int × List (List Int)) : Int × List (List Int) :=
  (dNum k s.1, if dGo degree (dNum k s.1 / 16 % count) (dNum k s.1 / 4096 % count) s.2 = true then dPut (dNum k s.1) (dNum k s.1 / 16 % count) (dNum k s.1 / 4096 % count) s.2 else s.2)
def dSteps (count degree number : Int) : Nat → Int × List (List Int)
  | 0 => (number, List.replicate count.toNat [])
  | k + 1 => dStep count degree (k : Nat) (dSteps count degree number k)
theorem insL_len (L : List (List Int)) (c : Nat) (a x : Int) : (insL L c a x).length = L.length := by unfold insL; rw [List.length_set]
theorem dSteps_len (count degree number : Int) : ∀ k, (dSteps count degree number k).2.length = count.toNat
  | 0 => by show (List.replicate _ _).length = _; rw [List.length_replicate]
  | k + 1 => by
    show (if _ then dPut _ _ _ _ else _).length = _
    split
    · unfold dPut; rw [insL_len, insL_len]; exact dSteps_len count degree number k
    · exact dSteps_len count degree number k
def bump (names : List Int) : Nat → Int → Int
  | 0, m => m
  | j + 1, m => let m' := bump names j m; if decide (m' ∈ names) = true then m' + 1 else m'
def nStep (count : Int) (s : Int × List Int) : Int × List Int := let n := (s.1 * 48271 + 11) % 2147483647
  (n, s.2 ++ [bump s.2 count.toNat ((n / 64) % (count + 1 + (n / 8) % 90))])
def nSteps (count number : Int) : Nat → Int × List Int
  | 0 => (number, [])
  | k + 1 => nStep count (nSteps count number k)
theorem nSteps_len (count number : Int) : ∀ k, (nSteps count number k).2.length = k
  | 0 => rfl
  | k + 1 => by
    show (_ ++ [_]).length = _
    rw [List.length_append, nSteps_len count number k]; rfl
def netD (number most degree : Int) : List Int × List (List Int) := let count := 1 + number % most
  let s := dSteps count degree (number / most) (2 * count).toNat
  ((nSteps count s.1 count.toNat).2, s.2)
def shRow (way count k : Int) : List Int :=
  let r0 := [(k - 1) % count, (k + 1) % count]
  let r1 := if decide (way = 1) = true then [k - 1, k + 1].filter (fun j => decide (0 ≤ j) && decide (j < count)) else r0
  let r2 := if decide (way = 2) = true then [k + 1, k - 2, k + 2, k - 1].filter (fun j => (decide (0 ≤ j) && decide (j < count)) && (!decide (j = k) && decide ((if j - k < 0 then -(j - k) else j - k) < 3))) else r1
  if decide (way = 3) = true then ((if decide (k > 0) = true then [(k - 1) / 2] else []) ++ [2 * k + 1, 2 * k + 2]).filter (fun j => decide (j < count)) else r2
def shNames (count number : Int) : Nat → List Int
  | 0 => []
  | k + 1 => shNames count number k ++ [bump (shNames count number k) count.toNat (((k : Nat) + 1) * (1 + number / 16) * 7 % 101)]
theorem shNames_len (count number : Int) : ∀ k, (shNames count number k).length = k
  | 0 => rfl
  | k + 1 => by
    show (_ ++ [_]).length = _
    rw [List.length_append, shNames_len count number k]; rfl
def netS (number most : Int) : List Int × List (List Int) := let count := 3 + number / 4 % (most - 2)
  (shNames count number count.toNat, (List.range count.toNat).map fun (k : Nat) => shRow (number % 4) count k)
def netF (number most : Int) : List Int × List (List Int) := if decide (number % 3 = 0) = true then netS (number / 3) most else netD (number / 3) most 4
theorem run_le : ∀ (n : Nat) (names : List Int) (m : Int), (∀ t : Nat, t < n → m + (t : Int) ∈ names) → n ≤ names.length
  | 0, _, _, _ => Nat.zero_le _
  | n + 1, names, m, h => by
    have hm := h n (Nat.lt_succ_self n)
    have h2 := run_le n (names.erase (m + (n : Int))) m fun t ht => (List.mem_erase_of_ne (by omega)).mpr (h t (by omega))
    rw [List.length_erase_of_mem hm] at h2
    have := List.length_pos_of_mem hm
    omega
theorem bump_spec (names : List Int) (m : Int) : ∀ j : Nat, ∃ t : Nat, t ≤ j ∧ bump names j m = m + (t : Int) ∧ (∀ u : Nat, u < t → m + (u : Int) ∈ names) ∧ (t < j → m + (t : Int) ∉ names)
  | 0 => ⟨0, Nat.le_refl _, by show m = _; simp, fun u hu => by omega, fun h => by omega⟩
  | j + 1 => by
    obtain ⟨t, h1, h2, h3, h4⟩ := bump_spec names m j
    have hb : bump names (j + 1) m = if decide (bump names j m ∈ names) = true then bump names j m + 1 else bump names j m := rfl
    rw [hb, h2]
    by_cases hin : m + (t : Int) ∈ names
    · rw [if_pos (decide_eq_true hin)]
      have e : t = j := by
        rcases Nat.lt_or_ge t j with h | h
        · exact absurd hin (h4 h)
        · omega
      exact ⟨t + 1, by omega, by omega, fun u hu => by
        rcases Nat.lt_or_ge u t with h | h
        · exact h3 u h
        · have : u = t := by omega
          rw [this]; exact hin, fun h => by omega⟩
    · rw [if_neg (by simpa using hin)]
      exact ⟨t, by omega, rfl, h3, fun _ => hin⟩
theorem bump_new {names : List Int} {j : Nat} (m : Int) (h : names.length < j) : bump names j m ∉ names := by
  obtain ⟨t, h1, h2, h3, h4⟩ := bump_spec names m j
  rw [h2]
  rcases Nat.lt_or_ge t j with z | z
  · exact h4 z
  · have := run_le t names m h3
    omega
theorem bump_pos {names : List Int} {j : Nat} {m : Int} (h : 0 ≤ m) : 0 ≤ bump names j m := by
  obtain ⟨t, _, h2, _⟩ := bump_spec names m j
  omega
def NamesOk (ns : List Int) : Prop := ns.Nodup ∧ ∀ x ∈ ns, 0 ≤ x
theorem namesOk_more {ns : List Int} {x : Int} (h : NamesOk ns) (hx : x ∉ ns) (h0 : 0 ≤ x) : NamesOk (ns ++ [x]) := by
  refine ⟨?_, fun y hy => ?_⟩
  · rw [List.nodup_append]
    refine ⟨h.1, by simp, fun a ha b hb e => ?_⟩
    have : b = x := by simpa using hb
    rw [e, this] at ha
    exact hx ha
  · rcases List.mem_append.mp hy with z | z
    · exact h.2 y z
    · have : y = x := by simpa using z
      rw [this]; exact h0
theorem nSteps_ok {count : Int} (hc : 1 ≤ count) (number : Int) : ∀ k : Nat, k ≤ count.toNat → NamesOk (nSteps count number k).2
  | 0, _ => ⟨List.nodup_nil, fun x h => nomatch h⟩
  | k + 1, h => by
    have hl := nSteps_len count number k
    have h0 : 0 ≤ ((nSteps count number k).1 * 48271 + 11) % 2147483647 / 8 % 90 := Int.emod_nonneg _ (by decide)
    exact namesOk_more (nSteps_ok hc number k (by omega)) (bump_new _ (by omega)) (bump_pos (Int.emod_nonneg _ (by omega)))
theorem shNames_ok {count : Int} (number : Int) : ∀ k : Nat, k ≤ count.toNat → NamesOk (shNames count number k)
  | 0, _ => ⟨List.nodup_nil, fun x h => nomatch h⟩
  | k + 1, h => by
    have hl := shNames_len count number k
    exact namesOk_more (shNames_ok number k (by omega)) (bump_new _ (by omega)) (bump_pos (Int.emod_nonneg _ (by decide)))
def Good (n : Nat) (L : List (List Int)) : Prop := L.length = n ∧ ∀ i : Nat, i < n → (L.getD i []).Nodup ∧ ∀ o ∈ L.getD i [], 0 ≤ o ∧ o < (n : Int) ∧ o ≠ (i : Int) ∧ (i : Int) ∈ L.getD o.toNat []
theorem getD_insL {L : List (List Int)} {c i : Nat} {a x : Int} (hc : c < L.length) : (insL L c a x).getD i [] = if i = c then (L.getD c []).take a.toNat ++ [x] ++ (L.getD c []).drop a.toNat else L.getD i [] := by
  unfold insL
  rw [List.getD_eq_getElem?_getD]
  by_cases h : i = c
  · rw [if_pos h, h, List.getElem?_set_self hc]; rfl
  · rw [if_neg h, List.getElem?_set_ne (fun e => h e.symm), ← List.getD_eq_getElem?_getD]
theorem mem_ins {l : List Int} {k : Nat} {x y : Int} : y ∈ l.take k ++ [x] ++ l.drop k ↔ y = x ∨ y ∈ l := by
  conv => rhs; rw [← List.take_append_drop k l]
  simp only [List.mem_append, List.mem_singleton]
  constructor
  · rintro ((h | h) | h)
    · exact .inr (.inl h)
    · exact .inl h
    · exact .inr (.inr h)
  · rintro (h | h | h)
    · exact .inl (.inr h)
    · exact .inl (.inl h)
    · exact .inr h
theorem nodup_ins {l : List Int} {k : Nat} {x : Int} (h : l.Nodup) (hx : x ∉ l) : (l.take k ++ [x] ++ l.drop k).Nodup := by
  rw [List.append_assoc, List.singleton_append]
  have hp : (l.take k ++ x :: l.drop k).Perm (x :: (l.take k ++ l.drop k)) := List.perm_middle
  rw [hp.nodup_iff, List.take_append_drop]
  exact List.nodup_cons.mpr ⟨hx, h⟩
theorem put_mem {L : List (List Int)} {f g a b : Int} (hf : f.toNat < L.length) (hg : g.toNat < L.length) (hne : f.toNat ≠ g.toNat) (i : Nat) (y : Int) :
    y ∈ (insL (insL L f.toNat a g) g.toNat b f).getD i [] ↔ y ∈ L.getD i [] ∨ (i = f.toNat ∧ y = g) ∨ (i = g.toNat ∧ y = f) := by
  rw [getD_insL (by rw [insL_len]; exact hg)]
  have h1 : (insL L f.toNat a g).getD g.toNat [] = L.getD g.toNat [] := by rw [getD_insL hf, if_neg (fun e => hne e.symm)]
  by_cases hi : i = g.toNat
  · rw [if_pos hi, h1, mem_ins, hi]
    constructor
    · rintro (h | h)
      · exact .inr (.inr ⟨rfl, h⟩)
      · exact .inl h
    · rintro (h | h | h)
      · exact .inr h
      · exact absurd h.1.symm hne
      · exact .inl h.2
  · rw [if_neg hi, getD_insL hf]
    by_cases hi2 : i = f.toNat
    · rw [if_pos hi2, mem_ins, hi2]
      constructor
      · rintro (h | h)
        · exact .inr (.inl ⟨rfl, h⟩)
        · exact .inl h
      · rintro (h | h | h)
        · exact .inr h
        · exact .inl h.2
        · exact absurd h.1 hne
    · rw [if_neg hi2]
      constructor
      · exact fun h => .inl h
      · rintro (h | h | h)
        · exact h
        · exact absurd h.1 hi2
        · exact absurd h.1 hi
theorem put_good {n : Nat} {L : List (List Int)} {f g : Int} (h : Good n L) (f0 : 0 ≤ f) (f1 : f < (n : Int)) (g0 : 0 ≤ g) (g1 : g < (n : Int)) (hne : f ≠ g) (hnot : g ∉ L.getD f.toNat []) (a b : Int) : Good n (insL (insL L f.toNat a g) g.toNat b f) := by
  obtain ⟨hl, hr⟩ := h
  have hf : f.toNat < L.length := by omega
  have hg : g.toNat < L.length := by omega
  have hn : f.toNat ≠ g.toNat := by omega
  have ef : (f.toNat : Int) = f := Int.toNat_of_nonneg f0
  have eg : (g.toNat : Int) = g := Int.toNat_of_nonneg g0
  have hnot2 : f ∉ L.getD g.toNat [] := fun z => by
    have := ((hr g.toNat (by omega)).2 f z).2.2.2
    rw [eg] at this
    exact hnot this
  refine ⟨by rw [insL_len, insL_len]; exact hl, fun i hi => ⟨?_, fun o ho => ?_⟩⟩
  · rw [getD_insL (by rw [insL_len]; exact hg)]
    have h1 : (insL L f.toNat a g).getD g.toNat [] = L.getD g.toNat [] := by rw [getD_insL hf, if_neg (fun e => hn e.symm)]
    by_cases hi1 : i = g.toNat
    · rw [if_pos hi1, h1]
      exact nodup_ins (hr _ (by omega)).1 hnot2
    · rw [if_neg hi1, getD_insL hf]
      by_cases hi2 : i = f.toNat
      · rw [if_pos hi2]
        exact nodup_ins (hr _ (by omega)).1 hnot
      · rw [if_neg hi2]
        exact (hr i hi).1
  · rw [put_mem hf hg hn] at ho
    rw [put_mem hf hg hn]
    rcases ho with z | ⟨z, e⟩ | ⟨z, e⟩
    · obtain ⟨a1, a2, a3, a4⟩ := (hr i hi).2 o z
      exact ⟨a1, a2, a3, .inl a4⟩
    · rw [e, z, ef]
      exact ⟨g0, g1, fun q => hne q.symm, .inr (.inr ⟨rfl, rfl⟩)⟩
    · rw [e, z, eg]
      exact ⟨f0, f1, hne, .inr (.inl ⟨rfl, rfl⟩)⟩
theorem dSteps_good {count degree number : Int} (hc : 1 ≤ count) : ∀ k, Good count.toNat (dSteps count degree number k).2
  | 0 => by
    refine ⟨List.length_replicate, fun i hi => ?_⟩
    have : (List.replicate count.toNat ([] : List Int)).getD i [] = [] := by
      rw [List.getD_eq_getElem?_getD, List.getElem?_replicate]
      split <;> rfl
    show (List.getD (List.replicate count.toNat ([] : List Int)) i []).Nodup ∧ _
    have e2 : (dSteps count degree number 0).2 = List.replicate count.toNat [] := rfl
    rw [e2, this]
    exact ⟨List.nodup_nil, fun o h => nomatch h⟩
  | k + 1 => by
    have ih := dSteps_good (degree := degree) (number := number) hc k
    have e : (dSteps count degree number (k + 1)).2 = (dStep count degree (k : Nat) (dSteps count degree number k)).2 := rfl
    rw [e]
    unfold dStep
    dsimp only
    split
    · rename_i hT
      unfold dGo at hT
      simp only [Bool.and_eq_true, decide_eq_true_eq, Bool.not_eq_true', decide_eq_false_iff_not] at hT
      unfold dPut
      have m0 : ∀ a : Int, 0 ≤ a % count ∧ a % count < (count.toNat : Int) := fun a => ⟨Int.emod_nonneg _ (by omega), by have := Int.emod_lt_of_pos a (show 0 < count by omega); omega⟩
      exact put_good ih (m0 _).1 (m0 _).2 (m0 _).1 (m0 _).2 hT.1 hT.2.1 _ _
    · exact ih
theorem namesOk_ok {ns : List Int} (h : NamesOk ns) (h1 : ns ≠ []) : okNames ns = true := by
  unfold okNames
  have e1 : ns.isEmpty = false := by
    cases ns with
    | nil => exact absurd rfl h1
    | cons a l => rfl
  have e2 : ns.all (fun x => decide (0 ≤ x)) = true := by
    rw [List.all_eq_true]
    exact fun x hx => decide_eq_true (h.2 x hx)
  rw [e1, e2, ndb_iff.mpr h.1]; rfl
theorem good_rows {n : Nat} {L : List (List Int)} (h : Good n L) : (List.range L.length).all (fun i => okRow (i : Nat) (L.getD i []) (n : Nat)) = true := by
  rw [List.all_eq_true]
  intro i hi
  have hi : i < n := by rw [← h.1]; exact List.mem_range.mp hi
  obtain ⟨a, b⟩ := h.2 i hi
  unfold okRow
  rw [ndb_iff.mpr a, Bool.and_true, List.all_eq_true]
  intro o ho
  obtain ⟨c1, c2, c3, _⟩ := b o ho
  simp [c1, c2, c3]
theorem good_back {n : Nat} {L : List (List Int)} (h : Good n L) : okBack L = true := by
  unfold okBack
  rw [List.all_eq_true]
  intro i hi
  have hi : i < n := by rw [← h.1]; exact List.mem_range.mp hi
  rw [List.all_eq_true]
  intro o ho
  simpa using ((h.2 i hi).2 o ho).2.2.2
theorem good_net {ns : List Int} {L : List (List Int)} (h : NamesOk ns) (h1 : ns ≠ []) (g : Good ns.length L) : okNet ns L = true := by
  unfold okNet
  rw [namesOk_ok h h1, decide_eq_true g.1, good_back g, good_rows g]; rfl
theorem shape_rows : ∀ c, c < 11 → 3 ≤ c → ∀ w, w < 4 → (List.range ((List.range c).map fun (k : Nat) => shRow (w : Nat) (c : Nat) k).length).all (fun i => okRow (i : Nat) (((List.range c).map fun (k : Nat) => shRow (w : Nat) (c : Nat) k).getD i []) (c : Nat)) = true ∧ okBack ((List.range c).map fun (k : Nat) => shRow (w : Nat) (c : Nat) k) = true := by decide +kernel
theorem ne_of_len {α : Type} {l : List α} {n : Nat} (h : l.length = n) (h1 : 1 ≤ n) : l ≠ [] := fun z => by rw [z] at h; simp at h; omega
theorem netD_ok {number most degree : Int} (h0 : 0 ≤ number) (h1 : 1 ≤ most) : okNet (netD number most degree).1 (netD number most degree).2 = true := by
  have hc0 : 0 ≤ number % most := Int.emod_nonneg _ (by omega)
  have b1 : 1 ≤ 1 + number % most := by omega
  unfold netD
  dsimp only
  generalize 1 + number % most = count at b1
  have hl := nSteps_len count (dSteps count degree (number / most) (2 * count).toNat).1 count.toNat
  exact good_net (nSteps_ok b1 _ _ (Nat.le_refl _)) (ne_of_len hl (by omega)) (by rw [hl]; exact dSteps_good b1 _)
theorem netS_ok {number most : Int} (h1 : 3 ≤ most) (h2 : most ≤ 10) : okNet (netS number most).1 (netS number most).2 = true := by
  have hc0 : 0 ≤ number / 4 % (most - 2) := Int.emod_nonneg _ (by omega)
  have hc1 : number / 4 % (most - 2) < most - 2 := Int.emod_lt_of_pos _ (by omega)
  have b1 : 3 ≤ 3 + number / 4 % (most - 2) := by omega
  have b2 : 3 + number / 4 % (most - 2) ≤ 10 := by omega
  have w0 : 0 ≤ number % 4 := Int.emod_nonneg _ (by decide)
  have w1 : number % 4 < 4 := Int.emod_lt_of_pos _ (by decide)
  unfold netS
  dsimp only
  generalize 3 + number / 4 % (most - 2) = count at b1 b2
  generalize number % 4 = way at w0 w1
  have hl := shNames_len count number count.toNat
  obtain ⟨r1, r2⟩ := shape_rows count.toNat (by omega) (by omega) way.toNat (by omega)
  rw [Int.toNat_of_nonneg (by omega), Int.toNat_of_nonneg (by omega)] at r1 r2
  unfold okNet
  rw [namesOk_ok (shNames_ok number _ (Nat.le_refl _)) (ne_of_len hl (by omega)), hl, List.length_map, List.length_range, decide_eq_true rfl, r2]
  rw [List.length_map, List.length_range] at r1
  rw [Int.toNat_of_nonneg (by omega), r1]; rfl
theorem netF_ok {number most : Int} (h0 : 0 ≤ number) (h1 : 3 ≤ most) (h2 : most ≤ 10) : okNet (netF number most).1 (netF number most).2 = true := by
  have hd : 0 ≤ number / 3 := Int.ediv_nonneg h0 (by decide)
  unfold netF
  split
  · exact netS_ok h1 h2
  · exact netD_ok hd (by omega)
end Ab
namespace Ab
variable [Ab.Tabl]
open PySem PySem.Spec PyProof.Rows L2
def DN (p : Addr) (o : Obj) : HO := .ext fun h => h.get? p = some o
theorem dn_ne {p : Addr} {o : Obj} {es : Array DictEntry} {ep : Nat} (hd : o.data = .dict es ep) (c : Addr) (q : Str) : DN p o ≠ LamX.CodeO c q := by
  intro z
  unfold DN LamX.CodeO at z
  injection z with z
  have g : ∀ a, a ≤ p + c → ({ objs := Array.replicate (p + c + 1) o } : Heap).get? a = some o := fun a ha => by
    unfold Heap.get?
    have e : (Array.replicate (p + c + 1) o)[a]? = some o := by
      rw [Array.getElem?_replicate, if_pos (Nat.lt_succ_of_le ha)]
    dsimp only
    rw [e]
    obtain ⟨oc, od, odat, osl⟩ := o
    dsimp only at hd
    subst hd
    rfl
  have t : (fun h : Heap => h.get? p = some o) { objs := Array.replicate (p + c + 1) o } := g p (Nat.le_add_right p c)
  rw [z] at t
  obtain ⟨oc, vs, tk, e1, e2, _⟩ := t
  rw [g c (Nat.le_add_left c p)] at e1
  cases e1
  rw [hd] at e2
  cases e2
def DNk (p : Addr) (o : Obj) (xs : List (NestedKey × Addr × V)) : Prop :=
  (p == sysModules) = false ∧ xs.length ≤ 100000 ∧ ∃ (w : World) (es : Array DictEntry) (ep : Nat) (vs : List (NestedKey × Addr × Value)), Tabl.wd = some w ∧ o.ExactDict ∧ o.data = .dict es ep ∧
    Paired (fun (a : NestedKey × Addr × V) (b : NestedKey × Addr × Value) => a.1 = b.1 ∧ a.2.1 = b.2.1 ∧ RelV a.2.2 b.2.2) xs vs ∧ es.toList = vs.map (fun x => (⟨x.1.hash w, .ref x.2.1, x.2.2⟩ : DictEntry)) ∧ (vs.map (·.1)).Nodup
theorem dn_pl {p : Addr} {o : Obj} {xs : List (NestedKey × Addr × V)} (h : DNk p o xs) : Pl (DN p o) := by
  obtain ⟨_, _, w, es, ep, vs, _, _, hd, _⟩ := h
  exact ⟨fun _ z => (nomatch z), fun c q => dn_ne hd c q⟩
theorem dn_nt {p : Addr} {o : Obj} : ∀ xs, DN p o ≠ .tup xs := fun xs z => by
  unfold DN at z
  cases z
end Ab
namespace Ev
variable [Ab.Tabl]
open PySem PySem.Spec PyProof.Rows L2 Ab
inductive D where
  | non
  | bl (b : Bool)
  | int (i : Int)
  | str (s : Str)
  | lst (l : List D)
  | tup (l : List D)
  | dic (kvs : List (Key × D))
  | dct (kvs : List (List Key × D))
  | obj (c : Str) (fs : List (Str × D))
  | rng (n : Int)
  | tpk (l : List D)
structure Tb where
  cls : Str → Addr
  self : Addr
theorem Rd.mono {G G' : Hp} {p : Addr} {u : HO} (s : Same G G') (h : Rd G p u) : Rd G' p u := h.imp (s _ _) fun ⟨o, h⟩ => ⟨o, s _ _ h⟩
def dcF (kvs : List (Key × AbsV)) : AbsV := ⟨fun G v => ∃ p ws, v = .ref p ∧ Rd G p (.dK ws) ∧ PK G ws kvs, fun s ⟨p, vs, e, h, r⟩ => ⟨p, vs, e, Ev.Rd.mono s h, r.mono s⟩⟩
def dtA (kvs : List (List Key × AbsV)) : AbsV := ⟨fun G v => ∃ p ws, v = .ref p ∧ Rd G p (.dT ws) ∧ PK G ws kvs, fun s ⟨p, vs, e, h, r⟩ => ⟨p, vs, e, Ev.Rd.mono s h, r.mono s⟩⟩
def rgA (n : Int) : AbsV := ⟨fun G v => ∃ p, v = .ref p ∧ G p = some (.rng 0 n), fun s ⟨p, e, h⟩ => ⟨p, e, s _ _ h⟩⟩
def tkA (l : List AbsV) : AbsV := ⟨fun G v => ∃ p vs o, v = .ref p ∧ G p = some (.frz o (.tup vs)) ∧ o.cls = .type "tuple" ∧ o.dict = none ∧ PR G vs l, fun s ⟨p, vs, o, e, h, c, d, r⟩ => ⟨p, vs, o, e, s _ _ h, c, d, r.mono s⟩⟩
mutual
def rep (Γ : Tb) : D → AbsV
  | .non => nN
  | .bl b => nB b
  | .int i => nI i
  | .str s => nS s
  | .lst l => lsA (reps Γ l)
  | .tup l => tuA (reps Γ l)
  | .dic kvs => dcF (repk Γ kvs)
  | .dct kvs => dtA (rept Γ kvs)
  | .obj c fs => inA (Γ.cls c) (repf Γ fs)
  | .rng n => rgA n
  | .tpk l => tkA (reps Γ l)
def reps (Γ : Tb) : List D → List AbsV
  | [] => []
  | d :: ds => rep Γ d :: reps Γ ds
def repk (Γ : Tb) : List (Key × D) → List (Key × AbsV)
  | [] => []
  | (k, d) :: r => (k, rep Γ d) :: repk Γ r
def rept (Γ : Tb) : List (List Key × D) → List (List Key × AbsV)
  | [] => []
  | (k, d) :: r => (k, rep Γ d) :: rept Γ r
def repf (Γ : Tb) : List (Str × D) → List (Str × AbsV)
  | [] => []
  | (k, d) :: r => (k, rep Γ d) :: repf Γ r
end
variable {Γ : Tb}
theorem reps_map : ∀ l : List D, reps Γ l = l.map (rep Γ)
  | [] => by simp [reps]
  | d :: ds => by simp [reps, reps_map ds]
theorem repk_map : ∀ l : List (Key × D), repk Γ l = l.map fun kd => (kd.1, rep Γ kd.2)
  | [] => by simp [repk]
  | (k, d) :: ds => by simp [repk, repk_map ds]
theorem repf_map : ∀ l : List (Str × D), repf Γ l = l.map fun kd => (kd.1, rep Γ kd.2)
  | [] => by simp [repf]
  | (k, d) :: ds => by simp [repf, repf_map ds]
theorem reps_len (l : List D) : (reps Γ l).length = l.length := by rw [reps_map, List.length_map]
theorem reps_get {l : List D} {i : Nat} {d : D} (h : l[i]? = some d) : (reps Γ l)[i]? = some (rep Γ d) := by rw [reps_map, List.getElem?_map, h]; rfl
theorem reps_app (l m : List D) : reps Γ (l ++ m) = reps Γ l ++ reps Γ m := by rw [reps_map, reps_map, reps_map, List.map_append]
inductive Res (α : Type) where
  | ok (a : α)
  | ex (c : Str)
  | no
def Res.bind {α β : Type} : Res α → (α → Res β) → Res β
  | .ok a, f => f a
  | .ex c, _ => .ex c
  | .no, _ => .no
def lift {α : Type} : Option α → Res α
  | some a => .ok a
  | none => .no
@[simp] theorem bind_ok {α β : Type} (a : α) (f : α → Res β) : (Res.ok a).bind f = f a := rfl
@[simp] theorem bind_ex {α β : Type} (c : Str) (f : α → Res β) : (Res.ex c).bind f = .ex c := rfl
@[simp] theorem bind_no {α β : Type} (f : α → Res β) : (Res.no).bind f = .no := rfl
@[simp] theorem lift_some {α : Type} (a : α) : lift (some a) = .ok a := rfl
@[simp] theorem lift_none {α : Type} : lift (none : Option α) = .no := rfl
mutual
def nkD : D → Option NestedKey
  | .non => some .none
  | .int i => some (.num i)
  | .str s => some (.text s)
  | .tup l => (nkDs l).map .tup
  | _ => none
def nkDs : List D → Option (List NestedKey)
  | [] => some []
  | d :: ds => match nkD d, nkDs ds with
    | some k, some ks => some (k :: ks)
    | _, _ => none
end
inductive Bw where
  | dic (kvs : List (Key × D))
  | lst (l : List D)
  | dxn (kvs : List (D × D))
  | set (ns : List Int)
inductive Md where
  | own
  | bor
  | kno
abbrev XKd (Γ : Tb) (G : Hp) : List (NestedKey × Addr × V) → List (D × D) → Prop := Paired fun x kv => (rep Γ kv.1).rep G (.ref x.2.1) ∧ nkD kv.1 = some x.1 ∧ x.1.depth ≤ 8 ∧ (rep Γ kv.2).rep G x.2.2
theorem XKd.mono {G G' : Hp} (s : Same G G') : ∀ {xs : List (NestedKey × Addr × V)} {kvs : List (D × D)}, XKd Γ G xs kvs → XKd Γ G' xs kvs
  | _, _, .nil => .nil
  | _, _, .cons h t => .cons ⟨(rep Γ _).mono s h.1, h.2.1, h.2.2.1, (rep Γ _).mono s h.2.2.2⟩ (XKd.mono s t)
theorem set_ne {w : World} {p : Addr} {S : Int → Bool} {n : Nat} (c : Addr) (q : Str) : SetO w p S n ≠ LamX.CodeO c q := by
  intro z
  unfold SetO LamX.CodeO at z
  injection z with z
  let o : Obj := { cls := .type "code", data := .fields #[.none, .str q 0] }
  have g : ∀ a, a ≤ p + c → ({ objs := Array.replicate (p + c + 1) o } : Heap).get? a = some o := fun a ha => by
    unfold Heap.get?
    have e : (Array.replicate (p + c + 1) o)[a]? = some o := by
      rw [Array.getElem?_replicate, if_pos (Nat.lt_succ_of_le ha)]
    dsimp only
    rw [e]
  have t : (fun h : Heap => ∃ (oc : Obj) (vs : Array Value) (t : Tok), h.get? c = some oc ∧ oc.data = .fields vs ∧ vs[1]? = some (.str q t)) { objs := Array.replicate (p + c + 1) o } := ⟨o, _, 0, g c (Nat.le_add_left c p), rfl, rfl⟩
  rw [← z] at t
  obtain ⟨o2, es, ep, tt, e1, _, e2, _⟩ := t
  rw [g p (Nat.le_add_right p c)] at e1
  cases e1
  cases e2
theorem set_pl {w : World} {p : Addr} {S : Int → Bool} {n : Nat} : Pl (SetO w p S n) := ⟨fun _ z => (nomatch z), fun c q => set_ne c q⟩
theorem set_nt {w : World} {p : Addr} {S : Int → Bool} {n : Nat} : ∀ xs, SetO w p S n ≠ .tup xs := fun xs z => by
  unfold SetO at z
  cases z
def inSb (ns : List Int) : Int → Bool := fun j => decide (j ∈ ns)
def Bw.tr (Γ : Tb) : Bw → TR
  | .dic kvs => ⟨fun G _ u => ∃ ws, u = .dK ws ∧ PK G ws (repk Γ kvs), fun s ⟨ws, e, pk⟩ => ⟨ws, e, pk.mono s⟩, fun ⟨ws, e, _⟩ => by subst e; exact ⟨fun _ z => (nomatch z), fun _ _ z => (nomatch z)⟩, fun ⟨ws, e, _⟩ => by subst e; exact fun _ z => nomatch z⟩
  | .lst l => ⟨fun G _ u => ∃ vs, u = .lst vs ∧ PR G vs (reps Γ l), fun s ⟨ws, e, pk⟩ => ⟨ws, e, pk.mono s⟩, fun ⟨ws, e, _⟩ => by subst e; exact ⟨fun _ z => (nomatch z), fun _ _ z => (nomatch z)⟩, fun ⟨ws, e, _⟩ => by subst e; exact fun _ z => nomatch z⟩
  | .dxn kvs => ⟨fun G p u => ∃ o xs, u = DN p o ∧ DNk p o xs ∧ XKd Γ G xs kvs, fun s ⟨o, xs, e, d, x⟩ => ⟨o, xs, e, d, XKd.mono s x⟩, fun ⟨o, xs, e, d, _⟩ => by subst e; exact dn_pl d, fun ⟨o, xs, e, _⟩ => by subst e; exact dn_nt⟩
  | .set ns => ⟨fun _ p u => ∃ w, Tabl.wd = some w ∧ u = SetO w p (inSb ns) ns.length, fun _ h => h, fun ⟨w, _, e⟩ => by subst e; exact set_pl, fun ⟨w, _, e⟩ => by subst e; exact set_nt⟩
def Bw.av (Γ : Tb) : Bw → AbsV
  | .dic kvs => dcF (repk Γ kvs)
  | .lst l => lsA (reps Γ l)
  | .dxn kvs => ⟨fun G v => ∃ p u, v = .ref p ∧ G p = some u ∧ ((Bw.dxn kvs).tr Γ).rep G p u, fun s ⟨p, u, e, g, r⟩ => ⟨p, u, e, s _ _ g, ((Bw.dxn kvs).tr Γ).mono s r⟩⟩
  | .set ns => ⟨fun G v => ∃ p u, v = .ref p ∧ G p = some u ∧ ((Bw.set ns).tr Γ).rep G p u, fun s ⟨p, u, e, g, r⟩ => ⟨p, u, e, s _ _ g, ((Bw.set ns).tr Γ).mono s r⟩⟩
inductive Sl where
  | un
  | val (d : D)
  | own (l : List D)
  | red (l : List D)
  | scr (ns : List Int)
  | dic (kvs : List (Key × D))
  | dct (kvs : List (List Key × D))
  | thg (m : Md) (c : Bw)
  | ins (c : Str) (fs : List (Str × D))
  | slf (c : Str) (fs : List (Str × D))
  | nst (L : List (List D))
abbrev En := List Sl
inductive R where
  | s (x : Sl)
  | fr (l : List D)
  | frk (kvs : List (Key × D))
  | frt (kvs : List (List Key × D))
def SlR (Γ : Tb) : Sl → Slot → Prop
  | .un, s => s = .un
  | .val d, s => s = .val (rep Γ d)
  | .own l, s => s = .own (reps Γ l)
  | .red l, s => s = .red (reps Γ l)
  | .scr ns, s => s = .scr ns
  | .dic kvs, s => s = .dic (repk Γ kvs)
  | .dct kvs, s => s = .dct (rept Γ kvs)
  | .thg .own c, s => s = .thg none (c.tr Γ)
  | .thg .bor c, s => s = .thg (some Γ.self) (c.tr Γ)
  | .thg .kno c, s => s = .val (c.av Γ)
  | .ins c fs, s => s = .ins Γ.self (Γ.cls c) (repf Γ fs)
  | .slf c fs, s => s = .val (iaA Γ.self (Γ.cls c) (repf Γ fs))
  | .nst L, s => ∃ p qs, s = .nst p qs (L.map (reps Γ))
abbrev ER (Γ : Tb) : En → List Slot → Prop := Paired (SlR Γ)
def RA (K : PySem.W.Frag) (Γ : Tb) (G H : Hp) : Sl → V → Prop
  | .val d, w => (rep Γ d).rep G w
  | .red l, w => ∃ p vs, w = .ref p ∧ H p = some (.lst vs) ∧ PR G vs (reps Γ l)
  | .scr ns, w => ∃ p, w = .ref p ∧ SqL K H p (ns.map V.int)
  | .dic kvs, w => ∃ p ws, w = .ref p ∧ H p = some (.dK ws) ∧ PK G ws (repk Γ kvs)
  | .dct kvs, w => ∃ p ws, w = .ref p ∧ H p = some (.dT ws) ∧ PK G ws (rept Γ kvs)
  | .nst L, w => ∃ p qs, w = .ref p ∧ H p = some (.lst (qs.map V.ref)) ∧ Paired (fun q l => ∃ vs, H q = some (.lst vs) ∧ PR G vs (reps Γ l)) qs L
  | .thg _ c, w => ∃ p u, w = .ref p ∧ H p = some u ∧ (c.tr Γ).rep G p u
  | _, _ => False
theorem RA.ext {K : PySem.W.Frag} {G H G' H' : Hp} (x : Ext G H G' H') : ∀ {s : Sl} {v : V}, RA K Γ G H s v → RA K Γ G' H' s v
  | .val r, _, h => (rep Γ r).mono x.g h
  | .red l, _, ⟨p, vs, e, h, q⟩ => ⟨p, vs, e, x.h.at _ _ h, q.mono x.g⟩
  | .scr ns, _, ⟨p, e, h⟩ => ⟨p, e, x.h.seq h⟩
  | .dic l, _, ⟨p, vs, e, h, q⟩ => ⟨p, vs, e, x.h.at _ _ h, q.mono x.g⟩
  | .dct l, _, ⟨p, vs, e, h, q⟩ => ⟨p, vs, e, x.h.at _ _ h, q.mono x.g⟩
  | .nst L, _, ⟨p, qs, e, h, q⟩ => ⟨p, qs, e, x.h.at _ _ h, P_mono (fun q l ⟨vs, h1, r1⟩ => ⟨vs, x.h.at _ _ h1, r1.mono x.g⟩) q⟩
  | .un, _, h => h.elim
  | .own _, _, h => h.elim
  | .ins _ _, _, h => h.elim
  | .thg _ c, _, ⟨p, u, e, h, r⟩ => ⟨p, u, e, x.h.at _ _ h ((c.tr Γ).pl r).1, (c.tr Γ).mono x.g r⟩
  | .slf _ _, _, h => h.elim
def RR (K : PySem.W.Frag) (Γ : Tb) (H0 G H : Hp) : R → V → Prop
  | .s x, w => RA K Γ G H x w
  | .fr l, w => ∃ p vs, w = .ref p ∧ H0 p = none ∧ G p = none ∧ H p = some (.lst vs) ∧ PR G vs (reps Γ l)
  | .frk l, w => ∃ p vs, w = .ref p ∧ H0 p = none ∧ G p = none ∧ H p = some (.dK vs) ∧ PK G vs (repk Γ l)
  | .frt l, w => ∃ p vs, w = .ref p ∧ H0 p = none ∧ G p = none ∧ H p = some (.dT vs) ∧ PK G vs (rept Γ l)
def R.arg : R → Sl
  | .s x => x
  | .fr l => .val (.lst l)
  | .frk l => .val (.dic l)
  | .frt l => .val (.dct l)
theorem RR.arg {K : PySem.W.Frag} {G H G' H' : Hp} (x : Ext G H G' H') : ∀ {r : R} {v : V}, RR K Γ H G' H' r v → ∃ G'', Ext G H G'' H' ∧ Same G' G'' ∧ RA K Γ G'' H' r.arg v
  | .s s, v, h => ⟨G', x, Same.refl _, h⟩
  | .fr l, v, ⟨p, vs, e, h0, g, h, pr⟩ => by
    have sg : Same G' (upd G' p (.lst vs)) := fun b u e => by rw [upd_ne (ne_of_none e g)]; exact e
    refine ⟨upd G' p (.lst vs), x.freeze h0 g h, sg, ?_⟩
    show (rep Γ (.lst l)).rep _ v
    rw [rep]
    exact ⟨p, vs, e, upd_same, pr.mono sg⟩
  | .frk l, v, ⟨p, vs, e, h0, g, h, pr⟩ => by
    have sg : Same G' (upd G' p (.dK vs)) := fun b u e => by rw [upd_ne (ne_of_none e g)]; exact e
    refine ⟨upd G' p (.dK vs), x.freeze h0 g h, sg, ?_⟩
    show (rep Γ (.dic l)).rep _ v
    rw [rep]
    exact ⟨p, vs, e, .inl upd_same, pr.mono sg⟩
  | .frt l, v, ⟨p, vs, e, h0, g, h, pr⟩ => by
    have sg : Same G' (upd G' p (.dT vs)) := fun b u e => by rw [upd_ne (ne_of_none e g)]; exact e
    refine ⟨upd G' p (.dT vs), x.freeze h0 g h, sg, ?_⟩
    show (rep Γ (.dct l)).rep _ v
    rw [rep]
    exact ⟨p, vs, e, .inl upd_same, pr.mono sg⟩
abbrev EvE := En → Res R
def T (K : PySem.W.Frag) (Γ : Tb) (ew : WX) (ev : EvE) : TE := fun σ H Q => ∃ (B G0 G : Hp) (E : En) (Es : List Slot), ER Γ E Es ∧ Ok K B G0 Es σ G H ∧
  match ev E with
  | .ok r => ∀ v G' H', Ext G H G' H' → RR K Γ H G' H' r v → Q v H'
  | .ex c => ∀ G' H', Ext G H G' H' → ew (.ref (Γ.cls c)) none σ H'
  | .no => False
abbrev EvA := En → Res (List Sl)
def TA' (K : PySem.W.Frag) (Γ : Tb) (ew : WX) (ev : EvA) : TA := fun σ H Q => ∃ (B G0 G : Hp) (E : En) (Es : List Slot), ER Γ E Es ∧ Ok K B G0 Es σ G H ∧
  match ev E with
  | .ok rs => ∀ vs G' H', Ext G H G' H' → Paired (RA K Γ G' H') rs vs → Q vs H'
  | .ex c => ∀ G' H', Ext G H G' H' → ew (.ref (Γ.cls c)) none σ H'
  | .no => False
abbrev EvT := En → Res Bool
def TT' (K : PySem.W.Frag) (Γ : Tb) (ew : WX) (ev : EvT) : TT := fun σ H Q => ∃ (B G0 G : Hp) (E : En) (Es : List Slot), ER Γ E Es ∧ Ok K B G0 Es σ G H ∧
  match ev E with
  | .ok b => ∀ G' H', Ext G H G' H' → Q b H'
  | .ex c => ∀ G' H', Ext G H G' H' → ew (.ref (Γ.cls c)) none σ H'
  | .no => False
section
variable {X : Cx} {K : PySem.W.Frag} {ew : WX} {e : Expr} {t : TE} {ev : EvE}
theorem pe_imp {t u : TE} (h : PE X e t) (hi : ∀ σ H Q, u σ H Q → t σ H Q) : PE X e u := ⟨fun pins s σ H Q I q => h.run pins s σ H Q I (hi σ H Q q)⟩
theorem pt_imp {t u : TT} (h : PT X e t) (hi : ∀ σ H Q, u σ H Q → t σ H Q) : PT X e u := ⟨fun pins s σ H Q I q => h.run pins s σ H Q I (hi σ H Q q)⟩
theorem pe_either {t u : TE} (h : PE X e t) (h' : PE X e u) : PE X e (fun σ H Q => t σ H Q ∨ u σ H Q) := ⟨fun pins s σ H Q I q => q.elim (h.run pins s σ H Q I) (h'.run pins s σ H Q I)⟩
theorem pe_any {ι : Type} {t : ι → TE} (h : ∀ i, PE X e (t i)) : PE X e (fun σ H Q => ∃ i, t i σ H Q) := ⟨fun pins s σ H Q I ⟨i, q⟩ => (h i).run pins s σ H Q I q⟩
theorem T.at {B G0 G H : Hp} {E : En} {Es : List Slot} {σ : L2.St} {Q : VK} (hE : ER Γ E Es) (k : Ok K B G0 Es σ G H) (ok : ∀ r, ev E = .ok r → ∀ v G' H', Ext G H G' H' → RR K Γ H G' H' r v → Q v H')
    (hx : ∀ c, ev E = .ex c → ∀ G' H', Ext G H G' H' → ew (.ref (Γ.cls c)) none σ H') (hn : ev E ≠ .no) : T K Γ ew ev σ H Q := by
  refine ⟨B, G0, G, E, Es, hE, k, ?_⟩
  cases h : ev E with
  | ok r => exact ok r h
  | ex c => exact hx c h
  | no => exact absurd h hn
theorem T.atA {B G0 G H : Hp} {E : En} {Es : List Slot} {σ : L2.St} {Q : VK} (hE : ER Γ E Es) (k : Ok K B G0 Es σ G H) (ok : ∀ r, ev E = .ok r → ∀ v G' H', Ext G H G' H' → RA K Γ G' H' r.arg v → Q v H')
    (hx : ∀ c, ev E = .ex c → ∀ G' H', Ext G H G' H' → ew (.ref (Γ.cls c)) none σ H') (hn : ev E ≠ .no) : T K Γ ew ev σ H Q :=
  T.at hE k (fun r e v G' H' x rr => by
    obtain ⟨G'', x', _, ra⟩ := RR.arg x rr
    exact ok r e v G'' H' x' ra) hx hn
end
end Ev
set_option maxHeartbeats 1000000
namespace Ev
variable [Ab.Tabl]
open PySem PySem.Spec PyProof.Rows L2 Ab
variable {Γ : Tb}
theorem RR.back {K : PySem.W.Frag} {G H G1 H1 G' H' : Hp} (x : Ext G H G1 H1) : ∀ {r : R} {v : V}, RR K Γ H1 G' H' r v → RR K Γ H G' H' r v
  | .s s, v, h => h
  | .fr l, v, ⟨p, vs, e, h0, g, h, pr⟩ => ⟨p, vs, e, x.h.free h0, g, h, pr⟩
  | .frk l, v, ⟨p, vs, e, h0, g, h, pr⟩ => ⟨p, vs, e, x.h.free h0, g, h, pr⟩
  | .frt l, v, ⟨p, vs, e, h0, g, h, pr⟩ => ⟨p, vs, e, x.h.free h0, g, h, pr⟩
theorem RR.new {K : PySem.W.Frag} {G H : Hp} {p : Addr} {vs : List V} {l : List D} (gh : Same G H) (hp : H p = none) (pr : PR G vs (reps Γ l)) : RR K Γ H G (upd H p (.lst vs)) (.fr l) (.ref p) := ⟨p, vs, rfl, hp, gh.free hp, upd_same, pr⟩
section
variable {X : Cx} {K : PySem.W.Frag} {ew : WX}
def evUn (f : Sl → Option R) (ea : EvE) : EvE := fun E => (ea E).bind fun x => lift (f x.arg)
def evBin (f : Sl → Sl → Option R) (ea eb : EvE) : EvE := fun E => (ea E).bind fun x => (eb E).bind fun y => lift (f x.arg y.arg)
def evCB (f : List Sl → Option R) (ea : EvA) : EvE := fun E => (ea E).bind fun x => lift (f x)
def S1 (K : PySem.W.Frag) (Γ : Tb) (P : V → Hp → VK → Prop) (f : Sl → Option R) : Prop := ∀ x r, f x = some r → ∀ v G H (Q : VK), Same G H → RA K Γ G H x v → (∀ u G' H', Ext G H G' H' → RR K Γ H G' H' r u → Q u H') → P v H Q
def S2 (K : PySem.W.Frag) (Γ : Tb) (P : R2) (f : Sl → Sl → Option R) : Prop := ∀ x y r, f x y = some r → ∀ v w G H (Q : VK), Same G H → RA K Γ G H x v → RA K Γ G H y w → (∀ u G' H', Ext G H G' H' → RR K Γ H G' H' r u → Q u H') → P v w H Q
def SLs (K : PySem.W.Frag) (Γ : Tb) (P : List V → Hp → VK → Prop) (f : List Sl → Option R) : Prop := ∀ xs r, f xs = some r → ∀ vs G H (Q : VK), Same G H → Paired (RA K Γ G H) xs vs → (∀ u G' H', Ext G H G' H' → RR K Γ H G' H' r u → Q u H') → P vs H Q
theorem un_run {P : V → Hp → VK → Prop} {f : Sl → Option R} {ea : EvE} (hs : S1 K Γ P f) {σ : L2.St} {H : Hp} {Q : VK} (h : T K Γ ew (evUn f ea) σ H Q) : T K Γ ew ea σ H fun v H1 => P v H1 Q := by
  obtain ⟨B, G0, G, E, Es, hE, k, h⟩ := h
  unfold evUn at h
  refine T.atA hE k (fun r e v G1 H1 x1 ra => ?_) (fun c e => ?_) (fun e => ?_) <;> rw [e] at h <;> dsimp only [bind_ok, bind_ex, bind_no] at h
  · cases hf : f r.arg with
    | none => rw [hf] at h; exact h.elim
    | some r2 =>
      rw [hf] at h
      exact hs _ _ hf v G1 H1 Q x1.gh ra fun u G2 H2 x2 rr => h u G2 H2 (x1.trans x2) (rr.back x1)
  · exact h
theorem bin_run {P : R2} {f : Sl → Sl → Option R} {ea eb : EvE} (hs : S2 K Γ P f) {σ : L2.St} {H : Hp} {Q : VK} (h : T K Γ ew (evBin f ea eb) σ H Q) : T K Γ ew ea σ H fun v H1 => T K Γ ew eb σ H1 fun w H2 => P v w H2 Q := by
  obtain ⟨B, G0, G, E, Es, hE, k, h⟩ := h
  unfold evBin at h
  refine T.atA hE k (fun r e v G1 H1 x1 ra => ?_) (fun c e => ?_) (fun e => ?_) <;> rw [e] at h <;> dsimp only [bind_ok, bind_ex, bind_no] at h
  · refine T.atA hE (k.ext x1) (fun r' e' w G2 H2 x2 rb => ?_) (fun c e' G2 H2 x2 => ?_) (fun e' => ?_) <;> rw [e'] at h <;> dsimp only [bind_ok, bind_ex, bind_no] at h
    · cases hf : f r.arg r'.arg with
      | none => rw [hf] at h; exact h.elim
      | some r2 =>
        rw [hf] at h
        exact hs _ _ _ hf v w G2 H2 Q x2.gh (RA.ext x2 ra) rb fun u G3 H3 x3 rr => h u G3 H3 ((x1.trans x2).trans x3) (rr.back (x1.trans x2))
    · exact h G2 H2 (x1.trans x2)
  · exact h
theorem cb_run {P : List V → Hp → VK → Prop} {f : List Sl → Option R} {ea : EvA} (hs : SLs K Γ P f) {σ : L2.St} {H : Hp} {Q : VK} (h : T K Γ ew (evCB f ea) σ H Q) : TA' K Γ ew ea σ H fun vs H1 => P vs H1 Q := by
  obtain ⟨B, G0, G, E, Es, hE, k, h⟩ := h
  unfold evCB at h
  refine ⟨B, G0, G, E, Es, hE, k, ?_⟩
  cases e : ea E with
  | ok rs =>
    rw [e] at h; dsimp only [bind_ok] at h
    intro vs G1 H1 x1 ra
    cases hf : f rs with
    | none => rw [hf] at h; exact h.elim
    | some r2 =>
      rw [hf] at h
      exact hs _ _ hf vs G1 H1 Q x1.gh ra fun u G2 H2 x2 rr => h u G2 H2 (x1.trans x2) (rr.back x1)
  | ex c => rw [e] at h; exact h
  | no => rw [e] at h; exact h
def rdSl : Sl → Option R
  | .val d => some (.s (.val d))
  | .own l => some (.s (.red l))
  | .red l => some (.s (.red l))
  | .scr ns => some (.s (.scr ns))
  | .dic l => some (.s (.dic l))
  | .dct l => some (.s (.dct l))
  | .thg .kno (.dic l) => some (.s (.val (.dic l)))
  | .thg _ (.dic l) => some (.s (.dic l))
  | .thg _ (.lst l) => some (.s (.red l))
  | .thg _ (.dxn l) => some (.s (.thg .own (.dxn l)))
  | .thg _ (.set l) => some (.s (.thg .own (.set l)))
  | .nst l => some (.s (.nst l))
  | .slf c fs => some (.s (.val (.obj c fs)))
  | .un => none
  | .ins _ _ => none
def evVar (i : Nat) : EvE := fun E => match E[i]? with
  | some s => lift (rdSl s)
  | none => .no
def evC (d : D) : EvE := fun _ => .ok (.s (.val d))
theorem inn_read {B G H : Hp} : ∀ {L : List (List D)} {qs : List Addr}, Paired (fun q l => B q = none ∧ G q = none ∧ ∃ vs, H q = some (.lst vs) ∧ PR G vs l) qs (L.map (reps Γ)) → Paired (fun q l => ∃ vs, H q = some (.lst vs) ∧ PR G vs (reps Γ l)) qs L
  | [], _, h => by cases h; exact .nil
  | l :: L, _, h => by
    cases h with
    | cons a t => exact .cons a.2.2 (inn_read t)
theorem q_var {e : Expr} {i : Nat} (h : PE X e (tVar i)) : PE X e (T K Γ ew (evVar i)) := pe_imp h fun σ H Q ⟨B, G0, G, E, Es, hE, k, h⟩ => by
  unfold evVar at h
  cases es : E[i]? with
  | none => rw [es] at h; exact h.elim
  | some s =>
    rw [es] at h
    obtain ⟨sl, e1, rs⟩ := P_get hE es
    obtain ⟨o, e2, so⟩ := P_get k.sl e1
    cases s with
    | un => exact h.elim
    | ins _ _ => exact h.elim
    | val d =>
      cases rs
      obtain ⟨v, e3, hv⟩ := so
      exact ⟨v, by rw [e2, e3], h v G H (Ext.refl k.gh) hv⟩
    | own l =>
      cases rs
      obtain ⟨p, vs, e3, _, _, hh, pr⟩ := so
      exact ⟨.ref p, by rw [e2, e3], h _ G H (Ext.refl k.gh) ⟨p, vs, rfl, hh, pr⟩⟩
    | red l =>
      cases rs
      obtain ⟨p, vs, e3, b, pr⟩ := so
      exact ⟨.ref p, by rw [e2, e3], h _ G H (Ext.refl k.gh) ⟨p, vs, rfl, k.bh.at _ _ b, pr⟩⟩
    | scr ns =>
      cases rs
      obtain ⟨p, e3, hs⟩ := so
      exact ⟨.ref p, by rw [e2, e3], h _ G H (Ext.refl k.gh) ⟨p, rfl, k.bh.seq hs⟩⟩
    | dic kvs =>
      cases rs
      obtain ⟨p, vs, e3, _, _, hh, pr⟩ := so
      exact ⟨.ref p, by rw [e2, e3], h _ G H (Ext.refl k.gh) ⟨p, vs, rfl, hh, pr⟩⟩
    | dct kvs =>
      cases rs
      obtain ⟨p, vs, e3, _, _, hh, pr⟩ := so
      exact ⟨.ref p, by rw [e2, e3], h _ G H (Ext.refl k.gh) ⟨p, vs, rfl, hh, pr⟩⟩
    | thg m c =>
      cases m with
      | kno =>
        cases rs
        obtain ⟨v, e3, hv⟩ := so
        subst e3
        cases c with
        | dic kvs =>
          obtain ⟨p, ws, e4, g, pk⟩ := hv
          refine ⟨v, by rw [e2], h v G H (Ext.refl k.gh) ?_⟩
          show (rep Γ (.dic kvs)).rep G v
          rw [rep]
          exact ⟨p, ws, e4, g, pk⟩
        | lst l =>
          obtain ⟨p, vs, e4, g, pr⟩ := hv
          exact ⟨v, by rw [e2], h v G H (Ext.refl k.gh) ⟨p, vs, e4, k.gh _ _ g, pr⟩⟩
        | dxn kvs =>
          obtain ⟨p, u, e4, g, r⟩ := hv
          exact ⟨v, by rw [e2], h v G H (Ext.refl k.gh) ⟨p, u, e4, k.gh _ _ g, r⟩⟩
        | set kvs =>
          obtain ⟨p, u, e4, g, r⟩ := hv
          exact ⟨v, by rw [e2], h v G H (Ext.refl k.gh) ⟨p, u, e4, k.gh _ _ g, r⟩⟩
      | own =>
        cases rs
        obtain ⟨p, u, e3, _, _, hh, r, _⟩ := so
        cases c with
        | dic kvs =>
          obtain ⟨ws, eu, pk⟩ := r
          subst eu
          exact ⟨.ref p, by rw [e2, e3], h _ G H (Ext.refl k.gh) ⟨p, ws, rfl, hh, pk⟩⟩
        | lst l =>
          obtain ⟨ws, eu, pk⟩ := r
          subst eu
          exact ⟨.ref p, by rw [e2, e3], h _ G H (Ext.refl k.gh) ⟨p, ws, rfl, hh, pk⟩⟩
        | dxn kvs => exact ⟨.ref p, by rw [e2, e3], h _ G H (Ext.refl k.gh) ⟨p, u, rfl, hh, r⟩⟩
        | set kvs => exact ⟨.ref p, by rw [e2, e3], h _ G H (Ext.refl k.gh) ⟨p, u, rfl, hh, r⟩⟩
      | bor =>
        cases rs
        obtain ⟨p, u, e3, _, _, hh, r, _⟩ := so
        cases c with
        | dic kvs =>
          obtain ⟨ws, eu, pk⟩ := r
          subst eu
          exact ⟨.ref p, by rw [e2, e3], h _ G H (Ext.refl k.gh) ⟨p, ws, rfl, hh, pk⟩⟩
        | lst l =>
          obtain ⟨ws, eu, pk⟩ := r
          subst eu
          exact ⟨.ref p, by rw [e2, e3], h _ G H (Ext.refl k.gh) ⟨p, ws, rfl, hh, pk⟩⟩
        | dxn kvs => exact ⟨.ref p, by rw [e2, e3], h _ G H (Ext.refl k.gh) ⟨p, u, rfl, hh, r⟩⟩
        | set kvs => exact ⟨.ref p, by rw [e2, e3], h _ G H (Ext.refl k.gh) ⟨p, u, rfl, hh, r⟩⟩
    | slf c fs =>
      cases rs
      obtain ⟨v, e3, e4, dx, ws, g, pk⟩ := so
      refine ⟨v, by rw [e2, e3], h v G H (Ext.refl k.gh) ?_⟩
      show (rep Γ (.obj c fs)).rep G v
      rw [rep]
      exact ⟨Γ.self, dx, ws, e4, g, pk⟩
    | nst L =>
      obtain ⟨p, qs, rfl⟩ := rs
      obtain ⟨e3, b, g, hh, q, nd⟩ := so
      exact ⟨.ref p, by rw [e2, e3], h _ G H (Ext.refl k.gh) ⟨p, qs, rfl, hh, inn_read q⟩⟩
theorem q_c {e : Expr} {v : V} {d : D} (h : PE X e (tC v)) (hd : ∀ G, (rep Γ d).rep G v) : PE X e (T K Γ ew (evC d)) := pe_imp h fun σ H Q ⟨B, G0, G, E, Es, hE, k, h⟩ => h v G H (Ext.refl k.gh) (hd G)
theorem q_int {i j pos} : PE X (.Constant (.int i) j pos) (T K Γ ew (evC (.int i))) := q_c pe_int fun G => by rw [rep]; exact rfl
theorem q_bl {i j pos} : PE X (.Constant (.bool i) j pos) (T K Γ ew (evC (.bl i))) := q_c pe_bl fun G => by rw [rep]; exact rfl
theorem q_str {i j pos} : PE X (.Constant (.str i) j pos) (T K Γ ew (evC (.str i))) := q_c pe_str fun G => by rw [rep]; exact rfl
theorem q_non {j pos} : PE X (.Constant .none j pos) (T K Γ ew (evC .non)) := q_c pe_non fun G => by rw [rep]; exact rfl
def evNil : EvA := fun _ => .ok []
def evCons (ea : EvE) (es : EvA) : EvA := fun E => (ea E).bind fun x => (es E).bind fun xs => .ok (x.arg :: xs)
theorem q_nil : PA X [] (TA' K Γ ew evNil) := ⟨fun pos pins s σ H Q I ⟨B, G0, G, E, Es, hE, k, h⟩ => pa_nil.run pos pins s σ H Q I (h [] G H (Ext.refl k.gh) .nil)⟩
theorem pa_imp {es : List Expr} {t u : TA} (h : PA X es t) (hi : ∀ σ H Q, u σ H Q → t σ H Q) : PA X es u := ⟨fun pos pins s σ H Q I q => h.run pos pins s σ H Q I (hi σ H Q q)⟩
theorem q_cons {e : Expr} {es : List Expr} {ea : EvE} {eas : EvA} (ha : PE X e (T K Γ ew ea)) (hr : PA X es (TA' K Γ ew eas)) (hs : starEach (e :: es) X.env = (false, eval e X.env) :: starEach es X.env := by rfl) : PA X (e :: es) (TA' K Γ ew (evCons ea eas)) :=
  pa_imp (pa_cons ha hr hs) fun σ H Q ⟨B, G0, G, E, Es, hE, k, h⟩ => by
    unfold evCons at h
    show T K Γ ew ea σ H _
    refine T.atA hE k (fun r e v G1 H1 x1 ra => ?_) (fun c e => ?_) (fun e => ?_) <;> rw [e] at h <;> dsimp only [bind_ok, bind_ex, bind_no] at h
    · refine ⟨B, G0, G1, E, Es, hE, k.ext x1, ?_⟩
      cases e2 : eas E with
      | ok rs =>
        rw [e2] at h; dsimp only [bind_ok] at h
        exact fun vs G2 H2 x2 rs => h _ G2 H2 (x1.trans x2) (.cons (RA.ext x2 ra) rs)
      | ex c => rw [e2] at h; exact fun G2 H2 x2 => h G2 H2 (x1.trans x2)
      | no => rw [e2] at h; exact h
    · exact h
end
end Ev
set_option maxHeartbeats 1000000
namespace Ev
variable [Ab.Tabl]
open PySem PySem.Spec PyProof.Rows L2 Ab
variable {Γ : Tb}
def lsS : Sl → Option (List D)
  | .val (.lst l) => some l
  | .red l => some l
  | _ => none
def sqS : Sl → Option (List D)
  | .val (.lst l) => some l
  | .red l => some l
  | .scr ns => some (ns.map D.int)
  | _ => none
def tp0 : Sl → Option (List D)
  | .val (.tup l) => some l
  | _ => none
def tpkS : Sl → Option (List D)
  | .val (.tpk l) => some l
  | _ => none
def tpS : Sl → Option (List D)
  | .val (.tup l) => some l
  | .val (.tpk l) => some l
  | _ => none
def dcS : Sl → Option (List (Key × D))
  | .val (.dic l) => some l
  | .dic l => some l
  | _ => none
def flat : D → Option V
  | .non => some .non
  | .bl b => some (.bl b)
  | .int i => some (.int i)
  | .str s => some (.str s)
  | _ => none
def flats : List D → Option (List V)
  | [] => some []
  | d :: ds => match flat d, flats ds with
    | some v, some vs => some (v :: vs)
    | _, _ => none
def toInt : D → Option Int
  | .int i => some i
  | _ => none
def toInts : List D → Option (List Int)
  | [] => some []
  | d :: ds => match toInt d, toInts ds with
    | some v, some vs => some (v :: vs)
    | _, _ => none
def toBls : List D → Option (List Bool)
  | [] => some []
  | .bl b :: ds => (toBls ds).map (b :: ·)
  | _ => none
@[simp] theorem toInts_map (ns : List Int) : toInts (ns.map D.int) = some ns := by
  induction ns with
  | nil => rfl
  | cons n ns ih => simp [toInts, toInt, ih]
@[simp] theorem toBls_map (ns : List Bool) : toBls (ns.map D.bl) = some ns := by
  induction ns with
  | nil => rfl
  | cons n ns ih => simp [toBls, ih]
section
variable {K : PySem.W.Frag} {G H : Hp} {w : V}
theorem rp_non : (rep Γ .non).rep G w ↔ w = .non := by rw [rep]; exact Iff.rfl
theorem rp_bl {b : Bool} : (rep Γ (.bl b)).rep G w ↔ w = .bl b := by rw [rep]; exact Iff.rfl
theorem rp_int {b : Int} : (rep Γ (.int b)).rep G w ↔ w = .int b := by rw [rep]; exact Iff.rfl
theorem rp_str {b : Str} : (rep Γ (.str b)).rep G w ↔ w = .str b := by rw [rep]; exact Iff.rfl
theorem rp_lst {l : List D} : (rep Γ (.lst l)).rep G w ↔ ∃ p vs, w = .ref p ∧ G p = some (.lst vs) ∧ PR G vs (reps Γ l) := by rw [rep]; exact Iff.rfl
theorem rp_tup {l : List D} : (rep Γ (.tup l)).rep G w ↔ ∃ p vs, w = .ref p ∧ G p = some (.tup vs) ∧ PR G vs (reps Γ l) := by rw [rep]; exact Iff.rfl
theorem rp_tpk {l : List D} : (rep Γ (.tpk l)).rep G w ↔ ∃ p vs o, w = .ref p ∧ G p = some (.frz o (.tup vs)) ∧ o.cls = .type "tuple" ∧ o.dict = none ∧ PR G vs (reps Γ l) := by rw [rep]; exact Iff.rfl
theorem rp_dic {l : List (Key × D)} : (rep Γ (.dic l)).rep G w ↔ ∃ p vs, w = .ref p ∧ Rd G p (.dK vs) ∧ PK G vs (repk Γ l) := by rw [rep]; exact Iff.rfl
theorem rp_obj {c : Str} {fs : List (Str × D)} : (rep Γ (.obj c fs)).rep G w ↔ ∃ p dx ws, w = .ref p ∧ G p = some (.ins (Γ.cls c) dx ws) ∧ PK G ws (repf Γ fs) := by rw [rep]; exact Iff.rfl
theorem rp_flat : ∀ {d : D} {v : V}, flat d = some v → ((rep Γ d).rep G w ↔ w = v)
  | .non, _, h => by cases h; exact rp_non
  | .bl b, _, h => by cases h; exact rp_bl
  | .int b, _, h => by cases h; exact rp_int
  | .str b, _, h => by cases h; exact rp_str
theorem ra_ls {x : Sl} {l : List D} (h : lsS x = some l) (gh : Same G H) (r : RA K Γ G H x w) : ∃ p vs, w = .ref p ∧ H p = some (.lst vs) ∧ PR G vs (reps Γ l) := by
  unfold lsS at h
  split at h
  · cases h; obtain ⟨p, vs, e, g, pr⟩ := rp_lst.mp r; exact ⟨p, vs, e, gh _ _ g, pr⟩
  · cases h; exact r
  · cases h
theorem pr_ints : ∀ ns : List Int, PR G (ns.map V.int) (reps Γ (ns.map D.int))
  | [] => by simp only [List.map_nil, reps]; exact .nil
  | n :: ns => by simp only [List.map_cons, reps]; exact .cons (rp_int.mpr rfl) (pr_ints ns)
theorem ra_sq {x : Sl} {l : List D} (h : sqS x = some l) (gh : Same G H) (r : RA K Γ G H x w) : ∃ p vs, w = .ref p ∧ SqL K H p vs ∧ PR G vs (reps Γ l) := by
  unfold sqS at h
  split at h
  · cases h; obtain ⟨p, vs, e, g, pr⟩ := rp_lst.mp r; exact ⟨p, vs, e, SqL.of (gh _ _ g), pr⟩
  · cases h; obtain ⟨p, vs, e, g, pr⟩ := r; exact ⟨p, vs, e, SqL.of g, pr⟩
  · cases h; obtain ⟨p, e, g⟩ := r; exact ⟨p, _, e, g, pr_ints _⟩
  · cases h
theorem ra_t0 {x : Sl} {l : List D} (h : tp0 x = some l) (gh : Same G H) (r : RA K Γ G H x w) : ∃ p vs, w = .ref p ∧ G p = some (.tup vs) ∧ SqT K H p vs ∧ PR G vs (reps Γ l) := by
  unfold tp0 at h
  split at h
  · cases h; obtain ⟨p, vs, e, g, pr⟩ := rp_tup.mp r; exact ⟨p, vs, e, g, SqT.of (gh _ _ g), pr⟩
  · cases h
theorem ra_tk {x : Sl} {l : List D} (h : tpkS x = some l) (r : RA K Γ G H x w) : ∃ p vs o, w = .ref p ∧ G p = some (.frz o (.tup vs)) ∧ o.cls = .type "tuple" ∧ o.dict = none ∧ PR G vs (reps Γ l) := by
  unfold tpkS at h
  split at h
  · cases h; exact rp_tpk.mp r
  · cases h
theorem ra_tp {x : Sl} {l : List D} (h : tpS x = some l) (gh : Same G H) (r : RA K Γ G H x w) : ∃ p vs, w = .ref p ∧ Rd G p (.tup vs) ∧ SqT K H p vs ∧ PR G vs (reps Γ l) := by
  unfold tpS at h
  split at h
  · cases h; obtain ⟨p, vs, e, g, pr⟩ := rp_tup.mp r; exact ⟨p, vs, e, .inl g, SqT.of (gh _ _ g), pr⟩
  · cases h; obtain ⟨p, vs, o, e, g, _, _, pr⟩ := rp_tpk.mp r; exact ⟨p, vs, e, .inr ⟨o, g⟩, .inl (.inr ⟨o, gh _ _ g⟩), pr⟩
  · cases h
theorem ra_dc {x : Sl} {l : List (Key × D)} (h : dcS x = some l) (gh : Same G H) (r : RA K Γ G H x w) : ∃ p vs, w = .ref p ∧ Rd H p (.dK vs) ∧ PK G vs (repk Γ l) := by
  unfold dcS at h
  split at h
  · cases h; obtain ⟨p, vs, e, g, pr⟩ := rp_dic.mp r; exact ⟨p, vs, e, Ev.Rd.mono gh g, pr⟩
  · cases h; obtain ⟨p, vs, e, g, pr⟩ := r; exact ⟨p, vs, e, .inl g, pr⟩
  · cases h
theorem pr_flats : ∀ {l : List D} {vs ws : List V}, flats l = some ws → PR G vs (reps Γ l) → vs = ws
  | [], _, _, h, r => by cases h; rw [reps] at r; cases r; rfl
  | d :: ds, vs, ws, h, r => by
    rw [reps] at r
    unfold flats at h
    cases hd : flat d with
    | none => rw [hd] at h; cases h
    | some v =>
      cases hs : flats ds with
      | none => rw [hd, hs] at h; cases h
      | some us =>
        rw [hd, hs] at h; cases h
        cases r with
        | cons a t => rw [(rp_flat hd).mp a, pr_flats hs t]
theorem flats_flat : ∀ {l : List D} {ws : List V}, flats l = some ws → ws.all flatV = true
  | [], _, h => by cases h; rfl
  | d :: ds, ws, h => by
    unfold flats at h
    cases hd : flat d with
    | none => rw [hd] at h; cases h
    | some v =>
      cases hs : flats ds with
      | none => rw [hd, hs] at h; cases h
      | some us =>
        rw [hd, hs] at h; cases h
        rw [List.all_cons, flats_flat hs]
        cases d <;> first | (cases hd; rfl) | cases hd
theorem pr_toInts : ∀ {l : List D} {vs : List V} {ns : List Int}, toInts l = some ns → PR G vs (reps Γ l) → vs = ns.map V.int
  | [], _, _, h, r => by cases h; rw [reps] at r; cases r; rfl
  | d :: ds, vs, ws, h, r => by
    rw [reps] at r
    unfold toInts at h
    cases hd : toInt d with
    | none => rw [hd] at h; cases h
    | some v =>
      cases hs : toInts ds with
      | none => rw [hd, hs] at h; cases h
      | some us =>
        rw [hd, hs] at h; cases h
        have e : d = .int v := by
          unfold toInt at hd; split at hd <;> cases hd; rfl
        subst e
        cases r with
        | cons a t => rw [rp_int.mp a, pr_toInts hs t]; rfl
theorem pr_toBls : ∀ {l : List D} {vs : List V} {ns : List Bool}, toBls l = some ns → PR G vs (reps Γ l) → vs = ns.map V.bl
  | [], _, _, h, r => by cases h; rw [reps] at r; cases r; rfl
  | d :: ds, vs, ws, h, r => by
    rw [reps] at r
    unfold toBls at h
    split at h
    · rename_i e; cases e
    · rename_i b ds' e
      cases e
      cases hs : toBls ds with
      | none => rw [hs] at h; cases h
      | some us =>
        rw [hs] at h; cases h
        cases r with
        | cons a t => rw [rp_bl.mp a, pr_toBls hs t]; rfl
    · cases h
end
section
variable {X : Cx} {K : PySem.W.Frag} {ew : WX}
theorem opr_or {f : Value → Value → Sem Value} {P P' : R2} (h : OpR X f P) (h' : OpR X f P') : OpR X f (fun x y H Q => P x y H Q ∨ P' x y H Q) := fun pins s σ H x y v u Q I rx ry q => q.elim (h pins s σ H x y v u Q I rx ry) (h' pins s σ H x y v u Q I rx ry)
theorem S2.or {P P' : R2} {f f' : Sl → Sl → Option R} (h : S2 K Γ P f) (h' : S2 K Γ P' f') : S2 K Γ (fun x y H Q => P x y H Q ∨ P' x y H Q) (fun x y => (f x y).or (f' x y)) := fun x y r e v w G H Q gh rx ry q => by
  dsimp only at e
  cases e1 : f x y with
  | some r1 => rw [e1] at e; cases e; exact .inl (h x y _ e1 v w G H Q gh rx ry q)
  | none => rw [e1] at e; exact .inr (h' x y r e v w G H Q gh rx ry q)
theorem q_bin {op : Operator} {P : R2} {f : Sl → Sl → Option R} {a b : Expr} {ea eb : EvE} {pos : Pos} (ho : OpR X (binaryOp op) P) (hs : S2 K Γ P f) (ha : PE X a (T K Γ ew ea)) (hb : PE X b (T K Γ ew eb)) : PE X (.BinOp a op b pos) (T K Γ ew (evBin f ea eb)) :=
  pe_imp (pe_op ho ha hb) fun σ H Q h => bin_run hs h
theorem q_cmp {op : CmpOp} {P : R2} {f : Sl → Sl → Option R} {a b : Expr} {ea eb : EvE} {pos : Pos} (ho : OpR X (compareOp op) P) (hs : S2 K Γ P f) (ha : PE X a (T K Γ ew ea)) (hb : PE X b (T K Γ ew eb)) (hm : behindInMarks op b = false) : PE X (.Compare a [op] [b] pos) (T K Γ ew (evBin f ea eb)) :=
  pe_imp (pe_cmpR ho ha hb hm) fun σ H Q h => bin_run hs h
abbrev vI (i : Int) : R := .s (.val (.int i))
abbrev vB (b : Bool) : R := .s (.val (.bl b))
abbrev vS (b : Str) : R := .s (.val (.str b))
def fI (c : Int → Int → Bool) (g : Int → Int → D) : Sl → Sl → Option R
  | .val (.int a), .val (.int b) => if c a b = true then some (.s (.val (g a b))) else none
  | _, _ => none
theorem s2_I {C : Int → Int → Prop} {g : Int → Int → V} {c : Int → Int → Bool} {g' : Int → Int → D} (hc : ∀ a b, c a b = true → C a b) (hg : ∀ a b, flat (g' a b) = some (g a b)) : S2 K Γ (rI C g) (fI c g') := fun x y r e v w G H Q gh rx ry q => by
  unfold fI at e
  split at e
  · rename_i a b
    split at e
    · rename_i h
      cases e
      exact ⟨a, b, rp_int.mp rx, rp_int.mp ry, hc a b h, q _ G H (Ext.refl gh) ((rp_flat (hg a b)).mpr rfl)⟩
    · cases e
  · cases e
theorem s2_I0 {g : Int → Int → V} {g' : Int → Int → D} (hg : ∀ a b, flat (g' a b) = some (g a b)) : S2 K Γ (rI0 g) (fI (fun _ _ => true) g') := fun x y r e v w G H Q gh rx ry q => by
  unfold fI at e
  split at e
  · rename_i a b
    rw [if_pos rfl] at e
    cases e
    exact ⟨a, b, rp_int.mp rx, rp_int.mp ry, q _ G H (Ext.refl gh) ((rp_flat (hg a b)).mpr rfl)⟩
  · cases e
def fStrCat : Sl → Sl → Option R
  | .val (.str a), .val (.str b) => if a.length + b.length ≤ 100000 then some (vS (a ++ b)) else none
  | _, _ => none
theorem s2_strCat : S2 K Γ (fun x y H Q => ∃ i j, x = .str i ∧ y = .str j ∧ i.length + j.length ≤ sizeLine ∧ Q (.str (i ++ j)) H) fStrCat := fun x y r e v w G H Q gh rx ry q => by
  unfold fStrCat at e
  split at e
  · rename_i a b
    split at e
    · rename_i h
      cases e
      exact ⟨a, b, rp_str.mp rx, rp_str.mp ry, small h, q _ G H (Ext.refl gh) (rp_str.mpr rfl)⟩
    · cases e
  · cases e
def fCat (x y : Sl) : Option R := match lsS x, lsS y with
  | some a, some b => if a.length + b.length ≤ 100000 then some (.fr (a ++ b)) else none
  | _, _ => none
theorem s2_cat : S2 K Γ rCat fCat := fun x y r e v w G H Q gh rx ry q => by
  unfold fCat at e
  split at e
  · rename_i a b ha hb
    split at e
    · rename_i h
      cases e
      obtain ⟨p, vs, e1, h1, r1⟩ := ra_ls ha gh rx
      obtain ⟨p2, vs2, e2, h2, r2⟩ := ra_ls hb gh ry
      refine ⟨p, p2, vs, vs2, e1, e2, h1, h2, ?_, fun z hz => q _ G _ (Ext.newO gh hz) (RR.new gh hz ?_)⟩
      · rw [r1.len, r2.len, reps_len, reps_len]; exact small h
      · rw [reps_app]; exact r1.append r2
    · cases e
  · cases e
def fCatT (x y : Sl) : Option R := match tp0 x, tp0 y with
  | some a, some b => if a.length + b.length ≤ 100000 then some (.s (.val (.tup (a ++ b)))) else none
  | _, _ => none
theorem ra_newT {G H : Hp} {p : Addr} {vs : List V} {l : List D} (gh : Same G H) (hp : H p = none) (pr : PR G vs (reps Γ l)) : RR K Γ H (upd G p (.tup vs)) (upd H p (.tup vs)) (.s (.val (.tup l))) (.ref p) :=
  rp_tup.mpr ⟨p, vs, rfl, upd_same, pr.mono (Ext.new gh hp).g⟩
theorem s2_catT : S2 K Γ (rCatA K) fCatT := fun x y r e v w G H Q gh rx ry q => by
  unfold fCatT at e
  split at e
  · rename_i a b ha hb
    split at e
    · rename_i h
      cases e
      obtain ⟨p, vs, e1, g1, h1, r1⟩ := ra_t0 ha gh rx
      obtain ⟨p2, vs2, e2, g2, h2, r2⟩ := ra_t0 hb gh ry
      refine ⟨p, p2, vs, vs2, e1, e2, h1, h2, ?_, fun z => ?_, fun _ z => ?_, fun _ _ z hz => q _ _ _ (Ext.new gh hz) (ra_newT gh hz ?_)⟩
      · rw [r1.len, r2.len, reps_len, reps_len]; exact small h
      · subst z
        have : a = [] := by
          have := r1.len; rw [reps_len] at this; exact List.length_eq_zero_iff.mp this.symm
        subst this
        exact q _ G H (Ext.refl gh) (rp_tup.mpr ⟨p2, vs2, rfl, g2, r2⟩)
      · subst z
        have : b = [] := by
          have := r2.len; rw [reps_len] at this; exact List.length_eq_zero_iff.mp this.symm
        subst this
        refine q _ G H (Ext.refl gh) (rp_tup.mpr ⟨p, vs, rfl, g1, ?_⟩)
        rw [List.append_nil]; exact r1
      · rw [reps_app]; exact r1.append r2
    · cases e
  · cases e
def fRep (x y : Sl) : Option R := match lsS x, y with
  | some a, .val (.int k) => if k ≤ 100000 ∧ -100000 ≤ k ∧ a.length * k.toNat ≤ 100000 then some (.fr (List.replicate k.toNat a).flatten) else none
  | _, _ => none
theorem pr_rep {G : Hp} {vs : List V} {l : List D} (h : PR G vs (reps Γ l)) : ∀ n : Nat, PR G (List.replicate n vs).flatten (reps Γ (List.replicate n l).flatten)
  | 0 => by simp only [List.replicate, List.flatten_nil, reps]; exact .nil
  | n + 1 => by
    simp only [List.replicate_succ, List.flatten_cons]
    rw [reps_app]; exact h.append (pr_rep h n)
theorem s2_rep : S2 K Γ rRep fRep := fun x y r e v w G H Q gh rx ry q => by
  unfold fRep at e
  split at e
  · rename_i a k ha
    split at e
    · rename_i h
      cases e
      obtain ⟨p, vs, e1, h1, r1⟩ := ra_ls ha gh rx
      refine ⟨p, k, vs, e1, rp_int.mp ry, h1, by omega, by omega, ?_, fun z hz => q _ G _ (Ext.newO gh hz) (RR.new gh hz (pr_rep r1 _))⟩
      rw [r1.len, reps_len]; exact small h.2.2
    · cases e
  · cases e
abbrev fAdd : Sl → Sl → Option R := fun x y => (fI (fun _ _ => true) (fun a b => .int (a + b)) x y).or (((fCat x y).or ((fCatT x y).or (fStrCat x y))))
theorem q_add {a b : Expr} {ea eb : EvE} {pos : Pos} (ha : PE X a (T X.K Γ ew ea)) (hb : PE X b (T X.K Γ ew eb)) : PE X (.BinOp a .Add b pos) (T X.K Γ ew (evBin fAdd ea eb)) :=
  q_bin (opr_or op_add (opr_or op_cat (opr_or op_catA op_add_str))) ((s2_I0 fun _ _ => rfl).or (s2_cat.or (s2_catT.or s2_strCat))) ha hb
theorem q_sub {a b : Expr} {ea eb : EvE} {pos : Pos} (ha : PE X a (T X.K Γ ew ea)) (hb : PE X b (T X.K Γ ew eb)) : PE X (.BinOp a .Sub b pos) (T X.K Γ ew (evBin (fI (fun _ _ => true) fun a b => .int (a - b)) ea eb)) :=
  q_bin op_sub (s2_I0 fun _ _ => rfl) ha hb
def cMul (i j : Int) : Bool := decide ((-(2 ^ 64) < i ∧ i < 2 ^ 64) ∨ (-(2 ^ 64) < j ∧ j < 2 ^ 64) ∨ i.natAbs.log2 + j.natAbs.log2 < 1000000)
abbrev fMul : Sl → Sl → Option R := fun x y => (fI cMul (fun a b => .int (a * b)) x y).or (fRep x y)
theorem q_mul {a b : Expr} {ea eb : EvE} {pos : Pos} (ha : PE X a (T X.K Γ ew ea)) (hb : PE X b (T X.K Γ ew eb)) : PE X (.BinOp a .Mult b pos) (T X.K Γ ew (evBin fMul ea eb)) := by
  refine q_bin (P := fun x y H Q => rI (fun i j => CMul i j ∨ CMulW i j) (fun i j => .int (i * j)) x y H Q ∨ rRep x y H Q) (opr_or (fun pins s σ H x y v u Q I rx ry q => ?_) op_rep) ((s2_I (fun i j h => ?_) fun _ _ => rfl).or s2_rep) ha hb
  · obtain ⟨i, j, e1, e2, hc, q⟩ := q
    rcases hc with hc | hc
    · exact op_mul pins s σ H x y v u Q I rx ry ⟨i, j, e1, e2, hc, q⟩
    · exact op_mulW pins s σ H x y v u Q I rx ry ⟨i, j, e1, e2, hc, q⟩
  · have := of_decide_eq_true h
    rcases this with h | h | h
    · exact .inl (.inl h)
    · exact .inl (.inr h)
    · exact .inr h
theorem q_fdiv {a b : Expr} {ea eb : EvE} {pos : Pos} (ha : PE X a (T X.K Γ ew ea)) (hb : PE X b (T X.K Γ ew eb)) : PE X (.BinOp a .FloorDiv b pos) (T X.K Γ ew (evBin (fI (fun _ j => decide (0 < j ∧ j < 4611686018427387904)) fun a b => .int (a / b)) ea eb)) :=
  q_bin op_fdivW (s2_I (fun i j h => show 0 < j ∧ j.natAbs.log2 < 9000 from by
    obtain ⟨h1, h2⟩ := of_decide_eq_true h
    refine ⟨h1, Nat.lt_of_lt_of_le ((Nat.log2_lt (by omega)).mpr (show j.natAbs < 2 ^ 62 from by omega)) (by decide)⟩) fun _ _ => rfl) ha hb
theorem q_mod {a b : Expr} {ea eb : EvE} {pos : Pos} (ha : PE X a (T X.K Γ ew ea)) (hb : PE X b (T X.K Γ ew eb)) : PE X (.BinOp a .Mod b pos) (T X.K Γ ew (evBin (fI (fun _ j => decide (0 < j)) fun a b => .int (a % b)) ea eb)) :=
  q_bin op_mod (s2_I (fun _ _ h => of_decide_eq_true h) fun _ _ => rfl) ha hb
def cPow (i j : Int) : Bool := decide (0 ≤ j ∧ j ≤ 1000000 ∧ i.natAbs < 2 ^ 64)
theorem q_pow {a b : Expr} {ea eb : EvE} {pos : Pos} (ha : PE X a (T X.K Γ ew ea)) (hb : PE X b (T X.K Γ ew eb)) : PE X (.BinOp a .Pow b pos) (T X.K Γ ew (evBin (fI cPow fun a b => .int (a ^ b.toNat)) ea eb)) :=
  q_bin op_pow (s2_I (fun i j h => show 0 ≤ j ∧ j ≤ 1000000 ∧ i.natAbs < 2 ^ 64 from of_decide_eq_true h) fun _ _ => rfl) ha hb
theorem q_neg {a : Expr} {ea : EvE} {pos : Pos} (ha : PE X a (T X.K Γ ew ea)) : PE X (.UnaryOp .USub a pos) (T X.K Γ ew (evUn (fun x => match x with | .val (.int i) => some (vI (-i)) | _ => none) ea)) :=
  pe_imp (pe_un un_neg ha) fun σ H Q h => un_run (P := rU fun i => .int (-i)) (fun x r e v G H Q gh rx q => by
    split at e
    · cases e; exact ⟨_, rp_int.mp rx, q _ G H (Ext.refl gh) (rp_int.mpr rfl)⟩
    · cases e) h
def fCmpI (g : Int → Int → Bool) : Sl → Sl → Option R := fI (fun _ _ => true) fun a b => .bl (g a b)
theorem s2_lt : S2 K Γ (rI0 fun i j => .bl (decide (i < j))) (fCmpI fun i j => decide (i < j)) := s2_I0 fun _ _ => rfl
theorem s2_le : S2 K Γ (rI0 fun i j => .bl (decide (i ≤ j))) (fCmpI fun i j => decide (i ≤ j)) := s2_I0 fun _ _ => rfl
theorem s2_gt : S2 K Γ (rI0 fun i j => .bl (decide (j < i))) (fCmpI fun i j => decide (j < i)) := s2_I0 fun _ _ => rfl
theorem s2_ge : S2 K Γ (rI0 fun i j => .bl (decide (j ≤ i))) (fCmpI fun i j => decide (j ≤ i)) := s2_I0 fun _ _ => rfl
mutual
def toP : D → Option PyData
  | .non => some .none
  | .bl b => some (.bool b)
  | .int i => some (.int i)
  | .str s => some (.str s)
  | .lst l => (toPs l).map .list
  | .tup l => (toPs l).map .tuple
  | .tpk l => (toPs l).map .tuple
  | .dic _ => none
  | .dct _ => none
  | .obj _ _ => none
  | .rng _ => none
def toPs : List D → Option (List PyData)
  | [] => some []
  | d :: ds => match toP d, toPs ds with
    | some v, some vs => some (v :: vs)
    | _, _ => none
end
mutual
theorem dp_of {G H : Hp} (gh : Same G H) : ∀ (d : D) {p : PyData} {v : V}, toP d = some p → (rep Γ d).rep G v → Dp K H v p
  | .non, _, _, h, r => by rw [toP] at h; cases h; rw [rp_non.mp r]; exact .non
  | .bl b, _, _, h, r => by rw [toP] at h; cases h; rw [rp_bl.mp r]; exact .bl b
  | .int i, _, _, h, r => by rw [toP] at h; cases h; rw [rp_int.mp r]; exact .int i
  | .str s, _, _, h, r => by rw [toP] at h; cases h; rw [rp_str.mp r]; exact .str s
  | .lst l, _, _, h, r => by
    rw [toP] at h
    cases hl : toPs l with
    | none => rw [hl] at h; cases h
    | some ps =>
      rw [hl] at h; cases h
      obtain ⟨p, vs, e, g, pr⟩ := rp_lst.mp r
      subst e
      exact .lst (SqL.of (gh _ _ g)) (dps_of gh l hl pr)
  | .tup l, _, _, h, r => by
    rw [toP] at h
    cases hl : toPs l with
    | none => rw [hl] at h; cases h
    | some ps =>
      rw [hl] at h; cases h
      obtain ⟨p, vs, e, g, pr⟩ := rp_tup.mp r
      subst e
      exact .tup (SqT.of (gh _ _ g)) (dps_of gh l hl pr)
  | .tpk l, _, _, h, r => by
    rw [toP] at h
    cases hl : toPs l with
    | none => rw [hl] at h; cases h
    | some ps =>
      rw [hl] at h; cases h
      obtain ⟨p, vs, o, e, g, _, _, pr⟩ := rp_tpk.mp r
      subst e
      exact .tup (.inl (.inr ⟨o, gh _ _ g⟩)) (dps_of gh l hl pr)
  | .dic _, _, _, h, r => by rw [toP] at h; cases h
  | .dct _, _, _, h, r => by rw [toP] at h; cases h
  | .obj _ _, _, _, h, r => by rw [toP] at h; cases h
  | .rng _, _, _, h, _ => by rw [toP] at h; cases h
theorem dps_of {G H : Hp} (gh : Same G H) : ∀ (l : List D) {ps : List PyData} {vs : List V}, toPs l = some ps → PR G vs (reps Γ l) → DpAll K H vs ps
  | [], _, _, h, r => by rw [toPs] at h; cases h; rw [reps] at r; cases r; exact .nil
  | d :: ds, _, _, h, r => by
    rw [toPs] at h
    cases hd : toP d with
    | none => rw [hd] at h; cases h
    | some v =>
      cases hs : toPs ds with
      | none => rw [hd, hs] at h; cases h
      | some us =>
        rw [hd, hs] at h; cases h
        rw [reps] at r
        cases r with
        | cons a t => exact .cons (dp_of gh d hd a) (dps_of gh ds hs t)
end
def dtS : Sl → Option PyData
  | .val d => toP d
  | .red l => (toPs l).map .list
  | _ => none
theorem ra_dt {G H : Hp} {x : Sl} {p : PyData} {w : V} (h : dtS x = some p) (gh : Same G H) (r : RA K Γ G H x w) : Dp K H w p := by
  unfold dtS at h
  split at h
  · exact dp_of gh _ h r
  · rename_i l
    cases hl : toPs l with
    | none => rw [hl] at h; cases h
    | some ps =>
      rw [hl] at h; cases h
      obtain ⟨p, vs, e, g, pr⟩ := r
      subst e
      exact .lst (SqL.of g) (dps_of gh l hl pr)
  · cases h
def fEqD (neg : Bool) (x y : Sl) : Option R := match dtS x, dtS y with
  | some a, some b => if SeqAt.shaped a = true ∧ SeqAt.shaped b = true then some (vB (if neg then !PyData.eqv a b else PyData.eqv a b)) else none
  | _, _ => none
theorem s2_eqD : S2 K Γ (rEqD K) (fEqD false) := fun x y r e v w G H Q gh rx ry q => by
  unfold fEqD at e
  split at e
  · rename_i a b ha hb
    split at e
    · rename_i h
      cases e
      exact ⟨a, b, ra_dt ha gh rx, ra_dt hb gh ry, h.1, h.2, q _ G H (Ext.refl gh) (rp_bl.mpr rfl)⟩
    · cases e
  · cases e
theorem s2_neD : S2 K Γ (rNeD K) (fEqD true) := fun x y r e v w G H Q gh rx ry q => by
  unfold fEqD at e
  split at e
  · rename_i a b ha hb
    split at e
    · rename_i h
      cases e
      exact ⟨a, b, ra_dt ha gh rx, ra_dt hb gh ry, h.1, h.2, q _ G H (Ext.refl gh) (rp_bl.mpr rfl)⟩
    · cases e
  · cases e
def fEqF (neg : Bool) : Sl → Sl → Option R
  | .val (.int a), .val (.int b) => some (vB (if neg then !decide (a = b) else decide (a = b)))
  | .val (.str a), .val (.str b) => some (vB (if neg then !decide (a = b) else decide (a = b)))
  | .val (.bl a), .val (.bl b) => some (vB (if neg then !decide (a = b) else decide (a = b)))
  | _, _ => none
theorem s2_eqF : S2 K Γ rEq (fEqF false) := fun x y r e v w G H Q gh rx ry q => by
  unfold fEqF at e
  split at e
  · cases e; cases rp_int.mp rx; cases rp_int.mp ry
    exact ⟨rfl, q _ G H (Ext.refl gh) (rp_bl.mpr (by rw [Ab.dec_int]; rfl))⟩
  · cases e; cases rp_str.mp rx; cases rp_str.mp ry
    exact ⟨rfl, q _ G H (Ext.refl gh) (rp_bl.mpr (by simp))⟩
  · cases e; cases rp_bl.mp rx; cases rp_bl.mp ry
    exact ⟨rfl, q _ G H (Ext.refl gh) (rp_bl.mpr (by simp))⟩
  · cases e
theorem s2_neF : S2 K Γ rNe (fEqF true) := fun x y r e v w G H Q gh rx ry q => by
  unfold fEqF at e
  split at e
  · cases e; cases rp_int.mp rx; cases rp_int.mp ry
    exact ⟨rfl, q _ G H (Ext.refl gh) (rp_bl.mpr (by rw [Ab.dec_int]; rfl))⟩
  · cases e; cases rp_str.mp rx; cases rp_str.mp ry
    exact ⟨rfl, q _ G H (Ext.refl gh) (rp_bl.mpr (by simp))⟩
  · cases e; cases rp_bl.mp rx; cases rp_bl.mp ry
    exact ⟨rfl, q _ G H (Ext.refl gh) (rp_bl.mpr (by simp))⟩
  · cases e
abbrev fEq : Sl → Sl → Option R := fun x y => (fEqF false x y).or (fEqD false x y)
abbrev fNe : Sl → Sl → Option R := fun x y => (fEqF true x y).or (fEqD true x y)
theorem or_eq (hu : X.A.units + 64 < cLine) (hK : X.K = K := by rfl) : OpR X (compareOp .Eq) (fun x y H Q => rEq x y H Q ∨ rEqD K x y H Q) := by subst hK; exact opr_or op_eq (op_eqD hu)
theorem or_ne (hu : X.A.units + 64 < cLine) (hK : X.K = K := by rfl) : OpR X (compareOp .NotEq) (fun x y H Q => rNe x y H Q ∨ rNeD K x y H Q) := by subst hK; exact opr_or op_ne (op_neD hu)
theorem s2_eq : S2 K Γ (fun x y H Q => rEq x y H Q ∨ rEqD K x y H Q) fEq := s2_eqF.or s2_eqD
theorem s2_ne : S2 K Γ (fun x y H Q => rNe x y H Q ∨ rNeD K x y H Q) fNe := s2_neF.or s2_neD
def fIn (neg : Bool) (x y : Sl) : Option R := match x, (sqS y).or (tpS y) with
  | .val d, some l => match flat d, flats l with
    | some v, some vs => some (vB (if neg then !inV v vs else inV v vs))
    | _, _ => none
  | _, _ => none
theorem flat_flatV : ∀ {d : D} {v : V}, flat d = some v → flatV v = true
  | .non, _, h => by cases h; rfl
  | .bl b, _, h => by cases h; rfl
  | .int b, _, h => by cases h; rfl
  | .str b, _, h => by cases h; rfl
theorem s2_in (neg : Bool) : S2 K Γ (rIn K neg) (fIn neg) := fun x y r e v w G H Q gh rx ry q => by
  unfold fIn at e
  split at e
  · rename_i d l hl
    split at e
    · rename_i u us hd hs
      cases e
      have hv := (rp_flat hd).mp rx
      subst hv
      have fin : ∀ p vs, PR G vs (reps Γ l) → (SqL K H p vs ∨ SqT K H p vs) → w = .ref p → rIn K neg v w H Q := fun p vs pr hq ew => by
        have := pr_flats hs pr
        subst this
        exact ⟨p, vs, ew, hq, flat_flatV hd, flats_flat hs, q _ G H (Ext.refl gh) (rp_bl.mpr rfl)⟩
      cases h1 : sqS y with
      | some l' =>
        rw [h1] at hl; cases hl
        obtain ⟨p, vs, e, h, pr⟩ := ra_sq h1 gh ry
        exact fin p vs pr (.inl h) e
      | none =>
        rw [h1] at hl
        obtain ⟨p, vs, e, g, h, pr⟩ := ra_tp hl gh ry
        exact fin p vs pr (.inr h) e
    · cases e
  · cases e
@[simp] theorem flats_int (ns : List Int) : flats (ns.map D.int) = some (ns.map V.int) := by
  induction ns with
  | nil => rfl
  | cons n ns ih => simp [flats, flat, ih]
end
end Ev
set_option maxHeartbeats 1000000
namespace Ev
variable [Ab.Tabl]
open PySem PySem.Spec PyProof.Rows L2 Ab
variable {Γ : Tb}
section
variable {X : Cx} {K : PySem.W.Frag} {ew : WX}
theorem at_pr {G : Hp} {vs : List V} {l : List AbsV} {i : Int} {r : AbsV} (h : PR G vs l) (e : atI l i = some r) : ∃ v, atI vs i = some v ∧ r.rep G v := by
  unfold atI at e ⊢
  rw [h.len]
  cases hx : ixN l.length i with
  | none => rw [hx] at e; cases e
  | some j =>
    rw [hx] at e
    exact h.get e
theorem at_reps {l : List D} {i : Int} {d : D} (e : atI l i = some d) : atI (reps Γ l) i = some (rep Γ d) := by
  unfold atI at e ⊢
  rw [reps_len]
  cases hx : ixN l.length i with
  | none => rw [hx] at e; cases e
  | some j =>
    rw [hx] at e
    exact reps_get e
def lkD {κ : Type} [DecidableEq κ] (kvs : List (κ × D)) (k : κ) : Option D := (kvs.find? fun kv => decide (kv.1 = k)).map (·.2)
theorem lkD_rep {k : Key} : ∀ kvs : List (Key × D), lookA (repk Γ kvs) k = (lkD kvs k).map (rep Γ)
  | [] => by rw [repk]; rfl
  | (a, d) :: r => by
    rw [repk]
    unfold lookA lkD
    rw [List.find?_cons, List.find?_cons]
    by_cases z : a = k
    · subst z; simp
    · rw [decide_eq_false z]
      exact lkD_rep r
def keyS : Sl → Option Key
  | .val (.int i) => some (.inl i)
  | .val (.str s) => some (.inr s)
  | _ => none
theorem ra_key {G H : Hp} {x : Sl} {k : Key} {w : V} (h : keyS x = some k) (r : RA K Γ G H x w) : w = kV k := by
  unfold keyS at h
  split at h
  · cases h; exact rp_int.mp r
  · cases h; exact rp_str.mp r
  · cases h
theorem dget_of {G H : Hp} {p : Addr} {ws : List (Key × V)} {kvs : List (Key × D)} {k : Key} (h : Rd H p (.dK ws)) (pk : PK G ws (repk Γ kvs)) :
    match lkD kvs k with
    | some d => ∃ v, DGet H p (kV k) (some v) ∧ (rep Γ d).rep G v
    | none => DGet H p (kV k) none := by
  have hl := PK.look k pk
  rw [lkD_rep] at hl
  cases e : lkD kvs k with
  | none => rw [e] at hl; exact .inl ⟨ws, k, h, rfl, hl.symm⟩
  | some d =>
    rw [e] at hl
    obtain ⟨v, hv, rv⟩ := hl
    exact ⟨v, .inl ⟨ws, k, h, rfl, hv.symm⟩, rv⟩
def fIx (x y : Sl) : Option R := match y with
  | .val (.int i) => match x with
    | .val (.lst l) => (atI l i).map fun d => .s (.val d)
    | .red l => (atI l i).map fun d => .s (.val d)
    | .scr ns => (atI ns i).map fun n => vI n
    | .val (.tup l) => (atI l i).map fun d => .s (.val d)
    | .val (.tpk l) => (atI l i).map fun d => .s (.val d)
    | .val (.str z) => if z.length ≤ 100000 then (atI z.cps.toList i).map fun c => vS ⟨#[c]⟩ else none
    | .nst L => (atI L i).map fun l => .s (.red l)
    | _ => none
  | _ => none
theorem at_map {α β : Type} {f : α → β} {l : List α} {i : Int} {a : α} (e : atI l i = some a) : atI (l.map f) i = some (f a) := by
  unfold atI at e ⊢
  rw [List.length_map]
  cases hx : ixN l.length i with
  | none => rw [hx] at e; cases e
  | some j =>
    rw [hx] at e
    show (l.map f)[j]? = _
    have e' : l[j]? = some a := e
    rw [List.getElem?_map, e']; rfl
theorem at_P {α β : Type} {F : α → β → Prop} {as : List α} {bs : List β} {i : Int} {b : β} (h : Paired F as bs) (e : atI bs i = some b) : ∃ a, atI as i = some a ∧ F a b := by
  unfold atI at e ⊢
  rw [P_len h]
  cases hx : ixN bs.length i with
  | none => rw [hx] at e; cases e
  | some j =>
    rw [hx] at e
    have e' : bs[j]? = some b := e
    clear e hx
    induction h generalizing j with
    | nil => simp at e'
    | cons a t ih =>
      cases j with
      | zero => cases e'; exact ⟨_, rfl, a⟩
      | succ j => exact ih j e'
theorem s2_ix : S2 K Γ (rIx K) fIx := fun x y r e v w G H Q gh rx ry q => by
  unfold fIx at e
  split at e
  · rename_i i
    have hw := rp_int.mp ry
    subst hw
    split at e
    · rename_i l
      cases h : atI l i with
      | none => rw [h] at e; cases e
      | some d =>
        rw [h] at e; cases e
        obtain ⟨p, vs, e1, g, pr⟩ := rp_lst.mp rx
        obtain ⟨u, hu, ru⟩ := at_pr pr (at_reps h)
        exact .inl ⟨p, vs, i, u, e1, rfl, SqL.of (gh _ _ g), hu, q u G H (Ext.refl gh) ru⟩
    · rename_i l
      cases h : atI l i with
      | none => rw [h] at e; cases e
      | some d =>
        rw [h] at e; cases e
        obtain ⟨p, vs, e1, g, pr⟩ := rx
        obtain ⟨u, hu, ru⟩ := at_pr pr (at_reps h)
        exact .inl ⟨p, vs, i, u, e1, rfl, SqL.of g, hu, q u G H (Ext.refl gh) ru⟩
    · rename_i ns
      cases h : atI ns i with
      | none => rw [h] at e; cases e
      | some n =>
        rw [h] at e; cases e
        obtain ⟨p, e1, g⟩ := rx
        exact .inl ⟨p, _, i, .int n, e1, rfl, g, at_map h, q _ G H (Ext.refl gh) (rp_int.mpr rfl)⟩
    · rename_i l
      cases h : atI l i with
      | none => rw [h] at e; cases e
      | some d =>
        rw [h] at e; cases e
        obtain ⟨p, vs, e1, g, pr⟩ := rp_tup.mp rx
        obtain ⟨u, hu, ru⟩ := at_pr pr (at_reps h)
        exact .inr (.inl ⟨p, vs, i, u, e1, rfl, SqT.of (gh _ _ g), hu, q u G H (Ext.refl gh) ru⟩)
    · rename_i l
      cases h : atI l i with
      | none => rw [h] at e; cases e
      | some d =>
        rw [h] at e; cases e
        obtain ⟨p, vs, o, e1, g, _, _, pr⟩ := rp_tpk.mp rx
        obtain ⟨u, hu, ru⟩ := at_pr pr (at_reps h)
        exact .inr (.inl ⟨p, vs, i, u, e1, rfl, .inl (.inr ⟨o, gh _ _ g⟩), hu, q u G H (Ext.refl gh) ru⟩)
    · rename_i z
      split at e
      · rename_i hz
        cases h : atI z.cps.toList i with
        | none => rw [h] at e; cases e
        | some d =>
          rw [h] at e; cases e
          exact .inr (.inr ⟨z, i, d, rp_str.mp rx, rfl, small hz, h, q _ G H (Ext.refl gh) (rp_str.mpr rfl)⟩)
      · cases e
    · rename_i L
      cases h : atI L i with
      | none => rw [h] at e; cases e
      | some l =>
        rw [h] at e; cases e
        obtain ⟨p, qs, e1, g, pr⟩ := rx
        obtain ⟨u, hu, vs, hq, ru⟩ := at_P pr h
        exact .inl ⟨p, _, i, .ref u, e1, rfl, SqL.of g, at_map hu, q _ G H (Ext.refl gh) ⟨u, vs, rfl, hq, ru⟩⟩
    · cases e
  · cases e
def fDGet (x y : Sl) : Option R := match dcS x, keyS y with
  | some kvs, some k => (lkD kvs k).map fun d => .s (.val d)
  | _, _ => none
theorem s2_dget : S2 K Γ (fun x y H Q => ∃ a v, x = .ref a ∧ DGet H a y (some v) ∧ Q v H) fDGet := fun x y r e v w G H Q gh rx ry q => by
  unfold fDGet at e
  split at e
  · rename_i kvs k hd hk
    obtain ⟨p, ws, e1, h1, pk⟩ := ra_dc hd gh rx
    have hg := dget_of (k := k) h1 pk
    cases h : lkD kvs k with
    | none => rw [h] at e; cases e
    | some d =>
      rw [h] at e hg; cases e
      obtain ⟨u, g, ru⟩ := hg
      exact ⟨p, u, e1, by rw [ra_key hk ry]; exact g, q u G H (Ext.refl gh) ru⟩
  · cases e
abbrev fSub : Sl → Sl → Option R := fun x y => (fIx x y).or (fDGet x y)
theorem q_ix {a b : Expr} {ea eb : EvE} {pos : Pos} {j : Nat} (hr : Room j X.A) (ha : PE X a (T X.K Γ ew ea)) (hb : PE X b (T X.K Γ ew eb)) (hs : PlainIx b) : PE X (.Subscript a b pos) (T X.K Γ ew (evBin fSub ea eb)) := by
  have h1 := pe_ix (pos := pos) ix_seq ha hb hs
  have h2 := pe_dget (pos := pos) (units1 hr) ha hb hs
  refine ⟨fun pins s σ H Q I h => ?_⟩
  obtain ⟨B, G0, G, E, Es, hE, k, h⟩ := h
  by_cases hc : ∃ x y r, ea E = .ok x ∧ eb E = .ok y ∧ fIx x.arg y.arg = some r
  · obtain ⟨x, y, r, h3, h4, h5⟩ := hc
    refine h1.run pins s σ H Q I (bin_run (f := fIx) s2_ix ⟨B, G0, G, E, Es, hE, k, ?_⟩)
    unfold evBin at h ⊢
    rw [h3, h4] at h ⊢
    dsimp only [bind_ok, fSub] at h ⊢
    rw [h5] at h ⊢
    exact h
  · refine h2.run pins s σ H Q I (bin_run (f := fDGet) s2_dget ⟨B, G0, G, E, Es, hE, k, ?_⟩)
    unfold evBin at h ⊢
    cases h3 : ea E with
    | ok x =>
      cases h4 : eb E with
      | ok y =>
        rw [h3, h4] at h
        dsimp only [bind_ok, fSub] at h ⊢
        cases h5 : fIx x.arg y.arg with
        | some r => exact absurd ⟨x, y, r, h3, h4, h5⟩ hc
        | none => rw [h5] at h; exact h
      | ex c => rw [h3, h4] at h; exact h
      | no => rw [h3, h4] at h; exact h
    | ex c => rw [h3] at h; exact h
    | no => rw [h3] at h; exact h
abbrev EvO := En → Res (Option Int)
def TO' (K : PySem.W.Frag) (Γ : Tb) (ew : WX) (ev : EvO) : TO := fun σ H Q => ∃ (B G0 G : Hp) (E : En) (Es : List Slot), ER Γ E Es ∧ Ok K B G0 Es σ G H ∧
  match ev E with
  | .ok b => ∀ G' H', Ext G H G' H' → Q b H'
  | .ex c => ∀ G' H', Ext G H G' H' → ew (.ref (Γ.cls c)) none σ H'
  | .no => False
def evONo : EvO := fun _ => .ok none
def inS : Sl → Option Int
  | .val (.int i) => some i
  | _ => none
theorem ra_in {G H : Hp} {x : Sl} {i : Int} {v : V} (h : inS x = some i) (r : RA K Γ G H x v) : v = .int i := by
  unfold inS at h
  split at h
  · cases h; exact rp_int.mp r
  · cases h
def blR : R → Option Bool
  | .s (.val (.bl b)) => some b
  | _ => none
theorem rr_bl {H0 G H : Hp} {x : R} {b : Bool} {v : V} (h : blR x = some b) (r : RR K Γ H0 G H x v) : v = .bl b := by
  unfold blR at h
  split at h
  · cases h; exact rp_bl.mp r
  · cases h
def evO (ea : EvE) : EvO := fun E => (ea E).bind fun x => (lift (inS x.arg)).bind fun i => .ok (some i)
theorem po_imp {e : Option Expr} {t u : TO} (h : PO X e t) (hi : ∀ σ H Q, u σ H Q → t σ H Q) : PO X e u := ⟨fun pins s σ H Q I q => h.run pins s σ H Q I (hi σ H Q q)⟩
theorem q_ono : PO X none (TO' K Γ ew evONo) := po_imp po_none fun σ H Q ⟨B, G0, G, E, Es, hE, k, h⟩ => h G H (Ext.refl k.gh)
theorem q_o {e : Expr} {ea : EvE} (h : PE X e (T K Γ ew ea)) : PO X (some e) (TO' K Γ ew (evO ea)) := po_imp (po_some h) fun σ H Q ⟨B, G0, G, E, Es, hE, k, h⟩ => by
  unfold evO at h
  show T K Γ ew ea σ H _
  refine T.atA hE k (fun r e v G1 H1 x1 ra => ?_) (fun c e => ?_) (fun e => ?_) <;> rw [e] at h <;> dsimp only [bind_ok, bind_ex, bind_no] at h
  · cases hi : inS r.arg with
    | none => rw [hi] at h; exact h.elim
    | some i => rw [hi] at h; exact ⟨i, ra_in hi ra, h G1 H1 x1⟩
  · exact h
def cutD (xs : List D) (lo hi : Option Int) : List D := (xs.drop (HT.sIx xs.length 0 lo)).take (HT.sIx xs.length xs.length hi - HT.sIx xs.length 0 lo)
def fSl (x : Sl) (lo hi : Option Int) : Option R := match (sqS x) with
  | some l => some (.fr (cutD l lo hi))
  | none => match tp0 x with
    | some l => some (.s (.val (.tup (cutD l lo hi))))
    | none => match tpkS x with
      | some l => if (cutD l lo hi).length < l.length then some (.s (.val (.tup (cutD l lo hi)))) else none
      | none => none
def evSl (ea : EvE) (el eh : EvO) : EvE := fun E => (ea E).bind fun x => (el E).bind fun l => (eh E).bind fun h => lift (fSl x.arg l h)
theorem pr_cut {G : Hp} {vs : List V} {l : List D} (h : PR G vs (reps Γ l)) (lo hi : Option Int) : PR G (cutV vs lo hi) (reps Γ (cutD l lo hi)) := by
  unfold cutV cutD
  have hl := h.len
  rw [reps_len] at hl
  rw [hl]
  have := (h.drop (HT.sIx l.length 0 lo)).take (HT.sIx l.length l.length hi - HT.sIx l.length 0 lo)
  rw [reps_map] at this ⊢
  rw [← List.map_drop, ← List.map_take] at this
  exact this
theorem q_sl {a : Expr} {lo hi : Option Expr} {ea : EvE} {el eh : EvO} {p2 pos : Pos} (ha : PE X a (T X.K Γ ew ea)) (hl : PO X lo (TO' X.K Γ ew el)) (hh : PO X hi (TO' X.K Γ ew eh)) : PE X (.Subscript a (.Slice lo hi none p2) pos) (T X.K Γ ew (evSl ea el eh)) := by
  have h1 := pe_slice (p2 := p2) (pos := pos) (sl_list (X := X)) ha hl hh
  have h2 := pe_slice (p2 := p2) (pos := pos) (sl_tupA (X := X)) ha hl hh
  refine pe_imp (pe_either h1 h2) fun σ H Q ⟨B, G0, G, E, Es, hE, k, h⟩ => ?_
  have go : ∀ (P : V → Option Int → Option Int → Hp → VK → Prop), (∀ (x : R), ea E = .ok x → ∀ l u r, fSl x.arg l u = some r → ∀ v G H, Same G H → RA X.K Γ G H x.arg v → (∀ u G' H', Ext G H G' H' → RR X.K Γ H G' H' r u → Q u H') → P v l u H Q) → tSl P (T X.K Γ ew ea) (TO' X.K Γ ew el) (TO' X.K Γ ew eh) σ H Q := fun P hP => by
    unfold evSl at h
    show T X.K Γ ew ea σ H _
    refine T.atA hE k (fun r e v G1 H1 x1 ra => ?_) (fun c e => ?_) (fun e => ?_) <;> rw [e] at h <;> dsimp only [bind_ok, bind_ex, bind_no] at h
    · refine ⟨B, G0, G1, E, Es, hE, k.ext x1, ?_⟩
      cases e2 : el E with
      | ok l =>
        rw [e2] at h; dsimp only [bind_ok] at h
        refine fun G2 H2 x2 => ⟨B, G0, G2, E, Es, hE, (k.ext x1).ext x2, ?_⟩
        cases e3 : eh E with
        | ok u =>
          rw [e3] at h; dsimp only [bind_ok] at h
          refine fun G3 H3 x3 => ?_
          cases e4 : fSl r.arg l u with
          | none => rw [e4] at h; exact h.elim
          | some z =>
            rw [e4] at h
            exact hP r e l u z e4 v G3 H3 x3.gh (RA.ext x3 (RA.ext x2 ra)) fun w G4 H4 x4 rr => h w G4 H4 (((x1.trans x2).trans x3).trans x4) (rr.back ((x1.trans x2).trans x3))
        | ex c => rw [e3] at h; exact fun G3 H3 x3 => h G3 H3 ((x1.trans x2).trans x3)
        | no => rw [e3] at h; exact h.elim
      | ex c => rw [e2] at h; exact fun G2 H2 x2 => h G2 H2 (x1.trans x2)
      | no => rw [e2] at h; exact h.elim
    · exact h
  by_cases hc : ∃ x, ea E = .ok x ∧ sqS x.arg = none
  · obtain ⟨x0, hx0, hs⟩ := hc
    refine .inr (go _ fun x hx l u r e v G1 H1 gh rx q => ?_)
    rw [hx0] at hx; cases hx
    unfold fSl at e
    rw [hs] at e
    dsimp only at e
    split at e
    · rename_i ds ht
      cases e
      obtain ⟨p, vs, e1, g, hq, pr⟩ := ra_t0 ht gh rx
      refine ⟨p, vs, e1, hq, fun hw => ?_, fun _ z hz => q _ _ _ (Ext.new gh hz) (ra_newT gh hz (pr_cut pr l u))⟩
      refine q _ G1 H1 (Ext.refl gh) (rp_tup.mpr ⟨p, vs, rfl, g, ?_⟩)
      have hl := pr.len
      rw [reps_len] at hl
      have : cutD ds l u = ds := by
        unfold cutD
        rw [hl] at hw
        rw [hw.1, hw.2, List.drop_zero, Nat.sub_zero, List.take_length]
      rw [this]; exact pr
    · split at e
      · rename_i ds ht
        split at e
        · rename_i hlen
          cases e
          obtain ⟨p, vs, o, e1, g, _, _, pr⟩ := ra_tk ht rx
          refine ⟨p, vs, e1, .inl (.inr ⟨o, gh _ _ g⟩), fun hw => ?_, fun _ z hz => q _ _ _ (Ext.new gh hz) (ra_newT gh hz (pr_cut pr l u))⟩
          exfalso
          have hl := pr.len
          rw [reps_len] at hl
          have : cutD ds l u = ds := by
            unfold cutD
            rw [hl] at hw
            rw [hw.1, hw.2, List.drop_zero, Nat.sub_zero, List.take_length]
          rw [this] at hlen
          exact absurd hlen (Nat.lt_irrefl _)
        · cases e
      · cases e
  · refine .inl (go _ fun x hx l u r e v G1 H1 gh rx q => ?_)
    unfold fSl at e
    split at e
    · rename_i ds hs
      cases e
      obtain ⟨p, vs, e1, g, pr⟩ := ra_sq hs gh rx
      exact ⟨p, vs, e1, g, fun z hz => q _ G1 _ (Ext.newO gh hz) (RR.new gh hz (pr_cut pr l u))⟩
    · rename_i hs
      exact absurd ⟨x, hx, hs⟩ hc
def Sl.toD : Sl → Option D
  | .val d => some d
  | _ => none
def toDs : List Sl → Option (List D)
  | [] => some []
  | s :: r => match s.toD, toDs r with
    | some d, some ds => some (d :: ds)
    | _, _ => none
theorem ra_ds {G H : Hp} : ∀ {ss : List Sl} {ds : List D} {vs : List V}, toDs ss = some ds → Paired (RA K Γ G H) ss vs → PR G vs (reps Γ ds)
  | [], _, _, h, r => by cases h; cases r; rw [reps]; exact .nil
  | s :: ss, _, _, h, r => by
    unfold toDs at h
    cases hd : s.toD with
    | none => rw [hd] at h; cases h
    | some v =>
      cases hs : toDs ss with
      | none => rw [hd, hs] at h; cases h
      | some us =>
        rw [hd, hs] at h; cases h
        cases r with
        | cons a t =>
          rw [reps]
          refine .cons ?_ (ra_ds hs t)
          cases s <;> first | (cases hd; exact a) | cases hd
def fLst (xs : List Sl) : Option R := match toDs xs with
  | some ds => if ds.length ≤ 100000 then some (.fr ds) else none
  | none => none
def fTup (xs : List Sl) : Option R := match toDs xs with
  | some ds => if ds.length ≤ 100000 then some (.s (.val (.tup ds))) else none
  | none => none
theorem q_lst {es : List Expr} {eas : EvA} {pos : Pos} (h : PA X es (TA' K Γ ew eas)) : PE X (.List es pos) (T K Γ ew (evCB fLst eas)) :=
  pe_imp (pe_lst h) fun σ H Q hq => cb_run (P := fun xs H1 Q => xs.length ≤ sizeLine ∧ ∀ p, H1 p = none → Q (.ref p) (upd H1 p (.lst xs))) (fun xs r e vs G H Q gh rx q => by
    unfold fLst at e
    split at e
    · rename_i ds hd
      split at e
      · rename_i hl
        cases e
        have pr := ra_ds hd rx
        refine ⟨?_, fun p hp => q _ G _ (Ext.newO gh hp) (RR.new gh hp pr)⟩
        rw [pr.len, reps_len]; exact small hl
      · cases e
    · cases e) hq
theorem q_tup {es : List Expr} {eas : EvA} {pos : Pos} {x1} (h : PA X es (TA' K Γ ew eas)) : PE X (.Tuple es x1 pos) (T K Γ ew (evCB fTup eas)) :=
  pe_imp (pe_tup h) fun σ H Q hq => cb_run (P := fun xs H1 Q => xs.length ≤ sizeLine ∧ ∀ p, H1 p = none → Q (.ref p) (upd H1 p (.tup xs))) (fun xs r e vs G H Q gh rx q => by
    unfold fTup at e
    split at e
    · rename_i ds hd
      split at e
      · rename_i hl
        cases e
        have pr := ra_ds hd rx
        refine ⟨?_, fun p hp => q _ _ _ (Ext.new gh hp) (ra_newT gh hp pr)⟩
        rw [pr.len, reps_len]; exact small hl
      · cases e
    · cases e) hq
def trS (x : Sl) : Option Bool := match x with
  | .val .non => some false
  | .val (.bl b) => some b
  | .val (.int i) => some (i != 0)
  | .val (.str s) => if s.length ≤ 100000 then some ((s.length : Int) != 0) else none
  | .val (.lst l) => some (!l.isEmpty)
  | .red l => some (!l.isEmpty)
  | .scr l => some (!l.isEmpty)
  | .val (.tup l) => some (!l.isEmpty)
  | .val (.tpk l) => some (!l.isEmpty)
  | .dic l => some (!l.isEmpty)
  | .nst l => some (!l.isEmpty)
  | _ => none
theorem emp_len {α β : Type} {a : List α} {b : List β} (h : a.length = b.length) : a.isEmpty = b.isEmpty := by
  cases a <;> cases b <;> first | rfl | cases h
theorem pk_len {κ : Type} {G : Hp} {a : List (κ × V)} {b : List (κ × AbsV)} (h : PK G a b) : a.length = b.length := P_len h
theorem repk_len (l : List (Key × D)) : (repk Γ l).length = l.length := by rw [repk_map, List.length_map]
theorem ra_tr {G H : Hp} {x : Sl} {b : Bool} {v : V} (h : trS x = some b) (gh : Same G H) (r : RA K Γ G H x v) : TruV K v H b := by
  unfold trS at h
  split at h
  · cases h; cases rp_non.mp r; exact rfl
  · cases h; cases rp_bl.mp r; exact rfl
  · cases h; cases rp_int.mp r; exact rfl
  · split at h
    · rename_i hl; cases h; cases rp_str.mp r; exact ⟨small hl, rfl⟩
    · cases h
  · cases h
    obtain ⟨p, vs, e, g, pr⟩ := rp_lst.mp r
    subst e
    exact .inl ⟨vs, SqL.of (gh _ _ g), by rw [emp_len (pr.len.trans (reps_len _))]⟩
  · cases h
    obtain ⟨p, vs, e, g, pr⟩ := r
    subst e
    exact .inl ⟨vs, SqL.of g, by rw [emp_len (pr.len.trans (reps_len _))]⟩
  · cases h
    obtain ⟨p, e, g⟩ := r
    subst e
    exact .inl ⟨_, g, by rw [emp_len (List.length_map ..)]⟩
  · cases h
    obtain ⟨p, vs, e, g, pr⟩ := rp_tup.mp r
    subst e
    exact .inr (.inl ⟨vs, SqT.of (gh _ _ g), by rw [emp_len (pr.len.trans (reps_len _))]⟩)
  · cases h
    obtain ⟨p, vs, o, e, g, _, _, pr⟩ := rp_tpk.mp r
    subst e
    exact .inr (.inl ⟨vs, .inl (.inr ⟨o, gh _ _ g⟩), by rw [emp_len (pr.len.trans (reps_len _))]⟩)
  · cases h
    obtain ⟨p, vs, e, g, pr⟩ := r
    subst e
    exact .inr (.inr ⟨vs, g, by rw [emp_len ((pk_len pr).trans (repk_len _))]⟩)
  · cases h
    obtain ⟨p, qs, e, g, pr⟩ := r
    subst e
    exact .inl ⟨_, SqL.of g, by rw [emp_len ((List.length_map ..).trans (P_len pr))]⟩
  · cases h
def evTru (ea : EvE) : EvT := fun E => (ea E).bind fun x => lift (trS x.arg)
theorem tru_run {ea : EvE} {σ : L2.St} {H : Hp} {Q : Bool → Hp → Prop} (h : TT' K Γ ew (evTru ea) σ H Q) : T K Γ ew ea σ H fun x H' => ∃ k, TruV K x H' k ∧ Q k H' := by
  obtain ⟨B, G0, G, E, Es, hE, k, h⟩ := h
  unfold evTru at h
  refine T.atA hE k (fun r e v G1 H1 x1 ra => ?_) (fun c e => ?_) (fun e => ?_) <;> rw [e] at h <;> dsimp only [bind_ok, bind_ex, bind_no] at h
  · cases hf : trS r.arg with
    | none => rw [hf] at h; exact h.elim
    | some b => rw [hf] at h; exact ⟨b, ra_tr hf x1.gh ra, h G1 H1 x1⟩
  · exact h
theorem t_val {e : Expr} {ea : EvE} (h : PE X e (T X.K Γ ew ea)) (he : ∀ whole, isTrue e X.env whole = (do let v ← whole; standAt e.pos; holding [v] (truthy v)) := by intro _; rfl) : PT X e (TT' X.K Γ ew (evTru ea)) :=
  pt_imp (pt_truth h he) fun σ H Q hq => tru_run hq
def evTB (ea : EvE) : EvT := fun E => (ea E).bind fun x => lift (blR x)
theorem tb_run {ea : EvE} {σ : L2.St} {H : Hp} {Q : Bool → Hp → Prop} (h : TT' K Γ ew (evTB ea) σ H Q) : T K Γ ew ea σ H fun x H' => ∃ k, x = .bl k ∧ Q k H' := by
  obtain ⟨B, G0, G, E, Es, hE, k, h⟩ := h
  unfold evTB at h
  refine T.at hE k (fun r e v G1 H1 x1 ra => ?_) (fun c e => ?_) (fun e => ?_) <;> rw [e] at h <;> dsimp only [bind_ok, bind_ex, bind_no] at h
  · cases hi : blR r with
    | none => rw [hi] at h; exact h.elim
    | some b => rw [hi] at h; exact ⟨b, rr_bl hi ra, h G1 H1 x1⟩
  · exact h
theorem t_cmp {op : CmpOp} {P : R2} {f : Sl → Sl → Option R} {a b : Expr} {ea eb : EvE} {pos : Pos} (ho : OpR X (compareOp op) P) (hs : S2 K Γ P f) (ha : PE X a (T K Γ ew ea)) (hb : PE X b (T K Γ ew eb)) (hm : behindInMarks op b = false) : PT X (.Compare a [op] [b] pos) (TT' K Γ ew (evTB (evBin f ea eb))) :=
  pt_imp (pt_cmpR ho ha hb hm) fun σ H Q h => bin_run hs (tb_run h)
def evTAnd (a b : EvT) : EvT := fun E => (a E).bind fun x => if x = true then b E else .ok false
def evTOr (a b : EvT) : EvT := fun E => (a E).bind fun x => if x = true then .ok true else b E
def evTNot (a : EvT) : EvT := fun E => (a E).bind fun x => .ok (!x)
theorem TT'.at {ev : EvT} {B G0 G H : Hp} {E : En} {Es : List Slot} {σ : L2.St} {Q : Bool → Hp → Prop} (hE : ER Γ E Es) (k : Ok K B G0 Es σ G H) (ok : ∀ r, ev E = .ok r → ∀ G' H', Ext G H G' H' → Q r H')
    (hx : ∀ c, ev E = .ex c → ∀ G' H', Ext G H G' H' → ew (.ref (Γ.cls c)) none σ H') (hn : ev E ≠ .no) : TT' K Γ ew ev σ H Q := by
  refine ⟨B, G0, G, E, Es, hE, k, ?_⟩
  cases h : ev E with
  | ok r => exact ok r h
  | ex c => exact hx c h
  | no => exact absurd h hn
theorem TT'.shift {ev ev' : EvT} {B G0 G H G1 H1 : Hp} {E : En} {Es : List Slot} {σ : L2.St} {Q : Bool → Hp → Prop} (hE : ER Γ E Es) (k : Ok K B G0 Es σ G H) (x1 : Ext G H G1 H1) (h : match ev E with
  | .ok b => ∀ G' H', Ext G H G' H' → Q b H'
  | .ex c => ∀ G' H', Ext G H G' H' → ew (.ref (Γ.cls c)) none σ H'
  | .no => False) : TT' K Γ ew ev σ H1 Q := by
  refine ⟨B, G0, G1, E, Es, hE, k.ext x1, ?_⟩
  cases e : ev E with
  | ok b => rw [e] at h; exact fun G' H' x => h G' H' (x1.trans x)
  | ex c => rw [e] at h; exact fun G' H' x => h G' H' (x1.trans x)
  | no => rw [e] at h; exact h
theorem and_run {a b : EvT} {σ : L2.St} {H : Hp} {Q : Bool → Hp → Prop} (h : TT' K Γ ew (evTAnd a b) σ H Q) : tAnd (TT' K Γ ew a) (TT' K Γ ew b) σ H Q := by
  obtain ⟨B, G0, G, E, Es, hE, k, h⟩ := h
  unfold evTAnd at h
  show TT' K Γ ew a σ H _
  refine TT'.at hE k (fun r e G1 H1 x1 => ?_) (fun c e => ?_) (fun e => ?_) <;> rw [e] at h <;> dsimp only [bind_ok, bind_ex, bind_no] at h
  · cases r with
    | true => exact TT'.shift (ev' := b) hE k x1 h
    | false => exact h G1 H1 x1
  · exact h
theorem or_run {a b : EvT} {σ : L2.St} {H : Hp} {Q : Bool → Hp → Prop} (h : TT' K Γ ew (evTOr a b) σ H Q) : tOr (TT' K Γ ew a) (TT' K Γ ew b) σ H Q := by
  obtain ⟨B, G0, G, E, Es, hE, k, h⟩ := h
  unfold evTOr at h
  show TT' K Γ ew a σ H _
  refine TT'.at hE k (fun r e G1 H1 x1 => ?_) (fun c e => ?_) (fun e => ?_) <;> rw [e] at h <;> dsimp only [bind_ok, bind_ex, bind_no] at h
  · cases r with
    | false => exact TT'.shift (ev' := b) hE k x1 h
    | true => exact h G1 H1 x1
  · exact h
theorem not_run {a : EvT} {σ : L2.St} {H : Hp} {Q : Bool → Hp → Prop} (h : TT' K Γ ew (evTNot a) σ H Q) : tNot (TT' K Γ ew a) σ H Q := by
  obtain ⟨B, G0, G, E, Es, hE, k, h⟩ := h
  unfold evTNot at h
  show TT' K Γ ew a σ H _
  refine TT'.at hE k (fun r e G1 H1 x1 => ?_) (fun c e => ?_) (fun e => ?_) <;> rw [e] at h <;> dsimp only [bind_ok, bind_ex, bind_no] at h
  · exact h G1 H1 x1
  · exact h
theorem pw_imp {e : Expr} {t u : TT} (h : PW X e t) (hi : ∀ σ H Q, u σ H Q → t σ H Q) : PW X e u := ⟨fun wh pins s σ H Q I q => h.run wh pins s σ H Q I (hi σ H Q q)⟩
theorem w_and {a b : Expr} {rest : List Expr} {pos : Pos} {ea eb : EvT} (ha : PT X a (TT' K Γ ew ea)) (hb : PW X (.BoolOp .And (b :: rest) pos) (TT' K Γ ew eb)) : PW X (.BoolOp .And (a :: b :: rest) pos) (TT' K Γ ew (evTAnd ea eb)) := pw_imp (pw_and ha hb) fun _ _ _ => and_run
theorem w_or {a b : Expr} {rest : List Expr} {pos : Pos} {ea eb : EvT} (ha : PT X a (TT' K Γ ew ea)) (hb : PW X (.BoolOp .Or (b :: rest) pos) (TT' K Γ ew eb)) : PW X (.BoolOp .Or (a :: b :: rest) pos) (TT' K Γ ew (evTOr ea eb)) := pw_imp (pw_or ha hb) fun _ _ _ => or_run
theorem t_not {a : Expr} {pos : Pos} {ea : EvT} (ha : PT X a (TT' K Γ ew ea)) : PT X (.UnaryOp .Not a pos) (TT' K Γ ew (evTNot ea)) := pt_imp (pt_not ha) fun _ _ _ => not_run
def evAnd (a b : EvE) : EvE := fun E => (a E).bind fun x => (lift (trS x.arg)).bind fun t => if t = true then b E else .ok (.s x.arg)
def evOr (a b : EvE) : EvE := fun E => (a E).bind fun x => (lift (trS x.arg)).bind fun t => if t = true then .ok (.s x.arg) else b E
def evNot (a : EvE) : EvE := fun E => (a E).bind fun x => (lift (trS x.arg)).bind fun t => .ok (vB (!t))
theorem T.shift {ev : EvE} {B G0 G H G1 H1 : Hp} {E : En} {Es : List Slot} {σ : L2.St} {Q : VK} (hE : ER Γ E Es) (k : Ok K B G0 Es σ G H) (x1 : Ext G H G1 H1) (h : match ev E with
  | .ok r => ∀ v G' H', Ext G H G' H' → RR K Γ H G' H' r v → Q v H'
  | .ex c => ∀ G' H', Ext G H G' H' → ew (.ref (Γ.cls c)) none σ H'
  | .no => False) : T K Γ ew ev σ H1 Q := by
  refine ⟨B, G0, G1, E, Es, hE, k.ext x1, ?_⟩
  cases e : ev E with
  | ok b => rw [e] at h; exact fun v G' H' x rr => h v G' H' (x1.trans x) (rr.back x1)
  | ex c => rw [e] at h; exact fun G' H' x => h G' H' (x1.trans x)
  | no => rw [e] at h; exact h
theorem q_and {a b : Expr} {rest : List Expr} {pos : Pos} {ea eb : EvE} (ha : PE X a (T X.K Γ ew ea)) (hb : PE X (.BoolOp .And (b :: rest) pos) (T X.K Γ ew eb)) : PE X (.BoolOp .And (a :: b :: rest) pos) (T X.K Γ ew (evAnd ea eb)) :=
  pe_imp (pe_andT ha hb) fun σ H Q ⟨B, G0, G, E, Es, hE, k, h⟩ => by
    unfold evAnd at h
    show T X.K Γ ew ea σ H _
    refine T.atA hE k (fun r e v G1 H1 x1 ra => ?_) (fun c e => ?_) (fun e => ?_) <;> rw [e] at h <;> dsimp only [bind_ok, bind_ex, bind_no] at h
    · cases hf : trS r.arg with
      | none => rw [hf] at h; exact h.elim
      | some t =>
        rw [hf] at h
        refine ⟨t, ra_tr hf x1.gh ra, ?_⟩
        cases t with
        | true => exact T.shift hE k x1 h
        | false => exact h v G1 H1 x1 ra
    · exact h
theorem q_or {a b : Expr} {rest : List Expr} {pos : Pos} {ea eb : EvE} (ha : PE X a (T X.K Γ ew ea)) (hb : PE X (.BoolOp .Or (b :: rest) pos) (T X.K Γ ew eb)) : PE X (.BoolOp .Or (a :: b :: rest) pos) (T X.K Γ ew (evOr ea eb)) :=
  pe_imp (pe_orT ha hb) fun σ H Q ⟨B, G0, G, E, Es, hE, k, h⟩ => by
    unfold evOr at h
    show T X.K Γ ew ea σ H _
    refine T.atA hE k (fun r e v G1 H1 x1 ra => ?_) (fun c e => ?_) (fun e => ?_) <;> rw [e] at h <;> dsimp only [bind_ok, bind_ex, bind_no] at h
    · cases hf : trS r.arg with
      | none => rw [hf] at h; exact h.elim
      | some t =>
        rw [hf] at h
        refine ⟨t, ra_tr hf x1.gh ra, ?_⟩
        cases t with
        | false => exact T.shift hE k x1 h
        | true => exact h v G1 H1 x1 ra
    · exact h
theorem q_not {a : Expr} {pos : Pos} {ea : EvE} (ha : PE X a (T X.K Γ ew ea)) : PE X (.UnaryOp .Not a pos) (T X.K Γ ew (evNot ea)) :=
  pe_imp (pe_notT ha) fun σ H Q ⟨B, G0, G, E, Es, hE, k, h⟩ => by
    unfold evNot at h
    show T X.K Γ ew ea σ H _
    refine T.atA hE k (fun r e v G1 H1 x1 ra => ?_) (fun c e => ?_) (fun e => ?_) <;> rw [e] at h <;> dsimp only [bind_ok, bind_ex, bind_no] at h
    · cases hf : trS r.arg with
      | none => rw [hf] at h; exact h.elim
      | some t =>
        rw [hf] at h
        exact ⟨t, ra_tr hf x1.gh ra, h _ G1 H1 x1 (rp_bl.mpr rfl)⟩
    · exact h
def evIf (t : EvT) (a b : EvE) : EvE := fun E => (t E).bind fun c => if c = true then a E else b E
theorem q_if {c a b : Expr} {pos : Pos} {et : EvT} {ea eb : EvE} (hc : PT X c (TT' K Γ ew et)) (ha : PE X a (T K Γ ew ea)) (hb : PE X b (T K Γ ew eb)) : PE X (.IfExp c a b pos) (T K Γ ew (evIf et ea eb)) :=
  pe_imp (pe_ifExp hc ha hb) fun σ H Q ⟨B, G0, G, E, Es, hE, k, h⟩ => by
    unfold evIf at h
    show TT' K Γ ew et σ H _
    refine TT'.at hE k (fun r e G1 H1 x1 => ?_) (fun c e => ?_) (fun e => ?_) <;> rw [e] at h <;> dsimp only [bind_ok, bind_ex, bind_no] at h
    · cases r with
      | true => exact T.shift hE k x1 h
      | false => exact T.shift hE k x1 h
    · exact h
def evChain (f g : Sl → Sl → Option R) (ea eb ec : EvE) : EvE := fun E => (ea E).bind fun x => (eb E).bind fun y => (lift (f x.arg y.arg)).bind fun r => (lift (blR r)).bind fun b => if b = true then (ec E).bind fun z => lift (g y.arg z.arg) else .ok (vB false)
theorem chain_run {P P' : R2} {f g : Sl → Sl → Option R} {ea eb ec : EvE} (hs : S2 K Γ P f) (hs' : S2 K Γ P' g) {σ : L2.St} {H : Hp} {Q : VK} (h : T K Γ ew (evChain f g ea eb ec) σ H Q) : tChain P P' (T K Γ ew ea) (T K Γ ew eb) (T K Γ ew ec) σ H Q := by
  obtain ⟨B, G0, G, E, Es, hE, k, h⟩ := h
  unfold evChain at h
  show T K Γ ew ea σ H _
  refine T.atA hE k (fun r e v G1 H1 x1 ra => ?_) (fun c e => ?_) (fun e => ?_) <;> rw [e] at h <;> dsimp only [bind_ok, bind_ex, bind_no] at h
  · refine T.atA hE (k.ext x1) (fun r' e' w G2 H2 x2 rb => ?_) (fun c e' G2 H2 x2 => ?_) (fun e' => ?_) <;> rw [e'] at h <;> dsimp only [bind_ok, bind_ex, bind_no] at h
    · cases hf : f r.arg r'.arg with
      | none => rw [hf] at h; exact h.elim
      | some r0 =>
        rw [hf] at h
        dsimp only [lift_some, bind_ok] at h
        cases hb : blR r0 with
        | none => rw [hb] at h; exact h.elim
        | some b =>
          rw [hb] at h
          dsimp only [lift_some, bind_ok] at h
          refine hs _ _ _ hf v w G2 H2 _ x2.gh (RA.ext x2 ra) rb fun u G3 H3 x3 rr => ⟨b, rr_bl hb rr, ?_⟩
          cases b with
          | true =>
            rw [if_pos rfl] at h ⊢
            refine T.atA hE (((k.ext x1).ext x2).ext x3) (fun r'' e'' z G4 H4 x4 rc => ?_) (fun c e' G4 H4 x4 => ?_) (fun e' => ?_)
            · rw [e''] at h
              dsimp only [bind_ok] at h
              cases hg : g r'.arg r''.arg with
              | none => rw [hg] at h; exact h.elim
              | some r2 =>
                rw [hg] at h
                exact hs' _ _ _ hg w z G4 H4 Q x4.gh (RA.ext x4 (RA.ext x3 rb)) rc fun u G5 H5 x5 rr => h u G5 H5 ((((x1.trans x2).trans x3).trans x4).trans x5) (rr.back (((x1.trans x2).trans x3).trans x4))
            · rw [e'] at h; exact h G4 H4 (((x1.trans x2).trans x3).trans x4)
            · rw [e'] at h; exact h
          | false =>
            rw [if_neg (by decide)] at h ⊢
            exact h _ G3 H3 ((x1.trans x2).trans x3) (rp_bl.mpr rfl)
    · exact h G2 H2 (x1.trans x2)
  · exact h
end
end Ev
set_option maxHeartbeats 1000000
namespace Ev
variable [Ab.Tabl]
open PySem PySem.Spec PyProof.Rows L2 Ab
variable {Γ : Tb}
def TF (K : PySem.W.Frag) (Γ : Tb) (FT : List (Str × Str)) : Prop := ∀ c f, (c, f) ∈ FT → Cls K (Γ.cls c) ∧ NoAttr K (Γ.cls c) f
def fFld (FT : List (Str × Str)) (f : Str) : Sl → Option R
  | .val (.obj c fs) => if (c, f) ∈ FT then (lkD fs f).map fun d => .s (.val d) else none
  | _ => none
theorem lkF_rep {k : Str} : ∀ kvs : List (Str × D), lookA (repf Γ kvs) k = (lkD kvs k).map (rep Γ)
  | [] => by rw [repf]; rfl
  | (a, d) :: r => by
    rw [repf]
    unfold lookA lkD
    rw [List.find?_cons, List.find?_cons]
    by_cases z : a = k
    · subst z; simp
    · rw [decide_eq_false z]
      exact lkF_rep r
section
variable {X : Cx} {K : PySem.W.Frag} {ew : WX}
theorem s1_fld {FT : List (Str × Str)} {f : Str} (tf : TF K Γ FT) : S1 K Γ (fun x H1 Q => ∃ a C dx fs v, x = .ref a ∧ H1 a = some (.ins C dx fs) ∧ Cls K C ∧ NoAttr K C f ∧ fs.lookup f = some v ∧ Q v H1) (fFld FT f) := fun x r e v G H Q gh rx q => by
  unfold fFld at e
  split at e
  · rename_i c fs
    split at e
    · rename_i hm
      cases hl : lkD fs f with
      | none => rw [hl] at e; cases e
      | some d =>
        rw [hl] at e; cases e
        obtain ⟨p, dx, ws, e1, g, pk⟩ := rp_obj.mp rx
        have hk := PK.look f pk
        rw [lkF_rep, hl] at hk
        obtain ⟨u, hu, ru⟩ := hk
        exact ⟨p, _, dx, ws, u, e1, gh _ _ g, (tf c f hm).1, (tf c f hm).2, by rw [lookup_find]; exact hu, q u G H (Ext.refl gh) ru⟩
    · cases e
  · cases e
theorem q_fld {FT : List (Str × Str)} {f : Str} {e : Expr} {ea : EvE} {pos : Pos} (tf : TF X.K Γ FT) (he : PE X e (T X.K Γ ew ea)) (hb : attributeBase e f X.env (eval e X.env) = eval e X.env := by rfl) : PE X (.Attribute e f pos) (T X.K Γ ew (evUn (fFld FT f) ea)) :=
  pe_imp (pe_fld he hb) fun σ H Q h => un_run (s1_fld tf) h
def isN : Sl → Option Bool
  | .val .non => some true
  | .val _ => some false
  | .red _ => some false
  | .scr _ => some false
  | .dic _ => some false
  | _ => none
theorem ra_isN {G H : Hp} {x : Sl} {b : Bool} {v : V} (h : isN x = some b) (r : RA K Γ G H x v) : decide (v = .non) = b := by
  unfold isN at h
  split at h
  · cases h; rw [rp_non.mp r]; rfl
  · rename_i d hd
    cases h
    cases d with
    | non => exact absurd rfl hd
    | bl b => rw [rp_bl.mp r]; rfl
    | int b => rw [rp_int.mp r]; rfl
    | str b => rw [rp_str.mp r]; rfl
    | lst l => obtain ⟨p, vs, e, _⟩ := rp_lst.mp r; subst e; rfl
    | tup l => obtain ⟨p, vs, e, _⟩ := rp_tup.mp r; subst e; rfl
    | tpk l => obtain ⟨p, vs, o, e, _⟩ := rp_tpk.mp r; subst e; rfl
    | dic l => obtain ⟨p, vs, e, _⟩ := rp_dic.mp r; subst e; rfl
    | dct l => rw [RA, rep] at r; obtain ⟨p, vs, e, _⟩ := r; subst e; rfl
    | obj c fs => obtain ⟨p, dx, vs, e, _⟩ := rp_obj.mp r; subst e; rfl
    | rng n => rw [RA, rep] at r; obtain ⟨p, e, _⟩ := r; subst e; rfl
  · cases h; obtain ⟨p, vs, e, _⟩ := r; subst e; rfl
  · cases h; obtain ⟨p, e, _⟩ := r; subst e; rfl
  · cases h; obtain ⟨p, vs, e, _⟩ := r; subst e; rfl
  · cases h
def fIsN (neg : Bool) (x : Sl) : Option R := (isN x).map fun b => vB (if neg then !b else b)
theorem s1_isN : S1 K Γ (fun x H1 Q => Q (.bl (decide (x = .non))) H1) (fIsN false) := fun x r e v G H Q gh rx q => by
  unfold fIsN at e
  cases h : isN x with
  | none => rw [h] at e; cases e
  | some b => rw [h] at e; cases e; rw [ra_isN h rx]; exact q _ G H (Ext.refl gh) (rp_bl.mpr rfl)
theorem q_isN {a : Expr} {ea : EvE} {j pos' pos} (ha : PE X a (T X.K Γ ew ea)) : PE X (.Compare a [.Is] [.Constant .none j pos'] pos) (T X.K Γ ew (evUn (fIsN false) ea)) := pe_imp (pe_cmp (pc_isN ha)) fun σ H Q h => un_run s1_isN h
theorem t_isN {a : Expr} {ea : EvE} {j pos' pos} (ha : PE X a (T X.K Γ ew ea)) : PT X (.Compare a [.Is] [.Constant .none j pos'] pos) (TT' X.K Γ ew (evTB (evUn (fIsN false) ea))) := pt_imp (pt_cmp (pc_isN ha)) fun σ H Q h => un_run (P := fun x H1 Q => Q (.bl (decide (x = .non))) H1) s1_isN (tb_run h)
theorem callr_or {f : Value} {P P' : List V → Hp → VK → Prop} (h : CallR X f P) (h' : CallR X f P') : CallR X f (fun xs H Q => P xs H Q ∨ P' xs H Q) := fun pins s σ H xs us Q I r q => q.elim (h pins s σ H xs us Q I r) (h' pins s σ H xs us Q I r)
theorem SLs.or {P P' : List V → Hp → VK → Prop} {f f' : List Sl → Option R} (h : SLs K Γ P f) (h' : SLs K Γ P' f') : SLs K Γ (fun xs H Q => P xs H Q ∨ P' xs H Q) (fun x => (f x).or (f' x)) := fun xs r e vs G H Q gh rx q => by
  dsimp only at e
  cases e1 : f xs with
  | some r1 => rw [e1] at e; cases e; exact .inl (h xs _ e1 vs G H Q gh rx q)
  | none => rw [e1] at e; exact .inr (h' xs r e vs G H Q gh rx q)
theorem q_cb {id : String} {x : Str} {P : List V → Hp → VK → Prop} {f : List Sl → Option R} {e : Expr} {es : List Expr} {eas : EvA} {p pos : Pos} (hc : CallR X (.builtin id) P) (hs : SLs X.K Γ P f) (hg : Gl X x) (hm : X.mg x = none) (hv : bootBuiltins x = some (.builtin id)) (ha : PA X (e :: es) (TA' X.K Γ ew eas))
    (hn : x ≠ "__name__" := by decide) (hdb : (x == ("__debug__" : Str)) = false := by decide) (he : starEach (e :: es) X.env = (false, eval e X.env) :: starEach es X.env := by rfl) (hpl : (backTo pos (starEach es X.env)).any (·.1) = false := by rfl) : PE X (.Call (.Name x p) (e :: es) [] pos) (T X.K Γ ew (evCB f eas)) :=
  pe_imp (pe_callB hc hg hm hv ha hn hdb he hpl) fun σ H Q h => cb_run hs h
theorem q_cty {id : String} {x : Str} {P : List V → Hp → VK → Prop} {f : List Sl → Option R} {e : Expr} {es : List Expr} {eas : EvA} {p pos : Pos} (hc : CallR X (.type id) P) (hs : SLs X.K Γ P f) (hg : Gl X x) (hm : X.mg x = none) (hv : bootBuiltins x = some (.type id)) (ha : PA X (e :: es) (TA' X.K Γ ew eas))
    (hn : x ≠ "__name__" := by decide) (hdb : (x == ("__debug__" : Str)) = false := by decide) (he : starEach (e :: es) X.env = (false, eval e X.env) :: starEach es X.env := by rfl) (hpl : (backTo pos (starEach es X.env)).any (·.1) = false := by rfl) : PE X (.Call (.Name x p) (e :: es) [] pos) (T X.K Γ ew (evCB f eas)) :=
  pe_imp (pe_callTy hc hg hm hv ha hn hdb he hpl) fun σ H Q h => cb_run hs h
theorem one {G H : Hp} {x : Sl} {vs : List V} (h : Paired (RA K Γ G H) [x] vs) : ∃ v, vs = [v] ∧ RA K Γ G H x v := by
  cases h with
  | cons a t => cases t; exact ⟨_, rfl, a⟩
theorem two {G H : Hp} {x y : Sl} {vs : List V} (h : Paired (RA K Γ G H) [x, y] vs) : ∃ v w, vs = [v, w] ∧ RA K Γ G H x v ∧ RA K Γ G H y w := by
  cases h with
  | cons a t =>
    cases t with
    | cons b u => cases u; exact ⟨_, _, rfl, a, b⟩
def fLen : List Sl → Option R
  | [x] => match sqS x with
    | some l => some (vI l.length)
    | none => match tpS x with
      | some l => some (vI l.length)
      | none => match x with
        | .val (.str s) => if s.length ≤ 100000 then some (vI s.length) else none
        | .nst L => some (vI L.length)
        | _ => none
  | _ => none
theorem s_len : SLs K Γ (fun xs H Q => ∃ x n, xs = [x] ∧ LenV K x H n ∧ Q (.int n) H) fLen := fun xs r e vs G H Q gh rx q => by
  unfold fLen at e
  split at e
  · rename_i x
    obtain ⟨v, ev, r1⟩ := one rx; clear rx; have rx := r1; clear r1; subst ev
    split at e
    · rename_i l hs
      cases e
      obtain ⟨p, vs, e1, g, pr⟩ := ra_sq hs gh rx
      subst e1
      exact ⟨_, _, rfl, .inl ⟨vs, g, rfl⟩, q _ G H (Ext.refl gh) (rp_int.mpr (by rw [pr.len, reps_len]))⟩
    · split at e
      · rename_i l hs
        cases e
        obtain ⟨p, vs, e1, _, g, pr⟩ := ra_tp hs gh rx
        subst e1
        exact ⟨_, _, rfl, .inr ⟨vs, g, rfl⟩, q _ G H (Ext.refl gh) (rp_int.mpr (by rw [pr.len, reps_len]))⟩
      · split at e
        · split at e
          · rename_i hl
            cases e
            cases rp_str.mp rx
            exact ⟨_, _, rfl, ⟨small hl, rfl⟩, q _ G H (Ext.refl gh) (rp_int.mpr rfl)⟩
          · cases e
        · cases e
          obtain ⟨p, qs, e1, g, pr⟩ := rx
          subst e1
          exact ⟨_, _, rfl, .inl ⟨_, SqL.of g, rfl⟩, q _ G H (Ext.refl gh) (rp_int.mpr (by rw [List.length_map, P_len pr]))⟩
        · cases e
  · cases e
def fAbs : List Sl → Option R
  | [.val (.int i)] => some (vI (if i < 0 then -i else i))
  | _ => none
theorem s_abs : SLs K Γ (fun xs H Q => ∃ i, xs = [.int i] ∧ Q (.int (if i < 0 then -i else i)) H) fAbs := fun xs r e vs G H Q gh rx q => by
  unfold fAbs at e
  split at e
  · obtain ⟨v, ev, r1⟩ := one rx; clear rx; have rx := r1; clear r1; subst ev
    cases e; cases rp_int.mp rx
    exact ⟨_, rfl, q _ G H (Ext.refl gh) (rp_int.mpr rfl)⟩
  · cases e
def fMax2 : List Sl → Option R
  | [.val (.int i), .val (.int j)] => some (vI (if j > i then j else i))
  | _ => none
def fMin2 : List Sl → Option R
  | [.val (.int i), .val (.int j)] => some (vI (if j < i then j else i))
  | _ => none
theorem s_min2 : SLs K Γ (fun xs H Q => ∃ i j, xs = [.int i, .int j] ∧ Q (.int (if j < i then j else i)) H) fMin2 := fun xs r e vs G H Q gh rx q => by
  unfold fMin2 at e
  split at e
  · obtain ⟨v, w, ev, r1, ry⟩ := two rx; clear rx; have rx := r1; clear r1; subst ev
    cases e; cases rp_int.mp rx; cases rp_int.mp ry
    exact ⟨_, _, rfl, q _ G H (Ext.refl gh) (rp_int.mpr rfl)⟩
  · cases e
def mnI : List Int → Int
  | [] => 0
  | a :: l => l.foldl min a
theorem foldl_min (l : List Int) : ∀ a : Int, (l.foldl min a = a ∨ l.foldl min a ∈ l) ∧ l.foldl min a ≤ a ∧ ∀ x ∈ l, l.foldl min a ≤ x := by
  induction l with
  | nil => exact fun a => ⟨.inl rfl, Int.le_refl _, fun x h => (nomatch h)⟩
  | cons b l ih =>
    intro a
    obtain ⟨h1, h2, h3⟩ := ih (min a b)
    refine ⟨?_, ?_, fun x hx => ?_⟩
    · rcases h1 with h1 | h1
      · rw [List.foldl_cons, h1]
        by_cases z : b ≤ a
        · exact .inr (by rw [Int.min_eq_right z]; exact List.mem_cons_self)
        · exact .inl (by rw [Int.min_eq_left (by omega)])
      · exact .inr (List.mem_cons_of_mem _ h1)
    · rw [List.foldl_cons]; omega
    · rw [List.foldl_cons]
      rcases List.mem_cons.mp hx with z | z
      · subst z; omega
      · exact h3 x z
theorem mnI_mem {l : List Int} (h : l ≠ []) : mnI l ∈ l := by
  cases l with
  | nil => exact absurd rfl h
  | cons a l =>
    rcases (foldl_min l a).1 with z | z
    · show l.foldl min a ∈ _; rw [z]; exact List.mem_cons_self
    · exact List.mem_cons_of_mem _ z
theorem mnI_le {l : List Int} {x : Int} (h : x ∈ l) : mnI l ≤ x := by
  cases l with
  | nil => cases h
  | cons a l =>
    rcases List.mem_cons.mp h with z | z
    · subst z; exact (foldl_min l x).2.1
    · exact (foldl_min l a).2.2 x z
def isS : List Sl → Option (List Int)
  | [x] => (sqS x).bind toInts
  | _ => none
theorem ra_is {G H : Hp} {xs : List Sl} {ns : List Int} {vs : List V} (h : isS xs = some ns) (gh : Same G H) (r : Paired (RA K Γ G H) xs vs) : ∃ p, vs = [.ref p] ∧ SqL K H p (ns.map V.int) := by
  unfold isS at h
  split at h
  · rename_i x
    obtain ⟨v, ev, rx⟩ := one r; clear r; subst ev
    cases hs : sqS x with
    | none => rw [hs] at h; cases h
    | some l =>
      rw [hs] at h
      obtain ⟨p, us, e1, g, pr⟩ := ra_sq hs gh rx
      subst e1
      exact ⟨p, rfl, by rw [← pr_toInts h pr]; exact g⟩
  · cases h
def fMinL (xs : List Sl) : Option R := match isS xs with
  | some ns => if ns.isEmpty then none else some (vI (mnI ns))
  | none => none
theorem s_minL : SLs K Γ (rMin K) fMinL := fun xs r e vs G H Q gh rx q => by
  unfold fMinL at e
  split at e
  · rename_i ns h
    split at e
    · cases e
    · rename_i hne
      cases e
      obtain ⟨p, rfl, g⟩ := ra_is h gh rx
      have hn : ns ≠ [] := fun z => hne (by rw [z]; rfl)
      refine ⟨p, ns, rfl, g, List.length_pos_iff.mpr hn, fun m hm hl => q _ G H (Ext.refl gh) (rp_int.mpr ?_)⟩
      have h1 := hl _ (mnI_mem hn)
      have h2 := mnI_le hm
      rw [show m = mnI ns by omega]
  · cases e
def srtI (ns : List Int) : List Int := ns.mergeSort (fun a b => decide (a ≤ b))
def fSorted (xs : List Sl) : Option R := (isS xs).map fun ns => .fr ((srtI ns).map D.int)
def bsS : List Sl → Option (List Bool)
  | [x] => (sqS x).bind toBls
  | _ => none
theorem ra_bs {G H : Hp} {xs : List Sl} {ns : List Bool} {vs : List V} (h : bsS xs = some ns) (gh : Same G H) (r : Paired (RA K Γ G H) xs vs) : ∃ p, vs = [.ref p] ∧ SqL K H p (ns.map V.bl) := by
  unfold bsS at h
  split at h
  · rename_i x
    obtain ⟨v, ev, rx⟩ := one r; clear r; subst ev
    cases hs : sqS x with
    | none => rw [hs] at h; cases h
    | some l =>
      rw [hs] at h
      obtain ⟨p, us, e1, g, pr⟩ := ra_sq hs gh rx
      subst e1
      exact ⟨p, rfl, by rw [← pr_toBls h pr]; exact g⟩
  · cases h
def fAll (xs : List Sl) : Option R := (bsS xs).map fun ns => vB (ns.all id)
def fAny (xs : List Sl) : Option R := (bsS xs).map fun ns => vB (ns.any id)
theorem s_all : SLs K Γ (rAll K) fAll := fun xs r e vs G H Q gh rx q => by
  unfold fAll at e
  cases h : bsS xs with
  | none => rw [h] at e; cases e
  | some ns =>
    rw [h] at e; cases e
    obtain ⟨p, rfl, g⟩ := ra_bs h gh rx
    exact ⟨p, ns, rfl, g, q _ G H (Ext.refl gh) (rp_bl.mpr rfl)⟩
def fInt : List Sl → Option R
  | [.val (.int i)] => some (vI i)
  | [.val (.bl b)] => some (vI (if b then 1 else 0))
  | _ => none
theorem s_int : SLs K Γ (fun xs H Q => (∃ i, xs = [.int i] ∧ Q (.int i) H) ∨ ∃ k, xs = [.bl k] ∧ Q (.int (if k then 1 else 0)) H) fInt := fun xs r e vs G H Q gh rx q => by
  unfold fInt at e
  split at e
  · obtain ⟨v, ev, r1⟩ := one rx; clear rx; have rx := r1; clear r1; subst ev
    cases e; cases rp_int.mp rx
    exact .inl ⟨_, rfl, q _ G H (Ext.refl gh) (rp_int.mpr rfl)⟩
  · obtain ⟨v, ev, r1⟩ := one rx; clear rx; have rx := r1; clear r1; subst ev
    cases e; cases rp_bl.mp rx
    exact .inr ⟨_, rfl, q _ G H (Ext.refl gh) (rp_int.mpr rfl)⟩
  · cases e
def fStr : List Sl → Option R
  | [.val (.int i)] => if i.natAbs.log2 < 1920 then some (vS (toString i)) else none
  | _ => none
theorem s_str : SLs K Γ (fun xs H Q => ∃ i, xs = [.int i] ∧ i.natAbs.log2 < 1920 ∧ Q (.str (toString i)) H) fStr := fun xs r e vs G H Q gh rx q => by
  unfold fStr at e
  split at e
  · split at e
    · rename_i hl
      obtain ⟨v, ev, r1⟩ := one rx; clear rx; have rx := r1; clear r1; subst ev
      cases e; cases rp_int.mp rx
      exact ⟨_, rfl, hl, q _ G H (Ext.refl gh) (rp_str.mpr rfl)⟩
    · cases e
  · cases e
def fList : List Sl → Option R
  | [x] => (sqS x).or (tpS x) |>.map .fr
  | _ => none
theorem s_list : SLs K Γ (fun xs H Q => ∃ p ys, xs = [.ref p] ∧ (SqL K H p ys ∨ SqT K H p ys) ∧ ∀ l, H l = none → Q (.ref l) (upd H l (.lst ys))) fList := fun xs r e vs G H Q gh rx q => by
  unfold fList at e
  split at e
  · rename_i x
    obtain ⟨v, ev, r1⟩ := one rx; clear rx; have rx := r1; clear r1; subst ev
    cases hs : sqS x with
    | some l =>
      rw [hs] at e; cases e
      obtain ⟨p, us, e1, g, pr⟩ := ra_sq hs gh rx
      exact ⟨p, us, by rw [e1], .inl g, fun z hz => q _ G _ (Ext.newO gh hz) (RR.new gh hz pr)⟩
    | none =>
      rw [hs] at e
      cases ht : tpS x with
      | none => rw [ht] at e; cases e
      | some l =>
        rw [ht] at e; cases e
        obtain ⟨p, us, e1, _, g, pr⟩ := ra_tp ht gh rx
        exact ⟨p, us, by rw [e1], .inr g, fun z hz => q _ G _ (Ext.newO gh hz) (RR.new gh hz pr)⟩
  · cases e
def fTuple : List Sl → Option R
  | [x] => (sqS x).or (tp0 x) |>.map fun l => .s (.val (.tup l))
  | _ => none
section
variable {e e2 : Expr} {es : List Expr} {eas : EvA} {p pos : Pos}
theorem q_len (hg : Gl X "len") (hm : X.mg "len" = none) (ha : PA X (e :: es) (TA' X.K Γ ew eas)) (he : starEach (e :: es) X.env = (false, eval e X.env) :: starEach es X.env := by rfl) (hpl : (backTo pos (starEach es X.env)).any (·.1) = false := by rfl) : PE X (.Call (.Name "len" p) (e :: es) [] pos) (T X.K Γ ew (evCB fLen eas)) := q_cb call_len s_len hg hm bt_len ha (by decide) (by decide) he hpl
theorem q_abs (hg : Gl X "abs") (hm : X.mg "abs" = none) (ha : PA X (e :: es) (TA' X.K Γ ew eas)) (he : starEach (e :: es) X.env = (false, eval e X.env) :: starEach es X.env := by rfl) (hpl : (backTo pos (starEach es X.env)).any (·.1) = false := by rfl) : PE X (.Call (.Name "abs" p) (e :: es) [] pos) (T X.K Γ ew (evCB fAbs eas)) := q_cb call_abs s_abs hg hm bt_abs ha (by decide) (by decide) he hpl
theorem q_min (hc : X.calm = true) (hg : Gl X "min") (hm : X.mg "min" = none) (ha : PA X (e :: es) (TA' X.K Γ ew eas)) (he : starEach (e :: es) X.env = (false, eval e X.env) :: starEach es X.env := by rfl) (hpl : (backTo pos (starEach es X.env)).any (·.1) = false := by rfl) : PE X (.Call (.Name "min" p) (e :: es) [] pos) (T X.K Γ ew (evCB (fun x => (fMin2 x).or (fMinL x)) eas)) := q_cb (callr_or (call_min2 hc) (cr_min hc)) (s_min2.or s_minL) hg hm bt_min ha (by decide) (by decide) he hpl
theorem q_all (hc : X.calm = true) (hg : Gl X "all") (hm : X.mg "all" = none) (ha : PA X (e :: es) (TA' X.K Γ ew eas)) (he : starEach (e :: es) X.env = (false, eval e X.env) :: starEach es X.env := by rfl) (hpl : (backTo pos (starEach es X.env)).any (·.1) = false := by rfl) : PE X (.Call (.Name "all" p) (e :: es) [] pos) (T X.K Γ ew (evCB fAll eas)) := q_cb (cr_all hc) s_all hg hm bt_all ha (by decide) (by decide) he hpl
theorem q_int1 (hg : Gl X "int") (hm : X.mg "int" = none) (ha : PA X (e :: es) (TA' X.K Γ ew eas)) (he : starEach (e :: es) X.env = (false, eval e X.env) :: starEach es X.env := by rfl) (hpl : (backTo pos (starEach es X.env)).any (·.1) = false := by rfl) : PE X (.Call (.Name "int" p) (e :: es) [] pos) (T X.K Γ ew (evCB fInt eas)) := q_cty call_int1 s_int hg hm bt_int ha (by decide) (by decide) he hpl
theorem q_str1 (hg : Gl X "str") (hm : X.mg "str" = none) (ha : PA X (e :: es) (TA' X.K Γ ew eas)) (he : starEach (e :: es) X.env = (false, eval e X.env) :: starEach es X.env := by rfl) (hpl : (backTo pos (starEach es X.env)).any (·.1) = false := by rfl) : PE X (.Call (.Name "str" p) (e :: es) [] pos) (T X.K Γ ew (evCB fStr eas)) := q_cty call_str_int s_str hg hm bt_str ha (by decide) (by decide) he hpl
theorem q_list (hg : Gl X "list") (hm : X.mg "list" = none) (ha : PA X (e :: es) (TA' X.K Γ ew eas)) (he : starEach (e :: es) X.env = (false, eval e X.env) :: starEach es X.env := by rfl) (hpl : (backTo pos (starEach es X.env)).any (·.1) = false := by rfl) : PE X (.Call (.Name "list" p) (e :: es) [] pos) (T X.K Γ ew (evCB fList eas)) := q_cty call_list_of s_list hg hm bt_list ha (by decide) (by decide) he hpl
end
def fLenSet (x : Sl) : Option R := match (sqS x).bind toInts with
  | some ns => if ns.length ≤ 4000 then some (vI (dd ns : Nat)) else none
  | none => none
theorem s1_lenSet : S1 K Γ (fun x H1 Q => ∃ (l : Addr) (ns : List Int), x = .ref l ∧ SqL K H1 l (ns.map V.int) ∧ ns.length ≤ 4000 ∧ Q (.int (dd ns : Nat)) H1) fLenSet := fun x r e v G H Q gh rx q => by
  unfold fLenSet at e
  cases hs : sqS x with
  | none => rw [hs] at e; cases e
  | some l =>
    rw [hs] at e
    dsimp only [Option.bind_some] at e
    cases hi : toInts l with
    | none => rw [hi] at e; cases e
    | some ns =>
      rw [hi] at e
      dsimp only at e
      split at e
      · rename_i hl
        cases e
        obtain ⟨p, us, e1, g, pr⟩ := ra_sq hs gh rx
        exact ⟨p, ns, e1, by rw [← pr_toInts hi pr]; exact g, hl, q _ G H (Ext.refl gh) (rp_int.mpr rfl)⟩
      · cases e
theorem q_lenSet {a : Expr} {ea : EvE} {p p2 q pos : Pos} (hg : Gl X "len") (hm : X.mg "len" = none) (hg2 : Gl X "set") (hm2 : X.mg "set" = none) (ha : PE X a (T X.K Γ ew ea)) (hc : X.calm = true := by rfl)
    (na : starEach [a] X.env = (false, eval a X.env) :: starEach [] X.env := by rfl) : PE X (.Call (.Name "len" p) [.Call (.Name "set" p2) [a] [] q] [] pos) (T X.K Γ ew (evUn fLenSet ea)) :=
  pe_imp (pe_lenSetG hg hm hg2 hm2 ha hc na) fun σ H Q h => un_run s1_lenSet h
def rgOkB (a b : Int) : Bool := decide (-100000 ≤ a ∧ a ≤ 100000 ∧ -100000 ≤ b ∧ b ≤ 100000)
def rgI' (a b : Int) : List Int := (List.range (b - a).toNat).map fun i => a + ((i : Nat) : Int)
def tyN : D → Option String
  | .non => some "NoneType"
  | .bl _ => some "bool"
  | .int _ => some "int"
  | .str _ => some "str"
  | .lst _ => some "list"
  | .tup _ => some "tuple"
  | .tpk _ => some "tuple"
  | _ => none
def isT (a b : String) : Option Bool := if a ∈ ["NoneType", "bool", "int", "str", "list", "tuple"] ∧ b ∈ ["bool", "int", "str", "list", "tuple"] then some (a == b || (a == "bool" && b == "int")) else none
theorem isT_kit : ∀ a ∈ ["NoneType", "bool", "int", "str", "list", "tuple"], ∀ b ∈ ["bool", "int", "str", "list", "tuple"], kitB a b = some (a == b || (a == "bool" && b == "int")) := by decide +kernel
theorem rp_ty {G : Hp} {d : D} {n : String} {v : V} (h : tyN d = some n) (r : (rep Γ d).rep G v) : TyX K G v (.type n) := by
  cases d with
  | non => cases h; rw [rp_non.mp r]; exact .base .non
  | bl b => cases h; rw [rp_bl.mp r]; exact .base (.bl b)
  | int i => cases h; rw [rp_int.mp r]; exact .base (.int i)
  | str i => cases h; rw [rp_str.mp r]; exact .base (.str i)
  | lst l => cases h; obtain ⟨p, vs, e, g, _⟩ := rp_lst.mp r; subst e; exact .base (.lst g)
  | tup l => cases h; obtain ⟨p, vs, e, g, _⟩ := rp_tup.mp r; subst e; exact .base (.tup g)
  | tpk l => cases h; obtain ⟨p, vs, o, e, g, _⟩ := rp_tpk.mp r; subst e; exact .fTuple g
  | dic _ => cases h
  | dct _ => cases h
  | obj _ _ => cases h
  | rng _ => cases h
def tyS : Sl → Option String
  | .val d => tyN d
  | .red _ => some "list"
  | _ => none
theorem ra_ty {G H : Hp} {x : Sl} {n : String} {v : V} (gh : Same G H) (h : tyS x = some n) (r : RA K Γ G H x v) : TyX K H v (.type n) := by
  unfold tyS at h
  split at h
  · exact rp_ty h ((rep Γ _).mono gh r)
  · cases h; obtain ⟨p, vs, e, g, _⟩ := r; subst e; exact .base (.lst g)
  · cases h
def fIsi (b : String) (x : Sl) : Option R := match tyS x with
  | some a => (isT a b).map vB
  | none => none
theorem isi_kit {a b : String} {r : Bool} (h : isT a b = some r) : kitB a b = some r := by
  unfold isT at h
  split at h
  · rename_i hm
    cases h
    exact isT_kit a hm.1 b hm.2
  · cases h
theorem q_isi {a : Expr} {ea : EvE} {n : Str} {N : String} {p p2 pos : Pos} (hg : Gl X "isinstance") (hm : X.mg "isinstance" = none) (hg2 : Gl X n) (hm2 : X.mg n = none) (hv2 : bootBuiltins n = some (.type N)) (ha : PE X a (T X.K Γ ew ea)) (hn2 : n ≠ "__name__" := by decide) (hd2 : (n == ("__debug__" : Str)) = false := by decide)
    (he : starEach [a, .Name n p2] X.env = (false, eval a X.env) :: starEach [.Name n p2] X.env := by rfl) (hpl : (backTo pos (starEach [.Name n p2] X.env)).any (·.1) = false := by rfl) (hs : starEach [.Name n p2] X.env = (false, eval (.Name n p2) X.env) :: starEach [] X.env := by rfl) :
    PE X (.Call (.Name "isinstance" p) [a, .Name n p2] [] pos) (T X.K Γ ew (evUn (fIsi N) ea)) := by
  have h1 : PE X (.Name n p2) (tC (.ty N)) := pe_bltn (v := .ty N) hg2 hm2 hv2 rfl hn2 hd2
  have hP : CallR X (.builtin "isinstance") (rIsi X.K) := call_isi
  refine pe_imp (pe_callB hP hg hm bt_isinstance (pa_cons ha (pa_cons h1 pa_nil hs) he) (by decide) (by decide) he hpl) fun σ H Q h => ?_
  refine un_run (P := fun x H1 Q => rIsi X.K [x, .ty N] H1 Q) (fun x r e v G H Q gh rx q => ?_) h
  unfold fIsi at e
  cases ht : tyS x with
  | none => rw [ht] at e; cases e
  | some t =>
    rw [ht] at e
    dsimp only at e
    cases hb : isT t N with
    | none => rw [hb] at e; cases e
    | some b =>
      rw [hb] at e; cases e
      exact ⟨v, .ty N, .type t, .type N, b, rfl, .ty N, ra_ty gh ht rx, kit_ty (isi_kit hb), q _ G H (Ext.refl gh) (rp_bl.mpr rfl)⟩
end
end Ev
set_option maxHeartbeats 1000000
namespace Ev
variable [Ab.Tabl]
open PySem PySem.Spec PyProof.Rows L2 Ab
variable {Γ : Tb}
theorem ER.set {E : En} {Es : List Slot} {s : Sl} {t : Slot} (hE : ER Γ E Es) (i : Nat) (h : SlR Γ s t) : ER Γ (E.set i s) (Es.set i t) := P_set h i hE
def putD {κ : Type} [DecidableEq κ] (kvs : List (κ × D)) (k : κ) (d : D) : List (κ × D) := if (kvs.any fun kv => decide (kv.1 = k)) = true then kvs.map (fun kv => if kv.1 = k then (kv.1, d) else kv) else kvs ++ [(k, d)]
inductive Rs where
  | v (d : D)
  | own (l : List D)
inductive O where
  | nx (E : En)
  | bk (E : En)
  | ct (E : En)
  | rt (r : Rs)
  | ex (c : Str) (E : En)
  | no
abbrev EvS := En → O
def RsR (Γ : Tb) : Rs → Slot → Prop
  | .v d, s => s = .val (rep Γ d)
  | .own l, s => s = .own (reps Γ l)
def AO (Γ : Tb) (ew : WX) : O → AE
  | .nx E => { nx := ER Γ E, bk := fun _ => False, ct := fun _ => False, rt := fun _ => False, ew := ew }
  | .bk E => { nx := fun _ => False, bk := ER Γ E, ct := fun _ => False, rt := fun _ => False, ew := ew }
  | .ct E => { nx := fun _ => False, bk := fun _ => False, ct := ER Γ E, rt := fun _ => False, ew := ew }
  | .rt r => { nx := fun _ => False, bk := fun _ => False, ct := fun _ => False, rt := RsR Γ r, ew := ew }
  | .ex c E => { nx := fun _ => False, bk := fun _ => False, ct := fun _ => False, rt := fun _ => False, ex := fun E' C => ER Γ E E' ∧ C = Γ.cls c, ew := ew }
  | .no => { nx := fun _ => False, bk := fun _ => False, ct := fun _ => False, rt := fun _ => False, ew := ew }
def TS' (K : PySem.W.Frag) (Γ : Tb) (ew : WX) (ev : EvS) : TS := fun D σ H => ∃ (B G0 G : Hp) (E : En) (Es : List Slot), ER Γ E Es ∧ Ok K B G0 Es σ G H ∧ ev E ≠ .no ∧ Sat K B G0 (AO Γ ew (ev E)) D
section
variable {X : Cx} {K : PySem.W.Frag} {ew : WX}
theorem ps_imp {st : Stmt} {t u : TS} (h : PS X st t) (hi : ∀ D σ H, u D σ H → t D σ H) : PS X st u := ⟨fun pins s σ H D I q => h.run pins s σ H D I (hi D σ H q)⟩
theorem pss_imp {st : List Stmt} {t u : TS} (h : PSs X st t) (hi : ∀ D σ H, u D σ H → t D σ H) : PSs X st u := ⟨fun pins s σ H D I q => h.run pins s σ H D I (hi D σ H q)⟩
theorem ps_or {st : Stmt} {t u : TS} (h : PS X st t) (h' : PS X st u) : PS X st (fun D σ H => t D σ H ∨ u D σ H) := ⟨fun pins s σ H D I q => q.elim (h.run pins s σ H D I) (h'.run pins s σ H D I)⟩
theorem s_of {st : Stmt} {t : TS} {ev : EvS} (h : PS X st t) (hs : ∀ E Es, ER Γ E Es → ev E ≠ .no → ES K Es t (AO Γ ew (ev E))) : PS X st (TS' K Γ ew ev) :=
  ps_imp h fun D σ H ⟨B, G0, G, E, Es, hE, k, hn, S⟩ => hs E Es hE hn B G0 σ G H D k S
theorem ss_of {st : List Stmt} {t : TS} {ev : EvS} (h : PSs X st t) (hs : ∀ E Es, ER Γ E Es → ev E ≠ .no → ES K Es t (AO Γ ew (ev E))) : PSs X st (TS' K Γ ew ev) :=
  pss_imp h fun D σ H ⟨B, G0, G, E, Es, hE, k, hn, S⟩ => hs E Es hE hn B G0 σ G H D k S
theorem ts_es {ev : EvS} {E : En} {Es : List Slot} (hE : ER Γ E Es) (hn : ev E ≠ .no) : ES K Es (TS' K Γ ew ev) (AO Γ ew (ev E)) := fun B G0 σ G H D k S => ⟨B, G0, G, E, Es, hE, k, hn, S⟩
theorem T.ev {ea : EvE} {E : En} {Es : List Slot} {d : D} (e : ea E = .ok (.s (.val d))) (hE : ER Γ E Es) : EV K Es (T K Γ ew ea) (rep Γ d) := fun B G0 σ G H k Q q =>
  T.at hE k (fun r e' v G' H' x rr => by rw [e] at e'; cases e'; exact q v G' H' x rr) (fun c e' => by rw [e] at e'; cases e') (by rw [e]; exact fun z => nomatch z)
theorem T.evA {ea : EvE} {E : En} {Es : List Slot} {r : R} {d : D} (e : ea E = .ok r) (hr : r.arg = .val d) (hE : ER Γ E Es) : EV K Es (T K Γ ew ea) (rep Γ d) := fun B G0 σ G H k Q q =>
  T.atA hE k (fun r' e' v G' H' x rr => by rw [e] at e'; cases e'; rw [hr] at rr; exact q v G' H' x rr) (fun c e' => by rw [e] at e'; cases e') (by rw [e]; exact fun z => nomatch z)
theorem T.evf {ea : EvE} {E : En} {Es : List Slot} {l : List D} (e : ea E = .ok (.fr l)) (hE : ER Γ E Es) : EVF K Es (T K Γ ew ea) (reps Γ l) := fun B G0 σ G H k Q q =>
  T.at hE k (fun r e' v G' H' x rr => by
    rw [e] at e'; cases e'
    obtain ⟨p, vs, e1, h0, g, h, pr⟩ := rr
    subst e1
    exact q p vs G' H' x h0 g h pr) (fun c e' => by rw [e] at e'; cases e') (by rw [e]; exact fun z => nomatch z)
theorem T.evdf {ea : EvE} {E : En} {Es : List Slot} {l : List (Key × D)} (e : ea E = .ok (.frk l)) (hE : ER Γ E Es) : EVDF K Es (T K Γ ew ea) (repk Γ l) := fun B G0 σ G H k Q q =>
  T.at hE k (fun r e' v G' H' x rr => by
    rw [e] at e'; cases e'
    obtain ⟨p, vs, e1, h0, g, h, pr⟩ := rr
    subst e1
    exact q p vs G' H' x h0 g h pr) (fun c e' => by rw [e] at e'; cases e') (by rw [e]; exact fun z => nomatch z)
theorem T.evdft {ea : EvE} {E : En} {Es : List Slot} {l : List (List Key × D)} (e : ea E = .ok (.frt l)) (hE : ER Γ E Es) {B G0 : Hp} {σ : L2.St} {G H : Hp} (k : Ok K B G0 Es σ G H) (Q : VK) (q : ∀ p vs G' H', Ext G H G' H' → H p = none → G' p = none → H' p = some (.dT vs) → PK G' vs (rept Γ l) → Q (.ref p) H') : T K Γ ew ea σ H Q :=
  T.at hE k (fun r e' v G' H' x rr => by
    rw [e] at e'; cases e'
    obtain ⟨p, vs, e1, h0, g, h, pr⟩ := rr
    subst e1
    exact q p vs G' H' x h0 g h pr) (fun c e' => by rw [e] at e'; cases e') (by rw [e]; exact fun z => nomatch z)
theorem Sat.out {B G0 G H : Hp} {E : En} {Es : List Slot} {σ : L2.St} {c : Str} {Dn : Ends} (S : Sat K B G0 (AO Γ ew (.ex c E)) Dn) (hE : ER Γ E Es) (k : Ok K B G0 Es σ G H) : ∀ G' H', Ext G H G' H' → ew (.ref (Γ.cls c)) none σ H' :=
  fun G' H' x => S.ex Es σ G' H' _ ⟨hE, rfl⟩ (k.ext x)
theorem T.out {ea : EvE} {B G0 G H : Hp} {E : En} {Es : List Slot} {σ : L2.St} {c : Str} {Dn : Ends} {Q : VK} (e : ea E = .ex c) (S : Sat K B G0 (AO Γ ew (.ex c E)) Dn) (hE : ER Γ E Es) (k : Ok K B G0 Es σ G H) : T K Γ ew ea σ H Q :=
  T.at hE k (fun r e' => by rw [e] at e'; cases e') (fun c' e' => by rw [e] at e'; cases e'; exact Sat.out S hE k) (by rw [e]; exact fun z => nomatch z)
def evNext : EvS := fun E => .nx E
def evSeq (a b : EvS) : EvS := fun E => match a E with
  | .nx E1 => b E1
  | o => o
theorem s_nil : PSs X [] (TS' K Γ ew evNext) := ss_of pss_nil fun E Es hE _ => es_next hE
theorem s_one {st : Stmt} {ev : EvS} (h : PS X st (TS' K Γ ew ev)) : PSs X [st] (TS' K Γ ew ev) := pss_one h
theorem s_cons {st : Stmt} {sts : List Stmt} {a b : EvS} (h : PS X st (TS' K Γ ew a)) (hr : PSs X sts (TS' K Γ ew b)) : PSs X (st :: sts) (TS' K Γ ew (evSeq a b)) := ss_of (pss_cons h hr) fun E Es hE hn => by
  refine es_seq ?_
  unfold evSeq at hn ⊢
  cases e : a E with
  | nx E1 =>
    rw [e] at hn; dsimp only at hn ⊢
    have h1 := ts_es (K := K) (ew := ew) (ev := a) hE (by rw [e]; exact fun z => nomatch z)
    rw [e] at h1
    exact ES.imp h1 (fun E' hE' => ts_es hE' hn) (fun _ z => z.elim) (fun _ z => z.elim) (fun _ z => z.elim) (fun _ _ z => z.elim) (by cases b E1 <;> rfl)
  | bk E1 =>
    have h1 := ts_es (K := K) (ew := ew) (ev := a) hE (by rw [e]; exact fun z => nomatch z)
    rw [e] at h1
    exact ES.imp h1 (fun _ z => z.elim) (fun _ z => z) (fun _ z => z.elim) (fun _ z => z.elim) (fun _ _ z => z.elim)
  | ct E1 =>
    have h1 := ts_es (K := K) (ew := ew) (ev := a) hE (by rw [e]; exact fun z => nomatch z)
    rw [e] at h1
    exact ES.imp h1 (fun _ z => z.elim) (fun _ z => z.elim) (fun _ z => z) (fun _ z => z.elim) (fun _ _ z => z.elim)
  | rt r =>
    have h1 := ts_es (K := K) (ew := ew) (ev := a) hE (by rw [e]; exact fun z => nomatch z)
    rw [e] at h1
    exact ES.imp h1 (fun _ z => z.elim) (fun _ z => z.elim) (fun _ z => z.elim) (fun _ z => z) (fun _ _ z => z.elim)
  | ex c E1 =>
    have h1 := ts_es (K := K) (ew := ew) (ev := a) hE (by rw [e]; exact fun z => nomatch z)
    rw [e] at h1
    exact ES.imp h1 (fun _ z => z.elim) (fun _ z => z.elim) (fun _ z => z.elim) (fun _ z => z.elim) (fun _ _ z => z)
  | no => rw [e] at hn; exact absurd rfl hn
def Bw.fz : Bw → Sl
  | .dic l => .val (.dic l)
  | .lst l => .val (.lst l)
  | .dxn l => .thg .kno (.dxn l)
  | .set l => .thg .kno (.set l)
def frzE (i : Nat) (E : En) : En := match E[i]? with
  | some (.own l) => E.set i (.val (.lst l))
  | some (.dic kvs) => E.set i (.val (.dic kvs))
  | some (.dct kvs) => E.set i (.val (.dct kvs))
  | some (.nst L) => E.set i (.val (.lst (L.map D.lst)))
  | some (.ins c fs) => E.set i (.slf c fs)
  | some (.thg .own c) => E.set i c.fz
  | _ => E
def evFrz (i : Nat) (a : EvS) : EvS := fun E => a (frzE i E)
theorem reps_nst (L : List (List D)) : (L.map (reps Γ)).map lsA = reps Γ (L.map D.lst) := by
  rw [reps_map, List.map_map, List.map_map]
  refine List.map_congr_left fun l _ => ?_
  show lsA (reps Γ l) = rep Γ (.lst l)
  rw [rep]
theorem es_freezeDF {i : Nat} {kvs : List (Key × AbsV)} {ts : TS} {A : AE} {Es : List Slot} (h : Es[i]? = some (.dic kvs)) (q : ES K (Es.set i (.val (dcF kvs))) ts A) : ES K Es ts A := fun B G0 σ G H D k S => by
  obtain ⟨o, e, p, vs, e2, b, g, hh, pr⟩ := P_get k.sl h
  subst e2
  have sg : Same G (upd G p (.dK vs)) := fun b u e => by rw [upd_ne (ne_of_none e g)]; exact e
  exact q B G0 σ _ H D (k.freezeM h rfl e hh ⟨p, vs, rfl, .inl upd_same, pr.mono sg⟩) S
theorem es_freezeTF {i : Nat} {kvs : List (List Key × AbsV)} {ts : TS} {A : AE} {Es : List Slot} (h : Es[i]? = some (.dct kvs)) (q : ES K (Es.set i (.val (dtA kvs))) ts A) : ES K Es ts A := fun B G0 σ G H D k S => by
  obtain ⟨o, e, p, vs, e2, b, g, hh, pr⟩ := P_get k.sl h
  subst e2
  have sg : Same G (upd G p (.dT vs)) := fun b u e => by rw [upd_ne (ne_of_none e g)]; exact e
  exact q B G0 σ _ H D (k.freezeM h rfl e hh ⟨p, vs, rfl, .inl upd_same, pr.mono sg⟩) S
theorem es_freezeG {i : Nat} {c : Bw} {ts : TS} {A : AE} {Es : List Slot} (h : Es[i]? = some (.thg none (c.tr Γ))) (q : ES K (Es.set i (.val (c.av Γ))) ts A) : ES K Es ts A := fun B G0 σ G H D k S => by
  obtain ⟨o, e, p, u, e2, b, g, hh, pr, _⟩ := P_get k.sl h
  subst e2
  have sg : Same G (upd G p u) := fun b u' e => by rw [upd_ne (ne_of_none e g)]; exact e
  refine q B G0 σ _ H D (k.freezeM h rfl e hh ?_) S
  have pr' := (c.tr Γ).mono sg pr
  cases c with
  | dic kvs => obtain ⟨ws, eu, pk⟩ := pr'; subst eu; exact ⟨p, ws, rfl, .inl upd_same, pk⟩
  | lst l => obtain ⟨ws, eu, pk⟩ := pr'; subst eu; exact ⟨p, ws, rfl, upd_same, pk⟩
  | dxn kvs => exact ⟨p, u, rfl, upd_same, pr'⟩
  | set kvs => exact ⟨p, u, rfl, upd_same, pr'⟩
theorem frz_es {i : Nat} {ts : TS} {A : AE} {E : En} {Es : List Slot} (hE : ER Γ E Es) (h : ∀ Es', ER Γ (frzE i E) Es' → ES K Es' ts A) : ES K Es ts A := by
  unfold frzE at h
  split at h
  · rename_i l e
    obtain ⟨s, e1, rs⟩ := P_get hE e
    cases rs
    refine es_freeze e1 (h _ ?_)
    refine P_set ?_ i hE
    show Slot.val _ = Slot.val _
    rw [rep]
  · rename_i l e
    obtain ⟨s, e1, rs⟩ := P_get hE e
    cases rs
    refine es_freezeDF e1 (h _ ?_)
    refine P_set ?_ i hE
    show Slot.val _ = Slot.val _
    rw [rep]
  · rename_i l e
    obtain ⟨s, e1, rs⟩ := P_get hE e
    cases rs
    refine es_freezeTF e1 (h _ ?_)
    refine P_set ?_ i hE
    show Slot.val _ = Slot.val _
    rw [rep]
  · rename_i L e
    obtain ⟨s, e1, p, qs, rfl⟩ := P_get hE e
    refine es_freezeN e1 (h _ ?_)
    refine P_set ?_ i hE
    show Slot.val _ = Slot.val _
    rw [rep, reps_nst]
  · rename_i c fs e
    obtain ⟨s, e1, rs⟩ := P_get hE e
    cases rs
    exact es_freezeI e1 (h _ (ER.set hE i rfl))
  · rename_i c e
    obtain ⟨s, e1, rs⟩ := P_get hE e
    cases rs
    exact es_freezeG e1 (h _ (ER.set hE i (by cases c <;> first | rfl | (show Slot.val _ = Slot.val _; rw [rep]; rfl))))
  · exact h _ hE
theorem s_frz {sts : List Stmt} {i : Nat} {a : EvS} (h : PSs X sts (TS' K Γ ew a)) : PSs X sts (TS' K Γ ew (evFrz i a)) := ss_of h fun E Es hE hn => frz_es (i := i) hE fun Es' hE' => ts_es (ev := a) hE' hn
theorem s_frz1 {st : Stmt} {i : Nat} {a : EvS} (h : PS X st (TS' K Γ ew a)) : PS X st (TS' K Γ ew (evFrz i a)) := s_of h fun E Es hE hn => frz_es (i := i) hE fun Es' hE' => ts_es (ev := a) hE' hn
def wp : List Nat → En → En
  | [], E => E
  | i :: r, E => (wp r E).set i .un
theorem set_un {B G0 G H : Hp} {Es : List Slot} {σ : L2.St} (k : Ok K B G0 Es σ G H) (i : Nat) : Ok K B G0 (Es.set i .un) σ G H := by
  by_cases hi : i < σ.length
  · have h := k.set i (s := .un) (o := σ[i]) trivial rfl
    rw [List.set_getElem_self] at h
    exact h
  · rw [List.set_eq_of_length_le (by rw [P_len k.sl]; omega)]
    exact k
theorem ok_wp {B G0 G H : Hp} {σ : L2.St} : ∀ (ws : List Nat) {E : En} {Es : List Slot}, ER Γ E Es → Ok K B G0 Es σ G H → ∃ Es', ER Γ (wp ws E) Es' ∧ Ok K B G0 Es' σ G H
  | [], E, Es, h, k => ⟨Es, h, k⟩
  | i :: r, E, Es, h, k => by
    obtain ⟨Es', h', k'⟩ := ok_wp r h k
    exact ⟨Es'.set i .un, ER.set h' i rfl, set_un k' i⟩
abbrev EvG := D → En → Option En
abbrev EvGs := List D → En → Option En
theorem wipe_get {σ : L2.St} : ∀ (ws : List Nat) (j : Nat), (wipe σ ws)[j]? = if j ∈ ws then (σ[j]?).map (fun _ => none) else σ[j]?
  | [], j => by simp [wipe]
  | w :: ws, j => by
    unfold wipe
    by_cases h : w = j
    · subst h
      rw [List.getElem?_set]
      simp only [if_true, wipe_length, List.mem_cons, true_or]
      by_cases hl : w < σ.length
      · rw [if_pos hl, List.getElem?_eq_getElem hl]; rfl
      · rw [if_neg hl, List.getElem?_eq_none (by omega)]; rfl
    · rw [List.getElem?_set_ne h, wipe_get ws j]
      simp [List.mem_cons, show ¬ j = w from fun z => h z.symm]
theorem wipe_ext {σ τ : L2.St} {ws : List Nat} (hl : σ.length = τ.length) (h : ∀ j, j ∉ ws → σ[j]? = τ[j]?) : wipe σ ws = wipe τ ws := by
  refine List.ext_getElem? fun j => ?_
  rw [wipe_get, wipe_get]
  by_cases hj : j ∈ ws
  · rw [if_pos hj, if_pos hj]
    by_cases hl' : j < σ.length
    · rw [List.getElem?_eq_getElem hl', List.getElem?_eq_getElem (by omega)]; rfl
    · rw [List.getElem?_eq_none (by omega), List.getElem?_eq_none (by omega)]
  · rw [if_neg hj, if_neg hj, h j hj]
theorem wipe_same {σ τ : L2.St} {ws : List Nat} (h : wipe σ ws = wipe τ ws) : σ.length = τ.length ∧ ∀ j, j ∉ ws → σ[j]? = τ[j]? := by
  constructor
  · have := congrArg List.length h
    rwa [wipe_length, wipe_length] at this
  · intro j hj
    have := congrArg (fun l : L2.St => l[j]?) h
    simp only [wipe_get] at this
    rwa [if_neg hj, if_neg hj] at this
theorem wipe_sub {σ τ : L2.St} {us ws : List Nat} (h : wipe σ us = wipe τ us) (hs : ∀ j ∈ us, j ∈ ws) : wipe σ ws = wipe τ ws := by
  obtain ⟨h1, h2⟩ := wipe_same h
  exact wipe_ext h1 fun j hj => h2 j fun z => hj (hs j z)
theorem wipe_wipe {σ : L2.St} {ws : List Nat} : wipe (wipe σ ws) ws = wipe σ ws := wipe_ext (wipe_length _ _) fun j hj => by rw [wipe_get, if_neg hj]
def KeepM (Es : List Slot) (σ : L2.St) (Es1 : List Slot) (σ1 : L2.St) : Prop := ∀ (j : Nat) (s : Slot), Es1[j]? = some s → s.mut = true → Es[j]? = some s ∧ σ1[j]? = σ[j]?
theorem KeepM.refl {Es : List Slot} {σ : L2.St} : KeepM Es σ Es σ := fun _ _ h _ => ⟨h, rfl⟩
theorem KeepM.trans {Es E1 E2 : List Slot} {σ σ1 σ2 : L2.St} (a : KeepM Es σ E1 σ1) (b : KeepM E1 σ1 E2 σ2) : KeepM Es σ E2 σ2 := fun j s h m => by
  obtain ⟨h1, e1⟩ := b j s h m
  obtain ⟨h2, e2⟩ := a j s h1 m
  exact ⟨h2, e1.trans e2⟩
theorem KeepM.set {Es : List Slot} {σ : L2.St} {i : Nat} {r : AbsV} {o : Option V} : KeepM Es σ (Es.set i (.val r)) (σ.set i o) := fun j s h m => by
  by_cases z : i = j
  · subst z
    by_cases hl : i < Es.length
    · rw [List.getElem?_set_self hl] at h; cases h; cases m
    · rw [List.getElem?_eq_none (by rw [List.length_set]; omega)] at h; cases h
  · rw [List.getElem?_set_ne z] at h ⊢
    exact ⟨h, rfl⟩
def TG' (K : PySem.W.Frag) (Γ : Tb) (vs : List Nat) (gv : EvG) : TG := fun v σ H Q => ∃ (B G0 G : Hp) (E : En) (Es : List Slot) (d : D) (E1 : En), gv d E = some E1 ∧ ER Γ E Es ∧ Ok K B G0 Es σ G H ∧ (rep Γ d).rep G v ∧ ∀ σ' Es1, ER Γ E1 Es1 → Ok K B G0 Es1 σ' G H → wipe σ' vs = wipe σ vs → KeepM Es σ Es1 σ' → Q σ' H
def TGs' (K : PySem.W.Frag) (Γ : Tb) (vs : List Nat) (gv : EvGs) : TGs := fun us σ H Q => ∃ (B G0 G : Hp) (E : En) (Es : List Slot) (ds : List D) (E1 : En), gv ds E = some E1 ∧ ER Γ E Es ∧ Ok K B G0 Es σ G H ∧ PR G us (reps Γ ds) ∧ ∀ σ' Es1, ER Γ E1 Es1 → Ok K B G0 Es1 σ' G H → wipe σ' vs = wipe σ vs → KeepM Es σ Es1 σ' → Q σ' H
def gvName (i : Nat) : EvG := fun d E => some (E.set i (.val d))
def gvNil : EvGs := fun ds E => match ds with
  | [] => some E
  | _ => none
def gvCons (g : EvG) (gs : EvGs) : EvGs := fun ds E => match ds with
  | d :: r => (g d E).bind fun E1 => gs r E1
  | [] => none
def gvTup (gs : EvGs) : EvG := fun d E => match d with
  | .tup l => gs l E
  | _ => none
theorem pg_imp {e : Expr} {t u : TG} (h : PG X e t) (hi : ∀ v σ H Q, u v σ H Q → t v σ H Q) : PG X e u := ⟨fun pins s σ H v w Q I r q => h.run pins s σ H v w Q I r (hi v σ H Q q)⟩
theorem pgs_imp {e : List Expr} {t u : TGs} (h : PGs X e t) (hi : ∀ v σ H Q, u v σ H Q → t v σ H Q) : PGs X e u := ⟨fun pins s σ H v w Q I r q => h.run pins s σ H v w Q I r (hi v σ H Q q)⟩
theorem g_name {e : Expr} {i : Nat} (h : PG X e (gName i)) : PG X e (TG' K Γ [i] (gvName i)) := pg_imp h fun v σ H Q ⟨B, G0, G, E, Es, d, E1, e, hE, k, rv, q⟩ => by
  cases e
  refine q _ (Es.set i (.val (rep Γ d))) (ER.set hE i rfl) (k.set i ⟨v, rfl, rv⟩ rfl) (wipe_ext (by rw [List.length_set]) fun j hj => ?_) KeepM.set
  rw [List.getElem?_set_ne (fun z => hj (by rw [z]; exact List.mem_cons_self))]
theorem g_nil : PGs X [] (TGs' K Γ [] gvNil) := pgs_imp pgs_nil fun us σ H Q ⟨B, G0, G, E, Es, ds, E1, e, hE, k, pr, q⟩ => by
  unfold gvNil at e
  split at e
  · cases e
    rw [reps] at pr
    cases pr
    exact ⟨rfl, q σ Es hE k rfl KeepM.refl⟩
  · cases e
theorem g_cons {e : Expr} {es : List Expr} {vs ws : List Nat} {g : EvG} {gs : EvGs} (h1 : PG X e (TG' K Γ vs g)) (h2 : PGs X es (TGs' K Γ ws gs)) (hs : (assignEach (e :: es) X.env).map (·.2) = assign e X.env :: (assignEach es X.env).map (·.2) := by rfl) : PGs X (e :: es) (TGs' K Γ (vs ++ ws) (gvCons g gs)) := pgs_imp (pgs_cons h1 h2 hs) fun us σ H Q ⟨B, G0, G, E, Es, ds, E1, e, hE, k, pr, q⟩ => by
  unfold gvCons at e
  split at e
  · rename_i d r
    cases e2 : g d E with
    | none => rw [e2] at e; cases e
    | some E2 =>
      rw [e2] at e
      rw [reps] at pr
      cases pr with
      | cons a t =>
        refine ⟨_, _, rfl, B, G0, G, E, Es, d, E2, e2, hE, k, a, fun σ' Es' hE' k' hw m => ⟨B, G0, G, E2, Es', r, E1, e, hE', k', t, fun σ'' Es'' hE'' k'' hw' m' => q σ'' Es'' hE'' k'' ?_ (m.trans m')⟩⟩
        exact (wipe_sub hw' fun j hj => List.mem_append_right _ hj).trans (wipe_sub hw fun j hj => List.mem_append_left _ hj)
  · cases e
theorem g_tup {es : List Expr} {k0 : Nat} {vs : List Nat} {gs : EvGs} {n : Nat} {pos : Pos} (hc : X.calm = true) (hl : ∀ ds E E1, gs ds E = some E1 → ds.length = n) (h : PGs X es (TGs' X.K Γ vs gs)) (hn : (assignEach es X.env).length = n := by rfl) (hst : (assignEach es X.env).findIdx? (·.1) = none := by rfl) : PG X (.Tuple es k0 pos) (TG' X.K Γ vs (gvTup gs)) :=
  pg_imp (pg_tup hc h hn hst) fun v σ H Q ⟨B, G0, G, E, Es, d, E1, e, hE, k, rv, q⟩ => by
    unfold gvTup at e
    split at e
    · rename_i l
      obtain ⟨p, us, e1, g, pr⟩ := rp_tup.mp rv
      exact ⟨p, us, e1, SqT.of (k.gh _ _ g), by rw [pr.len, reps_len]; exact hl _ _ _ e, B, G0, G, E, Es, l, E1, e, hE, k, pr, q⟩
    · cases e
theorem gl_nil : ∀ ds E E1, gvNil ds E = some E1 → ds.length = 0 := fun ds E E1 e => by
  unfold gvNil at e
  split at e
  · rfl
  · cases e
theorem gl_cons {g : EvG} {gs : EvGs} {n : Nat} (h : ∀ ds E E1, gs ds E = some E1 → ds.length = n) : ∀ ds E E1, gvCons g gs ds E = some E1 → ds.length = n + 1 := fun ds E E1 e => by
  unfold gvCons at e
  split at e
  · rename_i d r
    cases e2 : g d E with
    | none => rw [e2] at e; cases e
    | some E2 => rw [e2] at e; rw [List.length_cons, h _ _ _ e]
  · cases e
def R.sl : R → Option Sl
  | .s (.val d) => some (.val d)
  | .fr l => some (.own l)
  | .frk l => some (.dic l)
  | .frt l => some (.dct l)
  | _ => none
def evSet (i : Nat) (ea : EvE) : EvS := fun E => match ea E with
  | .ok r => match r.sl with
    | some s => .nx (E.set i s)
    | none => .no
  | .ex c => .ex c E
  | .no => .no
theorem s_set {st : Stmt} {i : Nat} {ea : EvE} (h : PS X st (tAsg (T K Γ ew ea) (gName i))) : PS X st (TS' K Γ ew (evSet i ea)) := s_of h fun E Es hE hn => by
  unfold evSet at hn ⊢
  cases e : ea E with
  | no => rw [e] at hn; exact absurd rfl hn
  | ex c => exact fun B G0 σ G H D k S => T.out e S hE k
  | ok r =>
    rw [e] at hn
    dsimp only at hn ⊢
    cases r with
    | fr l => exact es_asgF (T.evf e hE) (ER.set hE i rfl)
    | frk l => exact fun B G0 σ G H D k S => T.evdf e hE B G0 σ G H k _ fun p ws G1 H1 x1 hn1 g1 h1 r1 => S.nx _ _ G1 H1 (ER.set hE i rfl) ((k.ext x1).setM i (s := .dic (repk Γ l)) ⟨p, ws, rfl, k.bh.free hn1, g1, h1, r1⟩ fun j s' hj e' m => k.fresh hn1 e' m)
    | frt l => exact fun B G0 σ G H D k S => T.evdft e hE k _ fun p ws G1 H1 x1 hn1 g1 h1 r1 => S.nx _ _ G1 H1 (ER.set hE i rfl) ((k.ext x1).setM i (s := .dct (rept Γ l)) ⟨p, ws, rfl, k.bh.free hn1, g1, h1, r1⟩ fun j s' hj e' m => k.fresh hn1 e' m)
    | s x =>
      cases x with
      | val d => exact es_asg (T.ev e hE) (ER.set hE i rfl)
      | _ => exact absurd rfl hn
def evAsg (gv : EvG) (ea : EvE) : EvS := fun E => match ea E with
  | .ok r => match r.arg with
    | .val d => match gv d E with
      | some E1 => .nx E1
      | none => .no
    | _ => .no
  | .ex c => .ex c E
  | .no => .no
theorem rep_nI {n : Int} : rep Γ (.int n) = nI n := by rw [rep]
def evSetI (i : Nat) (ei ee : EvE) : EvS := fun E => match ee E with
  | .ok r => match r.arg, ei E with
    | .val d, .ok ri => match E[i]? with
      | some (.own l) => match inS ri.arg with
        | some n => match ixN l.length n with
          | some j => .nx (E.set i (.own (l.set j d)))
          | none => .no
        | none => .no
      | some (.dic kvs) => match keyS ri.arg with
        | some k => if kvs.length < 100000 then .nx (E.set i (.dic (putD kvs k d))) else .no
        | none => .no
      | _ => .no
    | _, _ => .no
  | .ex c => .ex c E
  | .no => .no
theorem putD_rep {k : Key} {d : D} (kvs : List (Key × D)) : repk Γ (putD kvs k d) = putA (repk Γ kvs) k (rep Γ d) := by
  have h1 : ((repk Γ kvs).any fun kv => decide (kv.1 = k)) = (kvs.any fun kv => decide (kv.1 = k)) := by
    rw [repk_map, List.any_map]; rfl
  unfold putD putA
  rw [h1]
  by_cases h : (kvs.any fun kv => decide (kv.1 = k)) = true
  · rw [if_pos h, if_pos h, repk_map, repk_map, List.map_map, List.map_map]
    refine List.map_congr_left fun kv _ => ?_
    show ((if kv.1 = k then (kv.1, d) else kv).1, rep Γ (if kv.1 = k then (kv.1, d) else kv).2) = if kv.1 = k then (kv.1, rep Γ d) else (kv.1, rep Γ kv.2)
    split <;> rfl
  · rw [if_neg h, if_neg h, repk_map, repk_map, List.map_append]; rfl
theorem s_setI {st : Stmt} {i : Nat} {ei ee : EvE} (h1 : PS X st (tAsg (T K Γ ew ee) (gSub (tVar i) (T K Γ ew ei) rSetL))) (h2 : PS X st (sDPut (tVar i) (T K Γ ew ei) (T K Γ ew ee))) : PS X st (TS' K Γ ew (evSetI i ei ee)) := by
  refine ps_imp (ps_or h1 h2) fun D σ H ⟨B, G0, G, E, Es, hE, k, hn, S⟩ => ?_
  unfold evSetI at hn S
  cases e : ee E with
  | no => rw [e] at hn; exact absurd rfl hn
  | ex c => rw [e] at S; exact .inl (T.out e S hE k)
  | ok r =>
    rw [e] at hn S
    dsimp only at hn S
    split at hn
    · rename_i d ri hr e2
      rw [hr, e2] at S
      dsimp only at S
      split at hn
      · rename_i l e3
        rw [e3] at S
        dsimp only at S
        cases hi : inS ri.arg with
        | none => rw [hi] at hn; exact absurd rfl hn
        | some n =>
          rw [hi] at hn S
          dsimp only at hn S
          cases hj : ixN l.length n with
          | none => rw [hj] at hn; exact absurd rfl hn
          | some j =>
            rw [hj] at S
            dsimp only at S
            obtain ⟨s, e4, rs⟩ := P_get hE e3
            cases rs
            refine .inl (T.evA e hr hE B G0 σ G H k _ fun v G1 H1 x1 r1 => ?_)
            have k1 := k.ext x1
            obtain ⟨o, eo, p, vs, e5, b, g, hh, pr⟩ := P_get k1.sl e4
            subst e5
            refine ⟨.ref p, eo, T.atA hE k1 (fun r' e' w G2 H2 x2 ra => ?_) (fun c e' => by rw [e2] at e'; cases e') (by rw [e2]; exact fun z => nomatch z)⟩
            rw [e2] at e'; cases e'
            have hw := ra_in hi ra
            subst hw
            have k2 := k1.ext x2
            have hl : vs.length = l.length := by rw [pr.len, reps_len]
            refine ⟨p, vs, n, j, rfl, rfl, x2.h.at _ _ hh, by rw [hl]; exact hj, S.nx _ _ _ _ (ER.set (s := .own (l.set j d)) (t := .own ((reps Γ l).set j (rep Γ d))) hE i ?_) (Ab.Ok.upd k2 e4 eo (PR.set ((rep Γ d).mono x2.g r1) j (pr.mono x2.g)))⟩
            show _ = Slot.own (reps Γ (l.set j d))
            rw [reps_map, reps_map, List.map_set]
      · rename_i kvs e3
        rw [e3] at S
        dsimp only at S
        cases hk : keyS ri.arg with
        | none => rw [hk] at hn; exact absurd rfl hn
        | some key =>
          rw [hk] at hn S
          dsimp only at hn S
          by_cases hl : kvs.length < 100000
          · rw [if_pos hl] at S
            obtain ⟨s, e4, rs⟩ := P_get hE e3
            cases rs
            refine .inr (T.evA e hr hE B G0 σ G H k _ fun v G1 H1 x1 r1 => ?_)
            have k1 := k.ext x1
            obtain ⟨o, eo, p, ws, e5, b, g, hh, pk⟩ := P_get k1.sl e4
            subst e5
            refine ⟨.ref p, eo, T.atA hE k1 (fun r' e' w G2 H2 x2 ra => ?_) (fun c e' => by rw [e2] at e'; cases e') (by rw [e2]; exact fun z => nomatch z)⟩
            rw [e2] at e'; cases e'
            have hw := ra_key hk ra
            have k2 := k1.ext x2
            refine ⟨p, _, rfl, .inl ⟨ws, key, x2.h.at _ _ hh, hw, by rw [pk_len pk, repk_len]; exact smallT hl, rfl⟩, S.nx _ _ _ _ (ER.set (s := .dic (putD kvs key d)) (t := .dic (putA (repk Γ kvs) key (rep Γ d))) hE i ?_) (k2.updM e4 rfl eo ⟨p, _, rfl, b, x2.n p (fx hh) g, upd_same, PK.put key ((rep Γ d).mono x2.g r1) (pk.mono x2.g)⟩)⟩
            show _ = Slot.dic (repk Γ (putD kvs key d))
            rw [putD_rep]
          · rw [if_neg hl] at hn; exact absurd rfl hn
      · exact absurd rfl hn
    · exact absurd rfl hn
def evIfS (t : EvT) (a b : EvS) : EvS := fun E => match t E with
  | .ok c => if c = true then a E else b E
  | .ex c => .ex c E
  | .no => .no
theorem s_if {c : Expr} {p q : List Stmt} {pos : Pos} {t : EvT} {a b : EvS} (hc : PT X c (TT' K Γ ew t)) (ha : PSs X p (TS' K Γ ew a)) (hb : PSs X q (TS' K Γ ew b)) : PS X (.If c p q pos) (TS' K Γ ew (evIfS t a b)) := s_of (ps_if hc ha hb) fun E Es hE hn => by
  unfold evIfS at hn ⊢
  cases e : t E with
  | no => rw [e] at hn; exact absurd rfl hn
  | ex c =>
    exact fun B G0 σ G H D k S => TT'.at hE k (fun r e' => by rw [e] at e'; cases e') (fun c' e' => by rw [e] at e'; cases e'; exact Sat.out S hE k) (by rw [e]; exact fun z => nomatch z)
  | ok r =>
    rw [e] at hn
    dsimp only at hn ⊢
    refine es_if (b := r) (fun B G0 σ G H k Q q => TT'.at hE k (fun r' e' G' H' x => by rw [e] at e'; cases e'; exact q G' H' x) (fun c' e' => by rw [e] at e'; cases e') (by rw [e]; exact fun z => nomatch z)) (fun h => ?_) (fun h => ?_)
    · subst h
      rw [if_pos rfl] at hn ⊢
      exact ts_es hE hn
    · subst h
      rw [if_neg Bool.false_ne_true] at hn ⊢
      exact ts_es hE hn
def evRet (ea : EvE) : EvS := fun E => match ea E with
  | .ok (.fr l) => .rt (.own l)
  | .ok r => match r.arg with
    | .val d => .rt (.v d)
    | _ => .no
  | .ex c => .ex c E
  | .no => .no
theorem s_ret {e : Expr} {pos : Pos} {ea : EvE} (h : PE X e (T K Γ ew ea)) : PS X (.Return (some e) pos) (TS' K Γ ew (evRet ea)) := s_of (ps_ret h) fun E Es hE hn => by
  unfold evRet at hn ⊢
  cases e : ea E with
  | no => rw [e] at hn; exact absurd rfl hn
  | ex c => exact fun B G0 σ G H D k S => T.out e S hE k
  | ok r =>
    rw [e] at hn
    cases r with
    | fr l => exact es_retF (T.evf e hE) rfl
    | frk l => exact es_ret (T.evA e rfl hE) rfl
    | frt l => exact es_ret (T.evA e rfl hE) rfl
    | s x =>
      cases x with
      | val d => exact es_ret (T.ev e hE) rfl
      | _ => exact absurd rfl hn
def evRetV (i : Nat) : EvS := fun E => match E[i]? with
  | some (.own l) => .rt (.own l)
  | _ => evRet (evVar i) (frzE i E)
theorem s_retV {e : Expr} {i : Nat} {pos : Pos} (h : PE X e (tVar i)) : PS X (.Return (some e) pos) (TS' K Γ ew (evRetV i)) := by
  have h1 : PS X (.Return (some e) pos) (TS' K Γ ew (evFrz i (evRet (evVar i)))) := s_frz1 (s_ret (q_var h))
  have h2 := ps_ret (pos := pos) h
  refine ps_imp (ps_or h1 h2) fun D σ H ⟨B, G0, G, E, Es, hE, k, hn, S⟩ => ?_
  unfold evRetV at hn S
  split at hn
  · rename_i l e
    rw [e] at S
    obtain ⟨s, e1, rs⟩ := P_get hE e
    cases rs
    exact .inr (es_retO e1 (show RsR Γ (.own l) _ from rfl) B G0 σ G H D k S)
  · rename_i hne
    refine .inl ⟨B, G0, G, E, Es, hE, k, hn, ?_⟩
    split at S
    · rename_i l e; exact absurd e (hne l)
    · exact S
def evDrop (ea : EvE) : EvS := fun E => match ea E with
  | .ok _ => .nx E
  | .ex c => .ex c E
  | .no => .no
theorem s_drop {st : Stmt} {ea : EvE} (h : PS X st (tDrop (T K Γ ew ea))) : PS X st (TS' K Γ ew (evDrop ea)) := s_of h fun E Es hE hn => by
  unfold evDrop at hn ⊢
  cases e : ea E with
  | no => rw [e] at hn; exact absurd rfl hn
  | ex c => exact fun B G0 σ G H D k S => T.out e S hE k
  | ok r => exact fun B G0 σ G H D k S => T.atA hE k (fun r' e' v G1 H1 x1 _ => S.nx _ _ G1 H1 hE (k.ext x1)) (fun c' e' => by rw [e] at e'; cases e') (by rw [e]; exact fun z => nomatch z)
def evPass : EvS := fun E => .nx E
def evCont : EvS := fun E => .ct E
theorem s_cont {st : Stmt} (h : PS X st tCont) : PS X st (TS' K Γ ew evCont) := s_of h fun E Es hE _ => es_cont hE
theorem s_pass {st : Stmt} (h : PS X st tNext) : PS X st (TS' K Γ ew evPass) := s_of h fun E Es hE _ => es_next hE
def evNever : EvS := fun _ => .no
theorem s_never {st : Stmt} : PS X st (TS' K Γ ew evNever) := ⟨fun _ _ _ _ _ _ ⟨_, _, _, _, _, _, _, hn, _⟩ => absurd rfl hn⟩
def evRaise (c : Str) : EvS := fun E => .ex c E
theorem s_raise {st : Stmt} {c : Str} {C : Addr} (h : PS X st (fun _ σ H => ew (.ref C) none σ H)) (hC : C = Γ.cls c) : PS X st (TS' K Γ ew (evRaise c)) := s_of h fun E Es hE _ => fun B G0 σ G H D k S => by
  subst hC
  exact S.ex _ _ _ _ _ ⟨hE, rfl⟩ k
def evApp (i : Nat) (ea : EvE) : EvS := fun E => match E[i]?, ea E with
  | some (.own l), .ok r => match r.arg with
    | .val d => if l.length < 100000 then .nx (E.set i (.own (l ++ [d]))) else .no
    | _ => .no
  | _, _ => .no
theorem s_app {st : Stmt} {i : Nat} {ea : EvE} (h : PS X st (tDrop (tBM K "list" rAppend (tVar i) (tCons (T K Γ ew ea) tNil)))) : PS X st (TS' K Γ ew (evApp i ea)) := s_of h fun E Es hE hn => by
  unfold evApp at hn ⊢
  split at hn
  · rename_i l r e1 e2
    split at hn
    · rename_i d hr
      by_cases hl : l.length < 100000
      · rw [if_pos hl]
        obtain ⟨s, e3, rs⟩ := P_get hE e1
        cases rs
        refine es_app e3 (T.evA e2 hr hE) (by rw [reps_len]; exact hl) (P_set ?_ i hE)
        show _ = Slot.own (reps Γ (l ++ [d]))
        rw [reps_app]; simp [reps]
      · rw [if_neg hl] at hn; exact absurd rfl hn
    · exact absurd rfl hn
  · exact absurd rfl hn
end
end Ev
set_option maxHeartbeats 1000000
namespace Ev
variable [Ab.Tabl]
open PySem PySem.Spec PyProof.Rows L2 Ab
variable {Γ : Tb}
structure ItOk (Γ : Tb) (B G1 : Hp) (J : It) (items : List D) : Prop where
  goes : ∀ i G H, i < items.length → Same G1 G → Same G H → Grow B H → J.go i H
  stops : ∀ G H, Same G1 G → Same G H → Grow B H → J.stop items.length H
  yields : ∀ i G H x H', i < items.length → Same G1 G → Same G H → Grow B H → J.yld i H x H' → ∃ G' d, Ext G H G' H' ∧ items[i]? = some d ∧ (rep Γ d).rep G' x
abbrev EvI := En → Res (List D)
def TI' (K : PySem.W.Frag) (Γ : Tb) (ew : WX) (ev : EvI) : TI := fun σ H Q => ∃ (B G0 G : Hp) (E : En) (Es : List Slot), ER Γ E Es ∧ Ok K B G0 Es σ G H ∧
  match ev E with
  | .ok items => ∀ J G' H', Ext G H G' H' → ItOk Γ B G' J items → Q J H'
  | .ex c => ∀ G' H', Ext G H G' H' → ew (.ref (Γ.cls c)) none σ H'
  | .no => False
theorem pi_imp {X : Cx} {tg e : Expr} {t u : TI} (h : PI X tg e t) (hi : ∀ σ H Q, u σ H Q → t σ H Q) : PI X tg e u := ⟨fun pins s σ H Q I q => h.run pins s σ H Q I (hi σ H Q q)⟩
theorem pi_or {X : Cx} {tg e : Expr} {t u : TI} (h : PI X tg e t) (h' : PI X tg e u) : PI X tg e (fun σ H Q => t σ H Q ∨ u σ H Q) := ⟨fun pins s σ H Q I q => q.elim (h.run pins s σ H Q I) (h'.run pins s σ H Q I)⟩
theorem TI'.at {K : PySem.W.Frag} {ew : WX} {ev : EvI} {B G0 G H : Hp} {E : En} {Es : List Slot} {σ : L2.St} {Q : It → Hp → Prop} (hE : ER Γ E Es) (k : Ok K B G0 Es σ G H) (ok : ∀ l, ev E = .ok l → ∀ J G' H', Ext G H G' H' → ItOk Γ B G' J l → Q J H')
    (hx : ∀ c, ev E = .ex c → ∀ G' H', Ext G H G' H' → ew (.ref (Γ.cls c)) none σ H') (hn : ev E ≠ .no) : TI' K Γ ew ev σ H Q := by
  refine ⟨B, G0, G, E, Es, hE, k, ?_⟩
  cases h : ev E with
  | ok r => exact ok r h
  | ex c => exact hx c h
  | no => exact absurd h hn
def Stay (K : PySem.W.Frag) (B G1 : Hp) (p : Addr) (vs : List V) : Prop := ∀ G H, Same G1 G → Same G H → Grow B H → SqL K H p vs
theorem it_list {K : PySem.W.Frag} {B G1 : Hp} {p : Addr} {vs : List V} {l : List D} (st : Stay K B G1 p vs) (pr : PR G1 vs (reps Γ l)) : ItOk Γ B G1 (Itl K p) l := by
  have hl : vs.length = l.length := by rw [pr.len, reps_len]
  refine ⟨fun i G H hi g1 gh bh => walk_list.goes i H (by rw [hl]; exact hi) (st G H g1 gh bh), fun G H g1 gh bh => by rw [← hl]; exact walk_list.stops H (st G H g1 gh bh), fun i G H x H' hi g1 gh bh y => ?_⟩
  obtain ⟨rfl, hx⟩ := walk_list.yields i H x H' (by rw [hl]; exact hi) (st G H g1 gh bh) y
  refine ⟨G, l[i], Ext.refl gh, List.getElem?_eq_getElem hi, ?_⟩
  obtain ⟨r, hr, rv⟩ := PR.get' (pr.mono g1) hx
  rw [reps_get (List.getElem?_eq_getElem hi)] at hr
  cases hr
  exact rv
theorem it_tup {K : PySem.W.Frag} {B G1 : Hp} {p : Addr} {vs : List V} {l : List D} (g0 : Rd G1 p (.tup vs)) (pr : PR G1 vs (reps Γ l)) : ItOk Γ B G1 (Itt K p) l := by
  have hl : vs.length = l.length := by rw [pr.len, reps_len]
  have st : ∀ G H, Same G1 G → Same G H → SqT K H p vs := fun G H g1 gh => .inl (Ev.Rd.mono gh (Ev.Rd.mono g1 g0))
  refine ⟨fun i G H hi g1 gh bh => walk_tup.goes i H (by rw [hl]; exact hi) (st G H g1 gh), fun G H g1 gh bh => by rw [← hl]; exact walk_tup.stops H (st G H g1 gh), fun i G H x H' hi g1 gh bh y => ?_⟩
  obtain ⟨rfl, hx⟩ := walk_tup.yields i H x H' (by rw [hl]; exact hi) (st G H g1 gh) y
  refine ⟨G, l[i], Ext.refl gh, List.getElem?_eq_getElem hi, ?_⟩
  obtain ⟨r, hr, rv⟩ := PR.get' (pr.mono g1) hx
  rw [reps_get (List.getElem?_eq_getElem hi)] at hr
  cases hr
  exact rv
def rgL (lo : Int) (n : Nat) : List D := (List.range n).map fun i => D.int (lo + ((i : Nat) : Int))
theorem rgL_len (lo : Int) (n : Nat) : (rgL lo n).length = n := by unfold rgL; rw [List.length_map, List.length_range]
theorem rgL_get {lo : Int} {n i : Nat} (h : i < n) : (rgL lo n)[i]? = some (.int (lo + ((i : Nat) : Int))) := by
  unfold rgL
  rw [List.getElem?_map, List.getElem?_range h]; rfl
theorem it_range {B G1 : Hp} {lo : Int} {n : Nat} : ItOk Γ B G1 (Itr lo n) (rgL lo n) := by
  refine ⟨fun i G H hi _ _ _ => walk_range.goes i H (by rw [rgL_len] at hi; exact hi) trivial, fun G H _ _ _ => by rw [rgL_len]; exact walk_range.stops H trivial, fun i G H x H' hi g1 gh bh y => ?_⟩
  rw [rgL_len] at hi
  obtain ⟨rfl, rfl⟩ := walk_range.yields i H x H' hi trivial y
  exact ⟨G, _, Ext.refl gh, rgL_get hi, rp_int.mpr rfl⟩
theorem pair_new {G H : Hp} {T : Addr} {x y : V} {a b : D} (gh : Same G H) (hT : H T = none) (ha : (rep Γ a).rep G x) (hb : (rep Γ b).rep G y) : Ext G H (upd G T (.tup [x, y])) (upd H T (.tup [x, y])) ∧ (rep Γ (.tup [a, b])).rep (upd G T (.tup [x, y])) (.ref T) := by
  have e := Ext.new (o := .tup [x, y]) gh hT
  refine ⟨e, rp_tup.mpr ⟨T, _, rfl, upd_same, ?_⟩⟩
  simp only [reps]
  exact .cons ((rep Γ a).mono e.g ha) (.cons ((rep Γ b).mono e.g hb) .nil)
def enL (l : List D) : List D := l.zipIdx.map fun di => D.tup [.int ((di.2 : Nat) : Int), di.1]
theorem enL_len (l : List D) : (enL l).length = l.length := by unfold enL; rw [List.length_map, List.length_zipIdx]
theorem enL_get {l : List D} {i : Nat} {d : D} (h : l[i]? = some d) : (enL l)[i]? = some (.tup [.int ((i : Nat) : Int), d]) := by
  unfold enL
  rw [List.getElem?_map, List.getElem?_zipIdx, h]
  simp
theorem it_enum {K : PySem.W.Frag} {B G1 : Hp} {p : Addr} {vs : List V} {l : List D} (st : Stay K B G1 p vs) (pr : PR G1 vs (reps Γ l)) : ItOk Γ B G1 (Ite K p) (enL l) := by
  have hl : vs.length = l.length := by rw [pr.len, reps_len]
  refine ⟨fun i G H hi g1 gh bh => (walk_enum (xs := vs)).goes i H (by rw [hl]; rw [enL_len] at hi; exact hi) (st G H g1 gh bh), fun G H g1 gh bh => by rw [enL_len, ← hl]; exact walk_enum.stops H (st G H g1 gh bh), fun i G H x H' hi g1 gh bh y => ?_⟩
  rw [enL_len] at hi
  obtain ⟨T, a, b, rfl, hT, rfl, ha, hb⟩ := (walk_enum (xs := vs)).yields i H x H' (by rw [hl]; exact hi) (st G H g1 gh bh) y
  cases ha
  obtain ⟨r, hr, rv⟩ := PR.get' (pr.mono g1) hb
  rw [reps_get (List.getElem?_eq_getElem hi)] at hr
  cases hr
  obtain ⟨e, rt⟩ := pair_new (Γ := Γ) (a := .int ((i : Nat) : Int)) (b := l[i]) gh hT (rp_int.mpr rfl) rv
  exact ⟨_, _, e, enL_get (List.getElem?_eq_getElem hi), rt⟩
def zipL (l m : List D) : List D := (l.zip m).map fun ab => D.tup [ab.1, ab.2]
section
variable {X : Cx} {K : PySem.W.Frag} {ew : WX} {tg : Expr}
def lstS : Sl → Option (List D)
  | .val (.lst l) => some l
  | _ => none
def evIt (ea : EvE) : EvI := fun E => (ea E).bind fun r => lift ((lstS r.arg).or (tpS r.arg))
theorem ra_lst {G H : Hp} {x : Sl} {l : List D} {w : V} (h : lstS x = some l) (r : RA K Γ G H x w) : ∃ p vs, w = .ref p ∧ G p = some (.lst vs) ∧ PR G vs (reps Γ l) := by
  unfold lstS at h
  split at h
  · cases h; exact rp_lst.mp r
  · cases h
theorem stay_of {B G1 : Hp} {p : Addr} {vs : List V} (h : G1 p = some (.lst vs)) : Stay K B G1 p vs := fun G H g1 gh _ => SqL.of (gh _ _ (g1 _ _ h))
theorem i_seq {l : Expr} {ea : EvE} (h : PE X l (T X.K Γ ew ea)) : PI X tg l (TI' X.K Γ ew (evIt ea)) := by
  refine pi_imp (pi_or (pi_list h) (pi_tup h)) fun σ H Q ⟨B, G0, G, E, Es, hE, k, h⟩ => ?_
  unfold evIt at h
  by_cases hc : ∃ r ds, ea E = .ok r ∧ lstS r.arg = none ∧ tpS r.arg = some ds
  · obtain ⟨r, ds, e, h1, h2⟩ := hc
    rw [e] at h
    dsimp only [bind_ok] at h
    rw [h1, h2] at h
    refine .inr (T.atA hE k (fun r' e' v G1 H1 x1 ra => ?_) (fun c e' => by rw [e] at e'; cases e') (by rw [e]; exact fun z => nomatch z))
    rw [e] at e'; cases e'
    obtain ⟨p, vs, e1, g, hs, pr⟩ := ra_tp h2 x1.gh ra
    exact ⟨p, e1, ⟨vs, hs⟩, h _ G1 H1 x1 (it_tup g pr)⟩
  · refine .inl (T.atA hE k (fun r e v G1 H1 x1 ra => ?_) (fun c e => ?_) (fun e => ?_)) <;> rw [e] at h <;> dsimp only [bind_ok, bind_ex, bind_no] at h
    · cases h1 : lstS r.arg with
      | none =>
        cases h2 : tpS r.arg with
        | none => rw [h1, h2] at h; exact h.elim
        | some ds => exact absurd ⟨r, ds, e, h1, h2⟩ hc
      | some l =>
        rw [h1] at h
        obtain ⟨p, vs, e1, g, pr⟩ := ra_lst h1 ra
        exact ⟨p, e1, ⟨vs, SqL.of (x1.gh _ _ g)⟩, h _ G1 H1 x1 (it_list (stay_of g) pr)⟩
    · exact h
def evItV (i : Nat) : EvI := fun E => match E[i]? with
  | some (.red l) => .ok l
  | _ => evIt (evVar i) E
theorem i_var {l : Expr} {i : Nat} (h : PE X l (tVar i)) : PI X tg l (TI' X.K Γ ew (evItV i)) := by
  have h1 := i_seq (Γ := Γ) (ew := ew) (tg := tg) (q_var (K := X.K) (ew := ew) h)
  have h2 := pi_list (tg := tg) h
  refine pi_imp (pi_or h1 h2) fun σ H Q ⟨B, G0, G, E, Es, hE, k, h⟩ => ?_
  unfold evItV at h
  split at h
  · rename_i items e
    split at e
    · rename_i l e0
      cases e
      refine .inr ?_
      obtain ⟨s, e1, rs⟩ := P_get hE e0
      cases rs
      obtain ⟨o, e2, p, vs, e3, b, pr⟩ := P_get k.sl e1
      subst e3
      exact ⟨.ref p, e2, p, rfl, ⟨vs, SqL.of (k.bh.at _ _ b)⟩, h _ G H (Ext.refl k.gh) (it_list (fun G' H' g1 gh bh => SqL.of (bh.at _ _ b)) pr)⟩
    · refine .inl ⟨B, G0, G, E, Es, hE, k, ?_⟩
      rw [e]; exact h
  · rename_i c e
    split at e
    · cases e
    · refine .inl ⟨B, G0, G, E, Es, hE, k, ?_⟩
      rw [e]; exact h
  · exact h.elim
def evRng1 (ea : EvE) : EvI := fun E => (ea E).bind fun x => (lift (inS x.arg)).bind fun n => if -4000000 ≤ n ∧ n ≤ 4000000 then .ok (rgL 0 n.toNat) else .no
def evRng2 (ea eb : EvE) : EvI := fun E => (ea E).bind fun x => (eb E).bind fun y => (lift (inS x.arg)).bind fun a => (lift (inS y.arg)).bind fun b => if -4000000 ≤ a ∧ a ≤ 4000000 ∧ -4000000 ≤ b ∧ b ≤ 4000000 then .ok (rgL a (b - a).toNat) else .no
theorem i_rng1 {a : Expr} {ea : EvE} {p pos : Pos} (hg : Gl X "range") (hm : X.mg "range" = none) (ha : PE X a (T X.K Γ ew ea)) (hs : starEach [a] X.env = [(false, eval a X.env)] := by rfl) : PI X tg (.Call (.Name "range" p) [a] [] pos) (TI' X.K Γ ew (evRng1 ea)) :=
  pi_imp (pi_range1 hg hm (pa_cons ha pa_nil hs) hs) fun σ H Q ⟨B, G0, G, E, Es, hE, k, h⟩ => by
    unfold evRng1 at h
    refine T.atA hE k (fun r e v G1 H1 x1 ra => ?_) (fun c e => ?_) (fun e => ?_) <;> rw [e] at h <;> dsimp only [bind_ok, bind_ex, bind_no] at h
    · cases hi : inS r.arg with
      | none => rw [hi] at h; exact h.elim
      | some i =>
        rw [hi] at h
        dsimp only [lift_some, bind_ok] at h
        by_cases hb : -4000000 ≤ i ∧ i ≤ 4000000
        · rw [if_pos hb] at h
          exact ⟨i, by rw [ra_in hi ra], by omega, by omega, h _ G1 H1 x1 it_range⟩
        · rw [if_neg hb] at h; exact h.elim
    · exact h
def evEn (ea : EvE) : EvI := fun E => (ea E).bind fun r => (lift (lstS r.arg)).bind fun l => .ok (enL l)
theorem i_enum {e : Expr} {ea : EvE} {p pos tpos : Pos} {elts : List Expr} {kk : Nat} (hg : Gl X "enumerate") (hm : X.mg "enumerate" = none) (ha : PE X e (T X.K Γ ew ea)) (hs : starEach [e] X.env = [(false, eval e X.env)] := by rfl) : PI X (.Tuple elts kk tpos) (.Call (.Name "enumerate" p) [e] [] pos) (TI' X.K Γ ew (evEn ea)) :=
  pi_imp (pi_enum hg hm (pa_cons ha pa_nil hs) hs) fun σ H Q ⟨B, G0, G, E, Es, hE, k, h⟩ => by
    unfold evEn at h
    refine T.atA hE k (fun r e v G1 H1 x1 ra => ?_) (fun c e => ?_) (fun e => ?_) <;> rw [e] at h <;> dsimp only [bind_ok, bind_ex, bind_no] at h
    · cases hi : lstS r.arg with
      | none => rw [hi] at h; exact h.elim
      | some l =>
        rw [hi] at h
        obtain ⟨p, vs, e1, g, pr⟩ := ra_lst hi ra
        exact ⟨p, vs, by rw [e1], SqL.of (x1.gh _ _ g), h _ G1 H1 x1 (it_enum (stay_of g) pr)⟩
    · exact h
def evEnV (i : Nat) : EvI := fun E => match E[i]? with
  | some (.red l) => .ok (enL l)
  | _ => evEn (evVar i) E
theorem i_enumV {e : Expr} {i : Nat} {p pos tpos : Pos} {elts : List Expr} {kk : Nat} (hg : Gl X "enumerate") (hm : X.mg "enumerate" = none) (ha : PE X e (tVar i)) (hs : starEach [e] X.env = [(false, eval e X.env)] := by rfl) : PI X (.Tuple elts kk tpos) (.Call (.Name "enumerate" p) [e] [] pos) (TI' X.K Γ ew (evEnV i)) := by
  have h1 := i_enum (Γ := Γ) (ew := ew) (p := p) (pos := pos) (tpos := tpos) (elts := elts) (kk := kk) hg hm (q_var (K := X.K) (ew := ew) ha) hs
  have h2 := pi_enum (p := p) (pos := pos) (tpos := tpos) (elts := elts) (kk := kk) hg hm (pa_cons ha pa_nil hs) hs
  refine pi_imp (pi_or h1 h2) fun σ H Q ⟨B, G0, G, E, Es, hE, k, h⟩ => ?_
  unfold evEnV at h
  split at h
  · rename_i items e
    split at e
    · rename_i l e0
      cases e
      refine .inr ?_
      obtain ⟨s, e1, rs⟩ := P_get hE e0
      cases rs
      obtain ⟨o, e2, p, vs, e3, b, pr⟩ := P_get k.sl e1
      subst e3
      exact ⟨.ref p, e2, p, vs, rfl, SqL.of (k.bh.at _ _ b), h _ G H (Ext.refl k.gh) (it_enum (fun G' H' g1 gh bh => SqL.of (bh.at _ _ b)) pr)⟩
    · refine .inl ⟨B, G0, G, E, Es, hE, k, ?_⟩
      rw [e]; exact h
  · rename_i c e
    split at e
    · cases e
    · refine .inl ⟨B, G0, G, E, Es, hE, k, ?_⟩
      rw [e]; exact h
  · exact h.elim
def forE (gv : EvG) (b : EvS) (ws : List Nat) : List D → En → O
  | [], E => .nx E
  | d :: ds, E => match gv d E with
    | none => .no
    | some E1 => match b E1 with
      | .nx E2 => forE gv b ws ds (wp ws E2)
      | .ct E2 => forE gv b ws ds (wp ws E2)
      | .bk E2 => .nx (wp ws E2)
      | .rt r => .rt r
      | .ex c E2 => .ex c E2
      | .no => .no
theorem turn_sat {B G1 : Hp} {ws : List Nat} {ob o : O} {f : En → O} {Dn : Ends} {N : L2.St → Hp → Prop} (hn : o ≠ .no) (S : Sat K B G1 (AO Γ ew o) Dn) (hf : (match ob with
      | .nx E2 => f (wp ws E2)
      | .ct E2 => f (wp ws E2)
      | .bk E2 => .nx (wp ws E2)
      | .rt r => .rt r
      | .ex c E2 => .ex c E2
      | .no => .no) = o) (hN : ∀ E2 Es2 σ4 G4 H4, f E2 = o → ER Γ E2 Es2 → Ok K B G1 Es2 σ4 G4 H4 → N σ4 H4) : Sat K B G1 (AO Γ ew ob) { Dn with nx := N, ct := N, bk := Dn.nx } := by
  cases ob with
  | no => exact absurd hf.symm hn
  | nx E2 =>
    refine ⟨fun Es3 σ4 G4 H4 z k4 => ?_, fun _ _ _ _ z => z.elim, fun _ _ _ _ z => z.elim, fun _ _ _ _ z => z.elim, fun _ _ _ _ _ z => z.elim, fun _ _ _ _ _ z => z.elim⟩
    obtain ⟨Es4, hw, kw⟩ := ok_wp ws z k4
    exact hN _ _ _ _ _ hf hw kw
  | ct E2 =>
    refine ⟨fun _ _ _ _ z => z.elim, fun _ _ _ _ z => z.elim, fun Es3 σ4 G4 H4 z k4 => ?_, fun _ _ _ _ z => z.elim, fun _ _ _ _ _ z => z.elim, fun _ _ _ _ _ z => z.elim⟩
    obtain ⟨Es4, hw, kw⟩ := ok_wp ws z k4
    exact hN _ _ _ _ _ hf hw kw
  | bk E2 =>
    have hf' : O.nx (wp ws E2) = o := hf
    subst hf'
    refine ⟨fun _ _ _ _ z => z.elim, fun Es3 σ4 G4 H4 z k4 => ?_, fun _ _ _ _ z => z.elim, fun _ _ _ _ z => z.elim, fun _ _ _ _ _ z => z.elim, fun _ _ _ _ _ z => z.elim⟩
    obtain ⟨Es4, hw, kw⟩ := ok_wp ws z k4
    exact S.nx _ _ _ _ hw kw
  | rt r =>
    have hf' : O.rt r = o := hf
    subst hf'
    exact ⟨fun _ _ _ _ z => z.elim, fun _ _ _ _ z => z.elim, fun _ _ _ _ z => z.elim, S.rtV, S.rtO, fun _ _ _ _ _ z => z.elim⟩
  | ex c E2 =>
    have hf' : O.ex c E2 = o := hf
    subst hf'
    exact ⟨fun _ _ _ _ z => z.elim, fun _ _ _ _ z => z.elim, fun _ _ _ _ z => z.elim, fun _ _ _ _ z => z.elim, fun _ _ _ _ _ z => z.elim, S.ex⟩
def evFor (it : EvI) (gv : EvG) (b : EvS) (ws : List Nat) : EvS := fun E => match it E with
  | .ok items => forE gv b ws items E
  | .ex c => .ex c E
  | .no => .no
theorem s_for {st : Stmt} {it : EvI} {vs : List Nat} {gv : EvG} {b : EvS} (ws : List Nat) (h : PS X st (tFor (TI' K Γ ew it) (TG' K Γ vs gv) (TS' K Γ ew b))) : PS X st (TS' K Γ ew (evFor it gv b ws)) := s_of h fun E Es hE hn => by
  unfold evFor at hn ⊢
  cases e : it E with
  | no => rw [e] at hn; exact absurd rfl hn
  | ex c => exact fun B G0 σ G H D k S => TI'.at hE k (fun l e' => by rw [e] at e'; cases e') (fun c' e' => by rw [e] at e'; cases e'; exact Sat.out S hE k) (by rw [e]; exact fun z => nomatch z)
  | ok items =>
    rw [e] at hn
    dsimp only at hn ⊢
    intro B G0 σ G H D k S
    refine TI'.at hE k (fun l e' J G1 H1 x1 io => ?_) (fun c' e' => by rw [e] at e'; cases e') (by rw [e]; exact fun z => nomatch z)
    rw [e] at e'; cases e'
    generalize ho : forE gv b ws items E = o at hn S
    have k1 := k.ext x1
    have S1 : Sat K B G1 (AO Γ ew o) D := S.later k1.toOkB
    let Pv : Nat → L2.St → Hp → Prop := fun i σ' H' => ∃ E' Es' G', forE gv b ws (items.drop i) E' = o ∧ ER Γ E' Es' ∧ Ok K B G1 Es' σ' G' H'
    refine ⟨fun i m σ' H' => m = items.length - i ∧ i ≤ items.length ∧ Pv i σ' H', ⟨items.length, by simp, Nat.zero_le _, E, Es, G1, by rw [List.drop_zero]; exact ho, hE, k1.here⟩, ?_⟩
    rintro i m σ' H' ⟨rfl, hi, E', Es', G', hf, hE', k'⟩
    by_cases hlt : i < items.length
    · refine .inr ⟨io.goes i G' H' hlt k'.g0 k'.gh k'.bh, Pv (i + 1), fun σ2 H2 p => ⟨items.length - (i + 1), by omega, rfl, hlt, p⟩, fun x H2 hy => ?_⟩
      obtain ⟨G2, d, x2, hd, rv⟩ := io.yields i G' H' x H2 hlt k'.g0 k'.gh k'.bh hy
      have hdr : items.drop i = d :: items.drop (i + 1) := by
        rw [List.getElem?_eq_getElem hlt] at hd
        cases hd
        exact List.drop_eq_getElem_cons hlt
      rw [hdr] at hf
      unfold forE at hf
      cases hg : gv d E' with
      | none => rw [hg] at hf; dsimp only at hf; exact absurd hf.symm hn
      | some E1 =>
        rw [hg] at hf
        dsimp only at hf
        refine ⟨B, G1, G2, E', Es', d, E1, hg, hE', k'.ext x2, rv, fun σ3 Es1 hE1 k3 _ _ => ⟨B, G1, G2, E1, Es1, hE1, k3, fun z => ?_, turn_sat hn S1 hf fun E2 Es2 σ4 G4 H4 e2 h2 k4 => ⟨E2, Es2, G4, e2, h2, k4⟩⟩⟩
        rw [z] at hf; exact hn hf.symm
    · have ei : i = items.length := by omega
      subst ei
      rw [List.drop_length] at hf
      refine .inl ⟨io.stops G' H' k'.g0 k'.gh k'.bh, ?_⟩
      have : o = .nx E' := hf.symm
      subst this
      exact S1.nx _ _ _ _ hE' k'
end
end Ev
set_option maxHeartbeats 1000000
namespace Ev
variable [Ab.Tabl]
open PySem PySem.Spec PyProof.Rows L2 Ab
variable {Γ : Tb}
section
variable {X : Cx} {K : PySem.W.Frag} {ew : WX} {tg : Expr}
def whl (t : EvT) (b : EvS) (ws : List Nat) : Nat → En → O
  | 0, _ => .no
  | n + 1, E => match t E with
    | .ok c => if c = true then (match b E with
      | .nx E2 => whl t b ws n (wp ws E2)
      | .ct E2 => whl t b ws n (wp ws E2)
      | .bk E2 => .nx (wp ws E2)
      | .rt r => .rt r
      | .ex c E2 => .ex c E2
      | .no => .no) else .nx E
    | .ex c => .ex c E
    | .no => .no
@[irreducible] def fuel : Nat := 2 ^ 40
def evWhile (t : EvT) (b : EvS) (ws : List Nat) : EvS := fun E => whl t b ws fuel E
theorem s_while {st : Stmt} {t : EvT} {b : EvS} (ws : List Nat) (h : PS X st (tWhile (TT' K Γ ew t) (TS' K Γ ew b))) : PS X st (TS' K Γ ew (evWhile t b ws)) := s_of h fun E Es hE hn => by
  intro B G0 σ G H D k S
  unfold evWhile at hn S
  generalize ho : whl t b ws fuel E = o at hn S
  have S1 : Sat K B G (AO Γ ew o) D := S.later k.toOkB
  refine ⟨fun m σ' H' => ∃ E' Es' G', whl t b ws m E' = o ∧ ER Γ E' Es' ∧ Ok K B G Es' σ' G' H', ⟨fuel, E, Es, G, ho, hE, k.here⟩, ?_⟩
  rintro m σ' H' ⟨E', Es', G', hf, hE', k'⟩
  cases m with
  | zero => exact absurd hf.symm hn
  | succ m =>
    unfold whl at hf
    refine TT'.at hE' k' (fun c e G2 H2 x2 => ?_) (fun c e => ?_) (fun e => ?_) <;> rw [e] at hf <;> dsimp only at hf
    · have k2 := k'.ext x2
      cases c with
      | false =>
        rw [if_neg Bool.false_ne_true] at hf ⊢
        subst hf
        exact S1.nx _ _ _ _ hE' k2
      | true =>
        rw [if_pos rfl] at hf ⊢
        refine ⟨fun σ3 H3 => ∃ E3 Es3 G3, whl t b ws m E3 = o ∧ ER Γ E3 Es3 ∧ Ok K B G Es3 σ3 G3 H3, fun σ3 H3 p => ⟨m, by omega, p⟩, B, G, G2, E', Es', hE', k2, fun z => ?_, turn_sat hn S1 hf fun E2 Es2 σ4 G4 H4 e2 h2 k4 => ⟨E2, Es2, G4, e2, h2, k4⟩⟩
        rw [z] at hf; exact hn hf.symm
    · subst hf
      exact Sat.out S1 hE' k'
    · exact hn hf.symm
def argD (r : R) : Option D := r.arg.toD
theorem ra_arg {G H : Hp} {r : R} {d : D} {v : V} (h : argD r = some d) (ra : RA K Γ G H r.arg v) : (rep Γ d).rep G v := by
  unfold argD Sl.toD at h
  split at h
  · rename_i d' e
    cases h
    rw [e] at ra
    exact ra
  · cases h
def lcT (gv : EvG) (tv : EvT) (ee : EvE) (ws : List Nat) (E : En) (d : D) : Option (List D) := match gv d (wp ws E) with
  | none => none
  | some E1 => match tv E1 with
    | .ok b => if b = true then (match ee E1 with
      | .ok r => (argD r).map fun d => [d]
      | _ => none) else some []
    | _ => none
def lcR (f : D → Option (List D)) : List D → Option (List D)
  | [] => some []
  | d :: ds => (f d).bind fun l => (lcR f ds).map fun m => l ++ m
def evLc (it : EvI) (gv : EvG) (tv : EvT) (ee : EvE) (ws : List Nat) : EvE := fun E => (it E).bind fun items => match lcR (lcT gv tv ee ws E) items with
  | some l => if l.length ≤ 100000 then .ok (.fr l) else .no
  | none => .no
theorem er_wp {E : En} {Es : List Slot} (h : ER Γ E Es) : ∀ ws : List Nat, ER Γ (wp ws E) (wipeE Es ws)
  | [] => h
  | i :: r => ER.set (er_wp h r) i rfl
def evYes : EvT := fun _ => .ok true
theorem ts_nil {X : Cx} : PTs X [] (TT' K Γ ew evYes) := ⟨fun pins s σ H Q I ⟨B, G0, G, E, Es, hE, k, h⟩ => pts_nil.run pins s σ H Q I (h G H (Ext.refl k.gh))⟩
theorem ts_one {X : Cx} {c : Expr} {t : EvT} (h : PT X c (TT' K Γ ew t)) : PTs X [c] (TT' K Γ ew t) := pts_one h
def LcS (Γ : Tb) (G1 H1 : Hp) (Da : Addr) (acc : List D) (H : Hp) : Prop := ∃ G vs, Ext G1 H1 G H ∧ G Da = none ∧ H Da = some (.lst vs) ∧ PR G vs (reps Γ acc)
theorem Ext.mut' {G H G' H' : Hp} {Da : Addr} {o u : HO} (x : Ext G H G' H') (h : H Da = none) (g : G' Da = none) (hu : H' Da = some u) (pl : Pl u := by exact ⟨fun _ z => (nomatch z), fun _ _ z => (nomatch z)⟩) : Ext G H G' (upd H' Da o) := x.mut h g hu pl
theorem lcS_put {G1 H1 G H G4 H4 : Hp} {Da : Addr} {vs : List V} {acc : List D} {d : D} {y : V} (x : Ext G1 H1 G H) (hD1 : H1 Da = none) (gD : G Da = none) (hD : H Da = some (.lst vs)) (pr : PR G vs (reps Γ acc)) (x4 : Ext G H G4 H4) (ry : (rep Γ d).rep G4 y) :
    H4 Da = some (.lst vs) ∧ LcS Γ G1 H1 Da (acc ++ [d]) (upd H4 Da (.lst (vs ++ [y]))) := by
  have h4 := x4.h.at _ _ hD
  have g4 : G4 Da = none := x4.n Da (fx hD) gD
  refine ⟨h4, G4, _, Ext.mut' (x.trans x4) hD1 g4 h4, g4, upd_same, ?_⟩
  rw [reps_app]
  refine (pr.mono x4.g).append ?_
  simp only [reps]
  exact .cons ry .nil
theorem tLc_run {it : EvI} {vs : List Nat} {gv : EvG} {tv : EvT} {ee : EvE} {ws : List Nat} {ew1 : WX} (hvs : ∀ j ∈ vs, j ∈ ws) {σ : L2.St} {H : Hp} {Q : VK} (h : T K Γ ew (evLc it gv tv ee ws) σ H Q) : tLc (TI' K Γ ew it) (TG' K Γ vs gv) (TT' K Γ ew1 tv) (T K Γ ew1 ee) ws σ H Q := by
  obtain ⟨B, G0, G, E, Es, hE, k, h⟩ := h
  unfold evLc at h
  refine TI'.at hE k (fun items e J G1 H1 x1 io => ?_) (fun c e => ?_) (fun e => ?_) <;> rw [e] at h <;> dsimp only [bind_ok, bind_ex, bind_no] at h
  · cases hl : lcR (lcT gv tv ee ws E) items with
    | none => rw [hl] at h; exact h.elim
    | some l =>
      rw [hl] at h
      dsimp only at h
      by_cases hn : l.length ≤ 100000
      · rw [if_pos hn] at h
        dsimp only at h
        intro Da hD
        have k1 := k.ext x1
        have kh := k1.here
        let Pv : Nat → Hp → Prop := fun i H' => ∃ acc rest, LcS Γ G1 H1 Da acc H' ∧ lcR (lcT gv tv ee ws E) (items.drop i) = some rest ∧ l = acc ++ rest
        refine ⟨fun i m H' => m = items.length - i ∧ i ≤ items.length ∧ Pv i H', ⟨items.length, by simp, Nat.zero_le _, [], l, ⟨G1, [], Ext.newO k1.gh hD, k1.gh.free hD, upd_same, by rw [reps]; exact .nil⟩, by rw [List.drop_zero]; exact hl, rfl⟩, ?_⟩
        rintro i m H' ⟨rfl, hi, acc, rest, ⟨G', us, x, gD, hD', pr⟩, hr, hacc⟩
        have bh' : Grow B H' := k1.bh.trans x.h
        by_cases hlt : i < items.length
        · refine .inr ⟨io.goes i G' H' hlt x.g x.gh bh', Pv (i + 1), fun H2 p => ⟨items.length - (i + 1), by omega, rfl, hlt, p⟩, fun y H2 hy => ?_⟩
          obtain ⟨G2, d, x2, hd, rv⟩ := io.yields i G' H' y H2 hlt x.g x.gh bh' hy
          have hdr : items.drop i = d :: items.drop (i + 1) := by
            rw [List.getElem?_eq_getElem hlt] at hd
            cases hd
            exact List.drop_eq_getElem_cons hlt
          rw [hdr] at hr
          unfold lcR at hr
          cases ht : lcT gv tv ee ws E d with
          | none => rw [ht] at hr; cases hr
          | some ld =>
            rw [ht] at hr
            dsimp only [Option.bind_some] at hr
            cases hm : lcR (lcT gv tv ee ws E) (items.drop (i + 1)) with
            | none => rw [hm] at hr; cases hr
            | some rest' =>
              rw [hm] at hr
              cases hr
              unfold lcT at ht
              cases hg : gv d (wp ws E) with
              | none => rw [hg] at ht; cases ht
              | some E1 =>
                rw [hg] at ht
                dsimp only at ht
                have kw := Ok.wipe ((kh.ext x).ext x2) ws
                refine ⟨B, G1, G2, wp ws E, wipeE Es ws, d, E1, hg, er_wp hE ws, kw, rv, fun σ3 Es1 hE1 k3 hw _ => ⟨(wipe_sub hw hvs).trans wipe_wipe, ?_⟩⟩
                refine TT'.at hE1 k3 (fun b e3 G3 H3 x3 => ?_) (fun c e3 => ?_) (fun e3 => ?_) <;> rw [e3] at ht <;> dsimp only at ht
                · cases b with
                  | false =>
                    rw [if_neg Bool.false_ne_true] at ht ⊢
                    cases ht
                    have xx := x2.trans x3
                    exact ⟨acc, rest', ⟨G3, us, x.trans xx, xx.n Da (fx hD') gD, xx.h.at _ _ hD', pr.mono xx.g⟩, hm, hacc⟩
                  | true =>
                    rw [if_pos rfl] at ht ⊢
                    refine T.atA hE1 (k3.ext x3) (fun r e4 v G4 H4 x4 ra => ?_) (fun c e4 => ?_) (fun e4 => ?_) <;> rw [e4] at ht <;> dsimp only at ht
                    · cases ha : argD r with
                      | none => rw [ha] at ht; cases ht
                      | some de =>
                        rw [ha] at ht
                        cases ht
                        obtain ⟨h4, ls⟩ := lcS_put x hD gD hD' pr ((x2.trans x3).trans x4) (ra_arg ha ra)
                        refine ⟨us, h4, ?_, acc ++ [de], rest', ls, hm, by rw [hacc]; simp⟩
                        have : us.length = acc.length := by rw [pr.len, reps_len]
                        have : acc.length < l.length := by rw [hacc]; simp
                        exact smallT (by omega)
                    · cases ht
                    · cases ht
                · cases ht
                · cases ht
        · have ei : i = items.length := by omega
          subst ei
          rw [List.drop_length] at hr
          have hr' : rest = [] := by unfold lcR at hr; cases hr; rfl
          subst hr'
          rw [List.append_nil] at hacc
          subst hacc
          exact .inl ⟨io.stops G' H' x.g x.gh bh', h _ G' H' (x1.trans x) ⟨Da, us, rfl, x1.h.free hD, gD, hD', pr⟩⟩
      · rw [if_neg hn] at h; exact h.elim
  · exact h
theorem q_lc {elt tg iter : Expr} {ifs : List Expr} {scope : Scope} {own : List (Str × Nat)} {pos : Pos} {it : EvI} {vs : List Nat} {gv : EvG} {tv : EvT} {ee : EvE} {ew1 : WX} (hc : X.calm = true) (hN : X.N.Nodup) (hi : PI X tg iter (TI' X.K Γ ew it)) (ok : BlkOk X.N X.env.scope scope own)
    (hg : ∀ (s : Shared) (H : Hp) (C : Addr) (cl : List (Str × Addr)) (fp : List Addr), PG (X.blk s H scope (compEnvC scope cl C X.env) fp) tg (TG' X.K Γ vs gv)) (ht : ∀ (s : Shared) (H : Hp) (C : Addr) (cl : List (Str × Addr)) (fp : List Addr), PTs (X.blk s H scope (compEnvC scope cl C X.env) fp) ifs (TT' X.K Γ ew1 tv))
    (he : ∀ (s : Shared) (H : Hp) (C : Addr) (cl : List (Str × Addr)) (fp : List Addr), PE (X.blk s H scope (compEnvC scope cl C X.env) fp) elt (T X.K Γ ew1 ee)) (hvs : ∀ j ∈ vs, j ∈ own.map (·.2)) (hs : ∀ x, foldedSetIterable iter X.env x = pure x := by intro _; rfl) :
    PE X (.ListComp elt [⟨tg, iter, ifs, 0⟩] scope pos) (T X.K Γ ew (evLc it gv tv ee (own.map (·.2)))) :=
  pe_imp (pe_lc hc hN hi ok hg ht he hs) fun σ H Q h => tLc_run hvs h
def lc2T (gv : EvG) (tv : EvT) (it1 : EvI) (gv1 : EvG) (tv1 : EvT) (ee : EvE) (ws ws1 : List Nat) (E : En) (d : D) : Option (List D) := match gv d (wp ws E) with
  | none => none
  | some E1 => match tv E1 with
    | .ok b => if b = true then (match it1 E1 with
      | .ok items => lcR (lcT gv1 tv1 ee ws1 E1) items
      | _ => none) else some []
    | _ => none
def evLc2 (it : EvI) (gv : EvG) (tv : EvT) (it1 : EvI) (gv1 : EvG) (tv1 : EvT) (ee : EvE) (ws ws1 : List Nat) : EvE := fun E => (it E).bind fun items => match lcR (lc2T gv tv it1 gv1 tv1 ee ws ws1 E) items with
  | some l => if l.length ≤ 100000 then .ok (.fr l) else .no
  | none => .no
theorem Ok.other {B G0 G H : Hp} {Es : List Slot} {σ : L2.St} {Da : Addr} {u u0 : HO} (k : Ok K B G0 Es σ G H) (g : G Da = none) (b : B Da = none) (hu : H Da = some u0) (pl : Pl u0) (hn : ∀ (j : Nat) (s : Slot), Es[j]? = some s → s.mut = true → σ[j]? ≠ some (some (.ref Da)) ∧ Da ∉ s.inn) : Ok K B G0 Es σ G (upd H Da u) := by
  refine ⟨⟨k.bh.mut b (fun v z => by rw [hu] at z; cases z; exact pl), fun p o e => ?_, k.g0, k.nb⟩, fun t ht => ⟨(k.tb t ht).1.upd hu pl, (k.tb t ht).2⟩, P_of (P_len k.sl) fun j t o hs ho => ?_, k.ds, k.dn⟩
  · rw [upd_ne (ne_of_none e g)]; exact k.gh p o e
  · obtain ⟨o', eo, so⟩ := P_get k.sl hs
    rw [ho] at eo
    cases eo
    have np : ∀ p : Addr, t.mut = true → o = some (V.ref p) → p ≠ Da := fun p mt e z => (hn j t hs mt).1 (by rw [ho, e, z])
    cases t with
    | un => trivial
    | val r => exact so
    | own l =>
      obtain ⟨p, vs, e, b', g', h', pr⟩ := so
      exact ⟨p, vs, e, b', g', by rw [upd_ne (np p rfl e)]; exact h', pr⟩
    | dic l =>
      obtain ⟨p, vs, e, b', g', h', pr⟩ := so
      exact ⟨p, vs, e, b', g', by rw [upd_ne (np p rfl e)]; exact h', pr⟩
    | dct l =>
      obtain ⟨p, vs, e, b', g', h', pr⟩ := so
      exact ⟨p, vs, e, b', g', by rw [upd_ne (np p rfl e)]; exact h', pr⟩
    | thg q R =>
      obtain ⟨p, u, e, b', g', h', pr⟩ := so
      exact ⟨p, u, e, b', g', by rw [upd_ne (np p rfl e)]; exact h', pr⟩
    | ins p C l =>
      obtain ⟨dx, vs, e, b', g', h', pr⟩ := so
      exact ⟨dx, vs, e, b', g', by rw [upd_ne (np p rfl e)]; exact h', pr⟩
    | red l => exact so
    | scr ns => exact so
    | nst p qs L =>
      obtain ⟨e, b', g', h', q, nd⟩ := so
      refine ⟨e, b', g', by rw [upd_ne (np p rfl e)]; exact h', ?_, nd⟩
      have hq : ∀ q ∈ qs, q ≠ Da := fun q hq z => (hn j _ hs rfl).2 (by rw [← z]; exact hq)
      clear hs ho nd h' e b' g' np
      induction q with
      | nil => exact .nil
      | cons x t ih =>
        obtain ⟨b1, g1, vs, h1, r1⟩ := x
        exact .cons ⟨b1, g1, vs, by rw [upd_ne (hq _ List.mem_cons_self)]; exact h1, r1⟩ (ih fun q hq' => hq q (List.mem_cons_of_mem _ hq'))
end
end Ev
set_option maxHeartbeats 1000000
namespace Ev
variable [Ab.Tabl]
open PySem PySem.Spec PyProof.Rows L2 Ab
variable {Γ : Tb}
section
variable {X : Cx} {K : PySem.W.Frag} {ew : WX} {tg : Expr}
theorem s_setT {st : Stmt} {i : Nat} {te : TE} {ea : EvE} (h : PS X st (tAsg te (gName i))) (hi : ∀ σ H Q, T K Γ ew ea σ H Q → te σ H Q) : PS X st (TS' K Γ ew (evSet i ea)) := s_set (ps_imp h fun D σ H q => hi σ H _ q)
theorem s_setLc {st : Stmt} {i : Nat} {it : EvI} {vs : List Nat} {gv : EvG} {tv : EvT} {ee : EvE} {ws : List Nat} {ew1 : WX} (h : PS X st (tAsg (tLc (TI' K Γ ew it) (TG' K Γ vs gv) (TT' K Γ ew1 tv) (T K Γ ew1 ee) ws) (gName i))) (hvs : ∀ j ∈ vs, j ∈ ws) : PS X st (TS' K Γ ew (evSet i (evLc it gv tv ee ws))) := s_setT h fun _ _ _ q => tLc_run hvs q
def dcT (gv : EvG) (tv : EvT) (ek ee : EvE) (ws : List Nat) (E : En) (d : D) : Option (Option (Key × D)) := match gv d (wp ws E) with
  | none => none
  | some E1 => match tv E1 with
    | .ok b => if b = true then (match ek E1 with
      | .ok rk => match ee E1 with
        | .ok r => match keyS rk.arg, argD r with
          | some k, some d => some (some (k, d))
          | _, _ => none
        | _ => none
      | _ => none) else some none
    | _ => none
def dcR (f : D → Option (Option (Key × D))) : List D → List (Key × D) → Option (List (Key × D))
  | [], acc => some acc
  | d :: ds, acc => match f d with
    | some (some kd) => if acc.length < 100000 then dcR f ds (putD acc kd.1 kd.2) else none
    | some none => dcR f ds acc
    | none => none
def evDc (it : EvI) (gv : EvG) (tv : EvT) (ek ee : EvE) (ws : List Nat) : EvE := fun E => (it E).bind fun items => match dcR (dcT gv tv ek ee ws E) items [] with
  | some l => .ok (.frk l)
  | none => .no
theorem tDc_run {it : EvI} {vs : List Nat} {gv : EvG} {tv : EvT} {ek ee : EvE} {ws : List Nat} {ew1 : WX} (hvs : ∀ j ∈ vs, j ∈ ws) {σ : L2.St} {H : Hp} {Q : VK} (h : T K Γ ew (evDc it gv tv ek ee ws) σ H Q) : tDc (TI' K Γ ew it) (TG' K Γ vs gv) (TT' K Γ ew1 tv) (T K Γ ew1 ek) (T K Γ ew1 ee) ws σ H Q := by
  obtain ⟨B, G0, G, E, Es, hE, k, h⟩ := h
  unfold evDc at h
  refine TI'.at hE k (fun items e J G1 H1 x1 io => ?_) (fun c e => ?_) (fun e => ?_) <;> rw [e] at h <;> dsimp only [bind_ok, bind_ex, bind_no] at h
  · cases hl : dcR (dcT gv tv ek ee ws E) items [] with
    | none => rw [hl] at h; exact h.elim
    | some l =>
      rw [hl] at h
      dsimp only at h
      intro Da hD
      have k1 := k.ext x1
      have kh := k1.here
      let Pv : Nat → Hp → Prop := fun i H' => ∃ G vs acc, Ext G1 H1 G H' ∧ G Da = none ∧ H' Da = some (.dK vs) ∧ PK G vs (repk Γ acc) ∧ dcR (dcT gv tv ek ee ws E) (items.drop i) acc = some l
      refine ⟨fun i m H' => m = items.length - i ∧ i ≤ items.length ∧ Pv i H', ⟨items.length, by simp, Nat.zero_le _, G1, [], [], Ext.newO k1.gh hD, k1.gh.free hD, upd_same, by rw [repk]; exact .nil, by rw [List.drop_zero]; exact hl⟩, ?_⟩
      rintro i m H' ⟨rfl, hi, G', us, acc, x, gD, hD', pk, hr⟩
      have bh' : Grow B H' := k1.bh.trans x.h
      by_cases hlt : i < items.length
      · refine .inr ⟨io.goes i G' H' hlt x.g x.gh bh', Pv (i + 1), fun H2 p => ⟨items.length - (i + 1), by omega, rfl, hlt, p⟩, fun y H2 hy => ?_⟩
        obtain ⟨G2, d, x2, hd, rv⟩ := io.yields i G' H' y H2 hlt x.g x.gh bh' hy
        have hdr : items.drop i = d :: items.drop (i + 1) := by
          rw [List.getElem?_eq_getElem hlt] at hd
          cases hd
          exact List.drop_eq_getElem_cons hlt
        rw [hdr] at hr
        unfold dcR at hr
        cases ht : dcT gv tv ek ee ws E d with
        | none => rw [ht] at hr; cases hr
        | some od =>
          rw [ht] at hr
          unfold dcT at ht
          cases hg : gv d (wp ws E) with
          | none => rw [hg] at ht; cases ht
          | some E1 =>
            rw [hg] at ht
            dsimp only at ht
            have kw := Ok.wipe ((kh.ext x).ext x2) ws
            refine ⟨B, G1, G2, wp ws E, wipeE Es ws, d, E1, hg, er_wp hE ws, kw, rv, fun σ3 Es1 hE1 k3 hw _ => ⟨(wipe_sub hw hvs).trans wipe_wipe, ?_⟩⟩
            refine TT'.at hE1 k3 (fun b e3 G3 H3 x3 => ?_) (fun c e3 => ?_) (fun e3 => ?_) <;> rw [e3] at ht <;> dsimp only at ht
            · cases b with
              | false =>
                rw [if_neg Bool.false_ne_true] at ht ⊢
                cases ht
                have xx := x2.trans x3
                exact ⟨G3, us, acc, x.trans xx, xx.n Da (fx hD') gD, xx.h.at _ _ hD', pk.mono xx.g, hr⟩
              | true =>
                rw [if_pos rfl] at ht ⊢
                refine T.atA hE1 (k3.ext x3) (fun rk e4 vk G4 H4 x4 rak => ?_) (fun c e4 => ?_) (fun e4 => ?_) <;> rw [e4] at ht <;> dsimp only at ht
                · refine T.atA hE1 ((k3.ext x3).ext x4) (fun r e5 v G5 H5 x5 ra => ?_) (fun c e5 => ?_) (fun e5 => ?_) <;> rw [e5] at ht <;> dsimp only at ht
                  · cases hk : keyS rk.arg with
                    | none => rw [hk] at ht; cases ht
                    | some key =>
                      cases ha : argD r with
                      | none => rw [hk, ha] at ht; cases ht
                      | some de =>
                        rw [hk, ha] at ht
                        cases ht
                        dsimp only at hr
                        by_cases hn : acc.length < 100000
                        · rw [if_pos hn] at hr
                          have xx := ((x2.trans x3).trans x4).trans x5
                          have h5 := xx.h.at _ _ hD'
                          have g5 : G5 Da = none := xx.n Da (fx hD') gD
                          refine ⟨us, key, ra_key hk (RA.ext x5 rak), h5, by rw [pk_len pk, repk_len]; exact smallT hn, G5, _, putD acc key de, Ext.mut' (x.trans xx) hD g5 h5, g5, upd_same, ?_, hr⟩
                          rw [putD_rep]
                          exact PK.put key (ra_arg ha ra) (pk.mono xx.g)
                        · rw [if_neg hn] at hr; cases hr
                  · cases ht
                  · cases ht
                · cases ht
                · cases ht
            · cases ht
            · cases ht
      · have ei : i = items.length := by omega
        subst ei
        rw [List.drop_length] at hr
        have hr' : acc = l := by unfold dcR at hr; cases hr; rfl
        subst hr'
        exact .inl ⟨io.stops G' H' x.g x.gh bh', h _ G' H' (x1.trans x) ⟨Da, us, rfl, x1.h.free hD, gD, hD', pk⟩⟩
  · exact h
theorem q_dc {kx vx tg iter : Expr} {ifs : List Expr} {scope : Scope} {own : List (Str × Nat)} {pos : Pos} {it : EvI} {vs : List Nat} {gv : EvG} {tv : EvT} {ek ee : EvE} {ew1 : WX} (hc : X.calm = true) (hN : X.N.Nodup) (hi : PI X tg iter (TI' X.K Γ ew it)) (ok : BlkOk X.N X.env.scope scope own)
    (hg : ∀ (s : Shared) (H : Hp) (C : Addr) (cl : List (Str × Addr)) (fp : List Addr), PG (X.blk s H scope (compEnvC scope cl C X.env) fp) tg (TG' X.K Γ vs gv)) (ht : ∀ (s : Shared) (H : Hp) (C : Addr) (cl : List (Str × Addr)) (fp : List Addr), PTs (X.blk s H scope (compEnvC scope cl C X.env) fp) ifs (TT' X.K Γ ew1 tv))
    (hk : ∀ (s : Shared) (H : Hp) (C : Addr) (cl : List (Str × Addr)) (fp : List Addr), PE (X.blk s H scope (compEnvC scope cl C X.env) fp) kx (T X.K Γ ew1 ek))
    (he : ∀ (s : Shared) (H : Hp) (C : Addr) (cl : List (Str × Addr)) (fp : List Addr), PE (X.blk s H scope (compEnvC scope cl C X.env) fp) vx (T X.K Γ ew1 ee)) (hvs : ∀ j ∈ vs, j ∈ own.map (·.2)) (hs : ∀ x, foldedSetIterable iter X.env x = pure x := by intro _; rfl) :
    PE X (.DictComp kx vx [⟨tg, iter, ifs, 0⟩] scope pos) (T X.K Γ ew (evDc it gv tv ek ee (own.map (·.2)))) :=
  pe_imp (pe_dc hc hN hi ok hg ht hk he hs) fun σ H Q h => tDc_run hvs h
def fDIn (neg : Bool) (x y : Sl) : Option R := match keyS x, dcS y with
  | some k, some kvs => some (vB (if neg then !(lkD kvs k).isSome else (lkD kvs k).isSome))
  | _, _ => none
theorem s2_din (neg : Bool) : S2 K Γ (fun y x H Q => ∃ a o, x = .ref a ∧ DGet H a y o ∧ Q (.bl (if neg then !o.isSome else o.isSome)) H) (fDIn neg) := fun x y r e v w G H Q gh rx ry q => by
  unfold fDIn at e
  split at e
  · rename_i k kvs hk hd
    cases e
    obtain ⟨p, ws, e1, h1, pk⟩ := ra_dc hd gh ry
    have hg := dget_of (k := k) h1 pk
    cases h : lkD kvs k with
    | none =>
      rw [h] at hg q
      exact ⟨p, none, e1, by rw [ra_key hk rx]; exact hg, q _ G H (Ext.refl gh) (rp_bl.mpr rfl)⟩
    | some d =>
      rw [h] at hg q
      obtain ⟨u, g, ru⟩ := hg
      exact ⟨p, some u, e1, by rw [ra_key hk rx]; exact g, q _ G H (Ext.refl gh) (rp_bl.mpr rfl)⟩
  · cases e
abbrev fInA (neg : Bool) : Sl → Sl → Option R := fun x y => (fIn neg x y).or (fDIn neg x y)
theorem two_runsT {e : Expr} {P P' : R2} {f f' : Sl → Sl → Option R} {ea eb : EvE} (h1 : PT X e (fun σ H Q => T K Γ ew ea σ H fun v H1 => T K Γ ew eb σ H1 fun w H2 => P v w H2 fun z H3 => ∃ k, z = .bl k ∧ Q k H3)) (h2 : PT X e (fun σ H Q => T K Γ ew ea σ H fun v H1 => T K Γ ew eb σ H1 fun w H2 => P' v w H2 fun z H3 => ∃ k, z = .bl k ∧ Q k H3)) (hs : S2 K Γ P f) (hs' : S2 K Γ P' f') :
    PT X e (TT' K Γ ew (evTB (evBin (fun x y => (f x y).or (f' x y)) ea eb))) := by
  refine ⟨fun pins s σ H Q I h0 => ?_⟩
  have h := tb_run h0
  obtain ⟨B, G0, G, E, Es, hE, k, h⟩ := h
  by_cases hc : ∃ x y r, ea E = .ok x ∧ eb E = .ok y ∧ f x.arg y.arg = some r
  · obtain ⟨x, y, r, h3, h4, h5⟩ := hc
    refine h1.run pins s σ H Q I (bin_run (f := f) hs ⟨B, G0, G, E, Es, hE, k, ?_⟩)
    unfold evBin at h ⊢
    rw [h3, h4] at h ⊢
    dsimp only [bind_ok] at h ⊢
    rw [h5] at h ⊢
    exact h
  · refine h2.run pins s σ H Q I (bin_run (f := f') hs' ⟨B, G0, G, E, Es, hE, k, ?_⟩)
    unfold evBin at h ⊢
    cases h3 : ea E with
    | ok x =>
      cases h4 : eb E with
      | ok y =>
        rw [h3, h4] at h
        dsimp only [bind_ok] at h ⊢
        cases h5 : f x.arg y.arg with
        | some r => exact absurd ⟨x, y, r, h3, h4, h5⟩ hc
        | none => rw [h5] at h; exact h
      | ex c => rw [h3, h4] at h; exact h
      | no => rw [h3, h4] at h; exact h
    | ex c => rw [h3] at h; exact h
    | no => rw [h3] at h; exact h
theorem t_in {a b : Expr} {ea eb : EvE} {pos : Pos} {j : Nat} (hr : Room j X.A) (ha : PE X a (T X.K Γ ew ea)) (hb : PE X b (T X.K Γ ew eb)) (hm : behindInMarks .In b = false := by rfl) : PT X (.Compare a [.In] [b] pos) (TT' X.K Γ ew (evTB (evBin (fInA false) ea eb))) :=
  two_runsT (pt_cmpR op_in_seq ha hb hm) (pt_cmp (pc_din (units1 hr) ha hb) hm) (s2_in false) (s2_din false)
theorem t_nin {a b : Expr} {ea eb : EvE} {pos : Pos} {j : Nat} (hr : Room j X.A) (ha : PE X a (T X.K Γ ew ea)) (hb : PE X b (T X.K Γ ew eb)) (hm : behindInMarks .NotIn b = false := by rfl) : PT X (.Compare a [.NotIn] [b] pos) (TT' X.K Γ ew (evTB (evBin (fInA true) ea eb))) :=
  two_runsT (pt_cmpR op_notIn_seq ha hb hm) (pt_cmp (pc_dnotin (units1 hr) ha hb) hm) (s2_in true) (s2_din true)
theorem t_chain {op op' : CmpOp} {P P' : R2} {f g : Sl → Sl → Option R} {a b c : Expr} {ea eb ec : EvE} {pos : Pos} (ho : OpR X (compareOp op) P) (ho' : OpR X (compareOp op') P') (hs : S2 K Γ P f) (hs' : S2 K Γ P' g) (ha : PE X a (T K Γ ew ea)) (hb : PE X b (T K Γ ew eb)) (hc : PE X c (T K Γ ew ec))
    (hm : lastMarks [op, op'] [b, c] = false := by with_unfolding_all rfl) : PT X (.Compare a [op, op'] [b, c] pos) (TT' K Γ ew (evTB (evChain f g ea eb ec))) := pt_imp (pt_chain ho ho' ha hb hc hm) fun _ _ _ h => chain_run hs hs' (tb_run h)
end
end Ev
set_option maxHeartbeats 1000000
namespace Ev
variable [Ab.Tabl]
open PySem PySem.Spec PyProof.Rows L2 Ab
inductive Rx where
  | v (d : D)
  | own (l : List D)
  | ex (c : Str)
  | no
abbrev Fn := List Sl → Rx
def okArg : Sl → Bool
  | .val _ => true
  | .red _ => true
  | .scr _ => true
  | _ => false
def okArgs : List Sl → Bool
  | [] => true
  | s :: r => okArg s && okArgs r
theorem ra_argok {K : PySem.W.Frag} {Γ : Tb} {G H : Hp} {s : Sl} {v : V} (ho : okArg s = true) (r : RA K Γ G H s v) : ∃ t, SlR Γ s t ∧ ArgOk K G H t v := by
  cases s with
  | val d => exact ⟨_, rfl, r⟩
  | red l => exact ⟨_, rfl, r⟩
  | scr ns => exact ⟨_, rfl, r⟩
  | _ => cases ho
theorem ras_argok {K : PySem.W.Frag} {Γ : Tb} {G H : Hp} : ∀ {ss : List Sl} {vs : List V}, okArgs ss = true → Paired (RA K Γ G H) ss vs → ∃ ts, ER Γ ss ts ∧ Paired (ArgOk K G H) ts vs
  | [], _, _, .nil => ⟨[], .nil, .nil⟩
  | s :: ss, _, ho, .cons a t => by
    unfold okArgs at ho
    rw [Bool.and_eq_true] at ho
    obtain ⟨t1, h1, h2⟩ := ra_argok ho.1 a
    obtain ⟨ts, h3, h4⟩ := ras_argok ho.2 t
    exact ⟨t1 :: ts, .cons h1 h3, .cons h2 h4⟩
def outR (Γ : Tb) : Rx → Out
  | .v d => .inl (.val (rep Γ d))
  | .own l => .inl (.own (reps Γ l))
  | .ex c => .inr (Γ.cls c)
  | .no => .inl .un
structure Cl (cls : Str → Addr) (n : Nat) (F : Fn) where
  p0 : Addr
  as : List Sl
  ss : List Slot
  r : Rx
  er : ER ⟨cls, p0⟩ as ss
  ok : okArgs as = true
  hr : F as = r
  hn : r ≠ .no
  hl : as.length = n
def spF (K : PySem.W.Frag) (cls : Str → Addr) (n : Nat) (F : Fn) : Sp := spE K (X := Cl cls n F) (·.ss) (fun _ => True) (fun x => outR ⟨cls, x.p0⟩ x.r)
def runF (m : Nat) (ev : EvS) : Fn := fun as => match ev (as ++ List.replicate m .un) with
  | .nx _ => .v .non
  | .rt (.v d) => .v d
  | .rt (.own l) => .own l
  | .ex c _ => .ex c
  | _ => .no
def rsSl (Γ : Tb) : Rs → Slot
  | .v d => .val (rep Γ d)
  | .own l => .own (reps Γ l)
theorem rsR_eq {Γ : Tb} {r : Rs} {s : Slot} (h : RsR Γ r s) : s = rsSl Γ r := by
  cases r <;> exact h
theorem er_un {Γ : Tb} : ∀ m : Nat, ER Γ (List.replicate m .un) (List.replicate m Slot.un)
  | 0 => .nil
  | m + 1 => .cons rfl (er_un m)
theorem pss_any {ι : Type} {X : Cx} {st : List Stmt} {t : ι → TS} (h : ∀ i, PSs X st (t i)) : PSs X st (fun D σ H => ∃ i, t i D σ H) := ⟨fun pins s σ H D I ⟨i, q⟩ => (h i).run pins s σ H D I q⟩
theorem body_es {K : PySem.W.Frag} {cls : Str → Addr} {n m : Nat} {ev : EvS} {E : XK} (x : Cl cls n (runF m ev)) :
    ES K (x.ss ++ List.replicate m .un) (fun D σ H => ∃ p0 : Addr, TS' K ⟨cls, p0⟩ (fun c d _ H => E c d H) ev D σ H) (AX (outR ⟨cls, x.p0⟩ x.r) E) := by
  intro B G0 σ G H D k S
  have hr := x.hr
  have hn := x.hn
  unfold runF at hr
  refine ⟨x.p0, B, G0, G, x.as ++ List.replicate m .un, _, P_app x.er (er_un m), k, fun z => ?_, ?_⟩
  · rw [z] at hr; exact hn hr.symm
  · cases e : ev (x.as ++ List.replicate m .un) with
    | no => rw [e] at hr; exact absurd hr.symm hn
    | bk _ => rw [e] at hr; exact absurd hr.symm hn
    | ct _ => rw [e] at hr; exact absurd hr.symm hn
    | nx E1 =>
      rw [e] at hr
      refine ⟨fun Es2 σ2 G2 H2 _ k2 => S.nx Es2 σ2 G2 H2 ?_ k2, fun _ _ _ _ z => z.elim, fun _ _ _ _ z => z.elim, fun _ _ _ _ z => z.elim, fun _ _ _ _ _ z => z.elim, fun _ _ _ _ _ z => z.elim⟩
      show outR _ x.r = _
      rw [← hr]
      show Sum.inl (Slot.val (rep _ .non)) = _
      rw [rep]
    | ex c E1 =>
      rw [e] at hr
      refine ⟨fun _ _ _ _ z => z.elim, fun _ _ _ _ z => z.elim, fun _ _ _ _ z => z.elim, fun _ _ _ _ z => z.elim, fun _ _ _ _ _ z => z.elim, fun Es2 σ2 G2 H2 C z k2 => S.ex Es2 σ2 G2 H2 C ?_ k2⟩
      show outR _ x.r = _
      rw [← hr, z.2]; rfl
    | rt r =>
      rw [e] at hr
      have h1 : outR ⟨cls, x.p0⟩ x.r = .inl (rsSl ⟨cls, x.p0⟩ r) := by
        rw [← hr]; cases r <;> rfl
      refine ⟨fun _ _ _ _ z => z.elim, fun _ _ _ _ z => z.elim, fun _ _ _ _ z => z.elim, fun r2 v G2 H2 z o2 rv => S.rtV r2 v G2 H2 ?_ o2 rv, fun l p vs G2 H2 z o2 b g h pr => S.rtO l p vs G2 H2 ?_ o2 b g h pr, fun _ _ _ _ _ z => z.elim⟩
      · show outR _ x.r = _
        rw [h1, rsR_eq z]
      · show outR _ x.r = _
        rw [h1, rsR_eq z]
theorem cl_len {cls : Str → Addr} {n : Nat} {F : Fn} (x : Cl cls n F) : x.ss.length = n := by rw [← P_len x.er, x.hl]
section
variable {P : Program} {w : World} {K : PySem.W.Frag} {mg : Str → Option Value} {base : Heap} {cls : Str → Addr}
theorem calF {x : Str} {st : Stmt} {N ps : List Str} {k : Nat} {ev : EvS} (d : DefAt K mg x st ps) (S : FnScope N ps (defScope st))
    (hb : ∀ (p0 : Addr) (f : Addr) (cdv : Value) (A : Around) (outer : List Env) (s : Shared) (H : Hp) (E : XK), Room k (A.deeper (envOfC x (defScope st) s.heap.objs.size f cdv)) →
      PSs (cxOf (CX P w) P w K mg base N x (defScope st) f cdv A outer s H E) (defBody st) (TS' K ⟨cls, p0⟩ (fun c d _ H => E c d H) ev)) : CalX P w K mg base (k + 1) x (spF K cls ps.length (runF (N.length - ps.length) ev)) :=
  calX d S cl_len fun f cdv A outer s H E hr => ⟨_, pss_any fun p0 => hb p0 f cdv A outer s H E hr, fun x _ => body_es x⟩
theorem metF {C : Addr} {m qual : Str} {st : Stmt} {N ps : List Str} {k : Nat} {ev : EvS} (d : MetAt K C m qual st ps) (S : FnScope N ps (defScope st))
    (hb : ∀ (p0 : Addr) (f : Addr) (cdv : Value) (A : Around) (outer : List Env) (s : Shared) (H : Hp) (E : XK), Room k (A.deeper (envOfC qual (defScope st) s.heap.objs.size f cdv)) →
      PSs (cxOf (CX P w) P w K mg base N qual (defScope st) f cdv A outer s H E) (defBody st) (TS' K ⟨cls, p0⟩ (fun c d _ H => E c d H) ev)) : MetX P w K mg base (k + 1) C m (spF K cls ps.length (runF (N.length - ps.length) ev)) :=
  metX d S cl_len fun f cdv A outer s H E hr => ⟨_, pss_any fun p0 => hb p0 f cdv A outer s H E hr, fun x _ => body_es x⟩
inductive Ix where
  | ok (fs : List (Str × D))
  | ex (c : Str)
  | no
abbrev Fi := List Sl → Ix
def slfS : Option Sl → Option (Str × List (Str × D))
  | some (.slf c fs) => some (c, fs)
  | _ => none
def runI (c : Str) (m : Nat) (ev : EvS) : Fi := fun as => match ev (.ins c [] :: as ++ List.replicate m .un) with
  | .nx E => match slfS E[0]? with
    | some cf => if cf.1 = c then .ok cf.2 else .no
    | none => .no
  | .ex c _ => .ex c
  | _ => .no
theorem slfS_eq {o : Option Sl} {cf : Str × List (Str × D)} (h : slfS o = some cf) : o = some (.slf cf.1 cf.2) := by
  unfold slfS at h
  split at h
  · cases h; rfl
  · cases h
structure Cli (cls : Str → Addr) (n : Nat) (F : Fi) where
  as : List Sl
  ss : List Slot
  r : Ix
  q : Addr
  er : ER ⟨cls, q⟩ as ss
  ok : okArgs as = true
  hr : F as = r
  hn : r ≠ .no
  hl : as.length = n
def ixF (Γ : Tb) : Ix → List (Str × AbsV)
  | .ok fs => repf Γ fs
  | _ => []
def ixB (cls : Str → Addr) : Ix → Option Addr
  | .ex c => some (cls c)
  | _ => none
def spM (K : PySem.W.Frag) (cls : Str → Addr) (c : Str) (n : Nat) (F : Fi) : Sp := spIE K (cls c) (X := Cli cls n F) (·.ss) (fun _ => True) (fun x => ixF ⟨cls, x.q⟩ x.r) (fun x => ixB cls x.r)
mutual
theorem rep_self {cls : Str → Addr} {p q : Addr} : ∀ d : D, rep ⟨cls, p⟩ d = rep ⟨cls, q⟩ d
  | .non => by rw [rep, rep]
  | .bl b => by rw [rep, rep]
  | .int i => by rw [rep, rep]
  | .str s => by rw [rep, rep]
  | .lst l => by rw [rep, rep, reps_self l]
  | .tup l => by rw [rep, rep, reps_self l]
  | .dic l => by rw [rep, rep, repk_self l]
  | .dct l => by rw [rep, rep, rept_self l]
  | .obj c fs => by rw [rep, rep, repf_self fs]
  | .rng n => by rw [rep, rep]
  | .tpk l => by rw [rep, rep, reps_self l]
theorem reps_self {cls : Str → Addr} {p q : Addr} : ∀ l : List D, reps ⟨cls, p⟩ l = reps ⟨cls, q⟩ l
  | [] => by rw [reps, reps]
  | d :: ds => by rw [reps, reps, rep_self d, reps_self ds]
theorem repk_self {cls : Str → Addr} {p q : Addr} : ∀ l : List (Key × D), repk ⟨cls, p⟩ l = repk ⟨cls, q⟩ l
  | [] => by rw [repk, repk]
  | (k, d) :: ds => by rw [repk, repk, rep_self d, repk_self ds]
theorem rept_self {cls : Str → Addr} {p q : Addr} : ∀ l : List (List Key × D), rept ⟨cls, p⟩ l = rept ⟨cls, q⟩ l
  | [] => by rw [rept, rept]
  | (k, d) :: ds => by rw [rept, rept, rep_self d, rept_self ds]
theorem repf_self {cls : Str → Addr} {p q : Addr} : ∀ l : List (Str × D), repf ⟨cls, p⟩ l = repf ⟨cls, q⟩ l
  | [] => by rw [repf, repf]
  | (k, d) :: ds => by rw [repf, repf, rep_self d, repf_self ds]
end
theorem er_self {p q : Addr} : ∀ {as : List Sl} {ss : List Slot}, okArgs as = true → ER ⟨cls, p⟩ as ss → ER ⟨cls, q⟩ as ss
  | [], _, _, .nil => .nil
  | s :: as, _, ho, .cons a t => by
    unfold okArgs at ho
    rw [Bool.and_eq_true] at ho
    refine .cons ?_ (er_self ho.2 t)
    cases s with
    | val d => show _ = Slot.val _; rw [rep_self (p := q) (q := p)]; exact a
    | red l => show _ = Slot.red _; rw [reps_self (p := q) (q := p)]; exact a
    | scr ns => exact a
    | _ => cases ho.1
theorem makF {x c : Str} {qual : Str} {st : Stmt} {N ps : List Str} {k : Nat} {ev : EvS} (d : MakAt K mg (cls c) x qual st ps) (S : FnScope N ps (defScope st)) (hps : ps ≠ [])
    (hb : ∀ (p0 : Addr) (f : Addr) (cdv : Value) (A : Around) (outer : List Env) (s : Shared) (H : Hp) (E : XK), Room k (A.deeper (envOfC qual (defScope st) s.heap.objs.size f cdv)) →
      PSs (cxOf (CX P w) P w K mg base N qual (defScope st) f cdv A outer s H E) (defBody st) (TS' K ⟨cls, p0⟩ (fun c d _ H => E c d H) ev)) : MakX P w K mg base (k + 1) x (cls c) (spM K cls c (ps.length - 1) (runI c (N.length - ps.length) ev)) := by
  have hpl : 0 < ps.length := List.length_pos_iff.mpr hps
  refine makX d S (fun x => by show x.ss.length + 1 = _; rw [← P_len x.er, x.hl]; omega) fun f cdv A outer s H E hr => ⟨_, pss_any fun p0 => hb p0 f cdv A outer s H E hr, fun p x _ => ?_⟩
  intro B G0 σ G H D k S
  have hr := x.hr
  have hn := x.hn
  unfold runI at hr
  refine ⟨p, B, G0, G, .ins c [] :: x.as ++ List.replicate (N.length - ps.length) .un, _, ?_, k, fun z => ?_, ?_⟩
  · refine P_app (.cons ?_ (er_self x.ok x.er)) (er_un _)
    show Slot.ins p (cls c) [] = Slot.ins p (cls c) (repf _ [])
    rw [repf]
  · rw [z] at hr; exact hn hr.symm
  · cases e : ev (.ins c [] :: x.as ++ List.replicate (N.length - ps.length) .un) with
    | no => rw [e] at hr; exact absurd hr.symm hn
    | bk _ => rw [e] at hr; exact absurd hr.symm hn
    | ct _ => rw [e] at hr; exact absurd hr.symm hn
    | rt _ => rw [e] at hr; exact absurd hr.symm hn
    | ex c2 E1 =>
      rw [e] at hr
      refine ⟨fun _ _ _ _ z => z.elim, fun _ _ _ _ z => z.elim, fun _ _ _ _ z => z.elim, fun _ _ _ _ z => z.elim, fun _ _ _ _ _ z => z.elim, fun Es2 σ2 G2 H2 C z k2 => S.ex Es2 σ2 G2 H2 C ?_ k2⟩
      show ixB cls x.r = _
      rw [← hr, z.2]; rfl
    | nx E1 =>
      rw [e] at hr
      dsimp only at hr
      refine ⟨fun Es2 σ2 G2 H2 z k2 => S.nx Es2 σ2 G2 H2 ?_ k2, fun _ _ _ _ z => z.elim, fun _ _ _ _ z => z.elim, fun _ _ _ _ z => z.elim, fun _ _ _ _ _ z => z.elim, fun _ _ _ _ _ z => z.elim⟩
      split at hr
      · rename_i cf e0
        obtain ⟨c', fs⟩ := cf
        split at hr
        · rename_i hc
          dsimp only at hc
          subst hc
          obtain ⟨t, e1, rs⟩ := P_get z (slfS_eq e0)
          cases rs
          refine ⟨by show ixB cls x.r = none; rw [← hr]; rfl, ?_⟩
          rw [e1]
          show some (Slot.val (iaA p (cls c') (repf ⟨cls, p⟩ fs))) = some (Slot.val (iaA p (cls c') (ixF ⟨cls, x.q⟩ x.r)))
          rw [← hr]
          show _ = some (Slot.val (iaA p (cls c') (repf ⟨cls, x.q⟩ fs)))
          rw [repf_self (p := p) (q := x.q)]
        · exact absurd hr.symm hn
      · exact absurd hr.symm hn
end
section
variable {Γ : Tb} {X : Cx} {K : PySem.W.Frag} {ew : WX}
def apF (F : Fn) (as : List Sl) : Res R := if okArgs as = true then (match F as with
  | .v d => .ok (.s (.val d))
  | .own l => .ok (.fr l)
  | .ex c => .ex c
  | .no => .no) else .no
def nox {α : Type} : Res α → Res α
  | .ex _ => .no
  | r => r
def evCall (F : Fn) (ea : EvA) : EvE := fun E => (ea E).bind fun as => apF F as
def evCallN (F : Fn) (ea : EvA) : EvE := fun E => (ea E).bind fun as => nox (apF F as)
theorem ap_run {n : Nat} {F : Fn} {as : List Sl} {G H : Hp} {vs : List V} {Q : VK} {Ex : XK} (gh : Gd K G H) (ra : Paired (RA K Γ G H) as vs) (hl : as.length = n)
    (h : match apF F as with
      | .ok r => ∀ v G' H', Ext G H G' H' → RR K Γ H G' H' r v → Q v H'
      | .ex c => ∀ G' H', Ext G H G' H' → Ex (.ref (Γ.cls c)) none H'
      | .no => False) : spF K Γ.cls n F vs H Q Ex := by
  unfold apF at h
  by_cases ho : okArgs as = true
  · rw [if_pos ho] at h
    obtain ⟨ts, h1, h2⟩ := ras_argok ho ra
    cases hF : F as with
    | no => rw [hF] at h; exact h.elim
    | v d =>
      rw [hF] at h
      refine ⟨⟨Γ.self, as, ts, _, h1, ho, hF, fun z => (nomatch z), hl⟩, G, trivial, gh, h2, fun r e v G' H' x rv => ?_, fun C e => ?_⟩
      · cases e
        exact h v G' H' x rv
      · cases e
    | own l =>
      rw [hF] at h
      refine ⟨⟨Γ.self, as, ts, _, h1, ho, hF, fun z => (nomatch z), hl⟩, G, trivial, gh, h2, fun r e v G' H' x rv => ?_, fun C e => ?_⟩
      · cases e
        obtain ⟨p, ws, e1, h0, g, hh, pr⟩ := rv
        exact h v G' H' x ⟨p, ws, e1, h0, g, hh, pr⟩
      · cases e
    | ex c =>
      rw [hF] at h
      refine ⟨⟨Γ.self, as, ts, _, h1, ho, hF, fun z => (nomatch z), hl⟩, G, trivial, gh, h2, fun r e => ?_, fun C e G' H' x => ?_⟩
      · cases e
      · cases e
        exact h G' H' x
  · rw [if_neg ho] at h; exact h.elim
theorem call_run {n : Nat} {F : Fn} {ea : EvA} {Ex : XK} {σ : L2.St} {H : Hp} {Q : VK} (hew : ew = fun c d _ H => Ex c d H) (hl : ∀ E as, ea E = .ok as → as.length = n) (h : T K Γ ew (evCall F ea) σ H Q) : tCall (spF K Γ.cls n F) [] Ex (TA' K Γ ew ea) σ H Q := by
  obtain ⟨B, G0, G, E, Es, hE, k, h⟩ := h
  unfold evCall at h
  refine ⟨B, G0, G, E, Es, hE, k, ?_⟩
  cases e : ea E with
  | no => rw [e] at h; exact h
  | ex c => rw [e] at h; exact h
  | ok as =>
    rw [e] at h
    dsimp only [bind_ok] at h ⊢
    intro vs G1 H1 x1 ra
    rw [List.append_nil]
    refine ap_run (k.gd.ext x1) ra (hl E as e) ?_
    cases hA : apF F as with
    | no => rw [hA] at h; exact h
    | ok r => rw [hA] at h; exact fun v G' H' x rr => h v G' H' (x1.trans x) (rr.back x1)
    | ex c => rw [hA, hew] at h; exact fun G' H' x => h G' H' (x1.trans x)
theorem callN_run {n : Nat} {F : Fn} {ea : EvA} {σ : L2.St} {H : Hp} {Q : VK} (hl : ∀ E as, ea E = .ok as → as.length = n) (h : T K Γ ew (evCallN F ea) σ H Q) : tCall (spF K Γ.cls n F) [] E0 (TA' K Γ ew ea) σ H Q := by
  obtain ⟨B, G0, G, E, Es, hE, k, h⟩ := h
  unfold evCallN at h
  refine ⟨B, G0, G, E, Es, hE, k, ?_⟩
  cases e : ea E with
  | no => rw [e] at h; exact h
  | ex c => rw [e] at h; exact h
  | ok as =>
    rw [e] at h
    dsimp only [bind_ok] at h ⊢
    intro vs G1 H1 x1 ra
    rw [List.append_nil]
    refine ap_run (k.gd.ext x1) ra (hl E as e) ?_
    cases hA : apF F as with
    | no => rw [hA] at h; exact h
    | ok r => rw [hA] at h; exact fun v G' H' x rr => h v G' H' (x1.trans x) (rr.back x1)
    | ex c => rw [hA] at h; exact h.elim
theorem al_nil : ∀ E as, evNil E = .ok as → as.length = 0 := fun E as h => by cases h; rfl
theorem al_cons {ea : EvE} {es : EvA} {n : Nat} (h : ∀ E as, es E = .ok as → as.length = n) : ∀ E as, evCons ea es E = .ok as → as.length = n + 1 := fun E as e => by
  unfold evCons at e
  cases h1 : ea E with
  | ok x =>
    rw [h1] at e
    dsimp only [bind_ok] at e
    cases h2 : es E with
    | ok xs => rw [h2] at e; cases e; rw [List.length_cons, h _ _ h2]
    | ex c => rw [h2] at e; cases e
    | no => rw [h2] at e; cases e
  | ex c => rw [h1] at e; cases e
  | no => rw [h1] at e; cases e
section
variable {e o : Expr} {es : List Expr} {ea : EvA} {p pos apos : Pos} {x m : Str} {j k n : Nat} {F : Fn} {Ex : XK}
theorem q_call (c : CalX X.prog X.w X.K X.mg X.base k x (spF X.K Γ.cls n F)) (hr : Room j X.A) (hk : k ≤ j) (hg : Gl X x) (hx : Passes (CX X.prog X.w) X Ex) (ha : PA X (e :: es) (TA' X.K Γ (fun c d _ H => Ex c d H) ea)) (hl : ∀ E as, ea E = .ok as → as.length = n)
    (hdb : (x == ("__debug__" : Str)) = false := by decide) (he : starEach (e :: es) X.env = (false, eval e X.env) :: starEach es X.env := by rfl) (hpl : (backTo pos (starEach es X.env)).any (·.1) = false := by rfl) :
    PE X (.Call (.Name x p) (e :: es) [] pos) (T X.K Γ (fun c d _ H => Ex c d H) (evCall F ea)) := pe_imp (pe_cx c hr hk hg hx ha hdb he hpl) fun _ _ _ h => call_run rfl hl h
theorem q_callN (c : CalX X.prog X.w X.K X.mg X.base k x (spF X.K Γ.cls n F)) (hr : Room j X.A) (hk : k ≤ j) (hg : Gl X x) (ha : PA X (e :: es) (TA' X.K Γ ew ea)) (hl : ∀ E as, ea E = .ok as → as.length = n)
    (hdb : (x == ("__debug__" : Str)) = false := by decide) (he : starEach (e :: es) X.env = (false, eval e X.env) :: starEach es X.env := by rfl) (hpl : (backTo pos (starEach es X.env)).any (·.1) = false := by rfl) :
    PE X (.Call (.Name x p) (e :: es) [] pos) (T X.K Γ ew (evCallN F ea)) := pe_imp (pe_cx c hr hk hg passL ha hdb he hpl) fun _ _ _ h => callN_run hl h
def lkF (tbl : List (Str × Fn)) (c : Str) : Option Fn := (tbl.find? fun cf => decide (cf.1 = c)).map (·.2)
def obS : Sl → Option (Str × List (Str × D))
  | .val (.obj c fs) => some (c, fs)
  | _ => none
theorem obS_eq {x : Sl} {cf : Str × List (Str × D)} (h : obS x = some cf) : x = .val (.obj cf.1 cf.2) := by
  unfold obS at h
  split at h
  · cases h; rfl
  · cases h
def dsp (m : Str) (tbl : List (Str × Fn)) (o : Sl) : Option Fn := (obS o).bind fun cf => (lkF tbl cf.1).bind fun F => if (lkD cf.2 m).isNone = true then some F else none
def evMeth (m : Str) (tbl : List (Str × Fn)) (eo : EvE) (ea : EvA) : EvE := fun E => (eo E).bind fun o => (lift (dsp m tbl o.arg)).bind fun F => (ea E).bind fun as => apF F (o.arg :: as)
def evMethN (m : Str) (tbl : List (Str × Fn)) (eo : EvE) (ea : EvA) : EvE := fun E => (eo E).bind fun o => (lift (dsp m tbl o.arg)).bind fun F => (ea E).bind fun as => nox (apF F (o.arg :: as))
theorem dsp_eq {m : Str} {tbl : List (Str × Fn)} {o : Sl} {F : Fn} (h : dsp m tbl o = some F) : ∃ c fs, o = .val (.obj c fs) ∧ lkF tbl c = some F ∧ lkD fs m = none := by
  unfold dsp at h
  cases h1 : obS o with
  | none => rw [h1] at h; cases h
  | some cf =>
    rw [h1] at h
    dsimp only [Option.bind_some] at h
    cases h2 : lkF tbl cf.1 with
    | none => rw [h2] at h; cases h
    | some F' =>
      rw [h2] at h
      dsimp only [Option.bind_some] at h
      split at h
      · rename_i h3
        cases h
        exact ⟨cf.1, cf.2, obS_eq h1, h2, Option.isNone_iff_eq_none.mp h3⟩
      · cases h
theorem lkF_mem {tbl : List (Str × Fn)} {c : Str} {F : Fn} (h : lkF tbl c = some F) : (c, F) ∈ tbl := by
  unfold lkF at h
  cases hf : tbl.find? fun cf => decide (cf.1 = c) with
  | none => rw [hf] at h; cases h
  | some cf =>
    rw [hf] at h
    have h1 := List.find?_some hf
    have h2 := List.mem_of_find?_eq_some hf
    have : cf.1 = c := of_decide_eq_true h1
    cases h
    rw [← this]
    exact h2
theorem meth_run {n : Nat} {tbl : List (Str × Fn)} {m : Str} {eo : EvE} {ea : EvA} {Ex : XK} {σ : L2.St} {H : Hp} {Q : VK} (hew : ew = fun c d _ H => Ex c d H) (hl : ∀ E as, ea E = .ok as → as.length + 1 = n) (hne : tbl ≠ []) (h : T K Γ ew (evMeth m tbl eo ea) σ H Q) : ∃ cF : { cF // cF ∈ tbl }, tMeth (Γ.cls cF.1.1) m (spF K Γ.cls n cF.1.2) [] Ex (T K Γ ew eo) (TA' K Γ ew ea) σ H Q := by
  obtain ⟨B, G0, G, E, Es, hE, k, h⟩ := h
  unfold evMeth at h
  cases e : eo E with
  | no => rw [e] at h; exact h.elim
  | ex c =>
    rw [e] at h
    cases tbl with
    | nil => exact absurd rfl hne
    | cons cF tl => exact ⟨⟨cF, List.mem_cons_self⟩, B, G0, G, E, Es, hE, k, by rw [e]; exact h⟩
  | ok o =>
    rw [e] at h
    dsimp only [bind_ok] at h
    cases hF : dsp m tbl o.arg with
    | none => rw [hF] at h; exact h.elim
    | some F =>
      rw [hF] at h
      dsimp only [lift_some, bind_ok] at h
      obtain ⟨c, fs, ho, hF', hm⟩ := dsp_eq hF
      refine ⟨⟨(c, F), lkF_mem hF'⟩, T.atA hE k (fun r e' v G1 H1 x1 ra => ?_) (fun c' e' => by rw [e] at e'; cases e') (by rw [e]; exact fun z => nomatch z)⟩
      rw [e] at e'; cases e'
      rw [ho] at ra h
      obtain ⟨p, dx, ws, e1, g, pk⟩ := rp_obj.mp ra
      have hlk := PK.look m pk
      rw [lkF_rep, hm] at hlk
      refine ⟨p, dx, ws, e1, x1.gh _ _ g, by rw [lookup_find]; exact hlk, ?_⟩
      refine ⟨B, G0, G1, E, Es, hE, k.ext x1, ?_⟩
      cases e2 : ea E with
      | no => rw [e2] at h; exact h.elim
      | ex c' => rw [e2] at h; exact fun G2 H2 x2 => h G2 H2 (x1.trans x2)
      | ok as =>
        rw [e2] at h
        dsimp only [bind_ok] at h ⊢
        intro vs G2 H2 x2 rs
        rw [List.append_nil]
        refine ap_run (as := .val (.obj c fs) :: as) (k.gd.ext (x1.trans x2)) (.cons (RA.ext (s := .val (.obj c fs)) x2 ra) rs) (by rw [List.length_cons]; exact hl E as e2) ?_
        cases hA : apF F (.val (.obj c fs) :: as) with
        | no => rw [hA] at h; exact h
        | ok r => rw [hA] at h; exact fun v G' H' x rr => h v G' H' ((x1.trans x2).trans x) (rr.back (x1.trans x2))
        | ex c => rw [hA, hew] at h; exact fun G' H' x => h G' H' ((x1.trans x2).trans x)
theorem methN_run {n : Nat} {tbl : List (Str × Fn)} {m : Str} {eo : EvE} {ea : EvA} {σ : L2.St} {H : Hp} {Q : VK} (hl : ∀ E as, ea E = .ok as → as.length + 1 = n) (hne : tbl ≠ []) (h : T K Γ ew (evMethN m tbl eo ea) σ H Q) : ∃ cF : { cF // cF ∈ tbl }, tMeth (Γ.cls cF.1.1) m (spF K Γ.cls n cF.1.2) [] E0 (T K Γ ew eo) (TA' K Γ ew ea) σ H Q := by
  obtain ⟨B, G0, G, E, Es, hE, k, h⟩ := h
  unfold evMethN at h
  cases e : eo E with
  | no => rw [e] at h; exact h.elim
  | ex c =>
    rw [e] at h
    cases tbl with
    | nil => exact absurd rfl hne
    | cons cF tl => exact ⟨⟨cF, List.mem_cons_self⟩, B, G0, G, E, Es, hE, k, by rw [e]; exact h⟩
  | ok o =>
    rw [e] at h
    dsimp only [bind_ok] at h
    cases hF : dsp m tbl o.arg with
    | none => rw [hF] at h; exact h.elim
    | some F =>
      rw [hF] at h
      dsimp only [lift_some, bind_ok] at h
      obtain ⟨c, fs, ho, hF', hm⟩ := dsp_eq hF
      refine ⟨⟨(c, F), lkF_mem hF'⟩, T.atA hE k (fun r e' v G1 H1 x1 ra => ?_) (fun c' e' => by rw [e] at e'; cases e') (by rw [e]; exact fun z => nomatch z)⟩
      rw [e] at e'; cases e'
      rw [ho] at ra h
      obtain ⟨p, dx, ws, e1, g, pk⟩ := rp_obj.mp ra
      have hlk := PK.look m pk
      rw [lkF_rep, hm] at hlk
      refine ⟨p, dx, ws, e1, x1.gh _ _ g, by rw [lookup_find]; exact hlk, ?_⟩
      refine ⟨B, G0, G1, E, Es, hE, k.ext x1, ?_⟩
      cases e2 : ea E with
      | no => rw [e2] at h; exact h.elim
      | ex c' => rw [e2] at h; exact fun G2 H2 x2 => h G2 H2 (x1.trans x2)
      | ok as =>
        rw [e2] at h
        dsimp only [bind_ok] at h ⊢
        intro vs G2 H2 x2 rs
        rw [List.append_nil]
        refine ap_run (as := .val (.obj c fs) :: as) (k.gd.ext (x1.trans x2)) (.cons (RA.ext (s := .val (.obj c fs)) x2 ra) rs) (by rw [List.length_cons]; exact hl E as e2) ?_
        cases hA : apF F (.val (.obj c fs) :: as) with
        | no => rw [hA] at h; exact h
        | ok r => rw [hA] at h; exact fun v G' H' x rr => h v G' H' ((x1.trans x2).trans x) (rr.back (x1.trans x2))
        | ex c => rw [hA] at h; exact h.elim
section
variable {pl : Sem Bool} {eo : EvE} {tbl : List (Str × Fn)}
theorem q_methN (c : ∀ cF ∈ tbl, MetX X.prog X.w X.K X.mg X.base k (Γ.cls cF.1) m (spF X.K Γ.cls n cF.2)) (hne : tbl ≠ []) (hr : Room j X.A) (hk : k ≤ j) (ho : PE X o (T X.K Γ ew eo)) (ha : PA X (e :: es) (TA' X.K Γ ew ea)) (hl : ∀ E as, ea E = .ok as → as.length + 1 = n)
    (hst : starEach (e :: es) X.env = (false, eval e X.env) :: starEach es X.env := by rfl) (hpl : (backTo pos (starEach es X.env)).any (·.1) = false := by rfl)
    (ht : eval (.Call (.Attribute o m apos) (e :: es) [] pos) X.env = (do
      let ov ← eval o X.env
      standAt apos.atName
      let (f, first) ← holding [ov] (getMethod ov m pl)
      callWith pos f first (backTo pos (starEach (e :: es) X.env)) (backToKw pos (keywordEach [] X.env))) := by rfl) :
    PE X (.Call (.Attribute o m apos) (e :: es) [] pos) (T X.K Γ ew (evMethN m tbl eo ea)) :=
  pe_imp (pe_any fun cF : { cF // cF ∈ tbl } => by
    obtain ⟨cl, f, fd, ps, F, hm, b⟩ := (c cF.1 cF.2).ex
    exact pe_meth (dvs := []) ho cl hm F (hr.mono hk) b .nil passL ha hst hpl ht) fun _ _ _ h => methN_run hl hne h
theorem q_methN0 (c : ∀ cF ∈ tbl, MetX X.prog X.w X.K X.mg X.base k (Γ.cls cF.1) m (spF X.K Γ.cls 1 cF.2)) (hne : tbl ≠ []) (hr : Room j X.A) (hk : k ≤ j) (ho : PE X o (T X.K Γ ew eo))
    (ht : eval (.Call (.Attribute o m apos) [] [] pos) X.env = (do
      let ov ← eval o X.env
      standAt apos.atName
      let (f, first) ← holding [ov] (getMethod ov m pl)
      callWith pos f first (backTo pos (starEach [] X.env)) (backToKw pos (keywordEach [] X.env))) := by rfl) :
    PE X (.Call (.Attribute o m apos) [] [] pos) (T X.K Γ ew (evMethN m tbl eo evNil)) :=
  pe_imp (pe_any fun cF : { cF // cF ∈ tbl } => by
    obtain ⟨cl, f, fd, ps, F, hm, b⟩ := (c cF.1 cF.2).ex
    exact pe_meth0 (dvs := []) ho cl hm F (hr.mono hk) b .nil passL ht) fun σ H Q h => by
      obtain ⟨cF, h⟩ := methN_run (n := 1) (fun E as e => by cases e; rfl) hne h
      refine ⟨cF, ?_⟩
      obtain ⟨B, G0, G, E, Es, hE, k, h⟩ := h
      refine ⟨B, G0, G, E, Es, hE, k, ?_⟩
      cases e : eo E with
      | no => rw [e] at h; exact h
      | ex c => rw [e] at h; exact h
      | ok r =>
        rw [e] at h
        intro v G1 H1 x1 rr
        obtain ⟨a, dx, fs, e1, e2, e3, B', G0', G', E', Es', hE', k', h'⟩ := h v G1 H1 x1 rr
        exact ⟨a, dx, fs, e1, e2, e3, h' [] G' H1 (Ext.refl k'.gh) .nil⟩
theorem q_meth0 (c : ∀ cF ∈ tbl, MetX X.prog X.w X.K X.mg X.base k (Γ.cls cF.1) m (spF X.K Γ.cls 1 cF.2)) (hne : tbl ≠ []) (hr : Room j X.A) (hk : k ≤ j) (hx : Passes (CX X.prog X.w) X Ex) (ho : PE X o (T X.K Γ (fun c d _ H => Ex c d H) eo))
    (ht : eval (.Call (.Attribute o m apos) [] [] pos) X.env = (do
      let ov ← eval o X.env
      standAt apos.atName
      let (f, first) ← holding [ov] (getMethod ov m pl)
      callWith pos f first (backTo pos (starEach [] X.env)) (backToKw pos (keywordEach [] X.env))) := by rfl) :
    PE X (.Call (.Attribute o m apos) [] [] pos) (T X.K Γ (fun c d _ H => Ex c d H) (evMeth m tbl eo evNil)) :=
  pe_imp (pe_any fun cF : { cF // cF ∈ tbl } => by
    obtain ⟨cl, f, fd, ps, F, hm, b⟩ := (c cF.1 cF.2).ex
    exact pe_meth0 (dvs := []) ho cl hm F (hr.mono hk) b .nil hx ht) fun σ H Q h => by
      obtain ⟨cF, h⟩ := meth_run (n := 1) rfl (fun E as e => by cases e; rfl) hne h
      refine ⟨cF, ?_⟩
      obtain ⟨B, G0, G, E, Es, hE, k, h⟩ := h
      refine ⟨B, G0, G, E, Es, hE, k, ?_⟩
      cases e : eo E with
      | no => rw [e] at h; exact h
      | ex c => rw [e] at h; exact h
      | ok r =>
        rw [e] at h
        intro v G1 H1 x1 rr
        obtain ⟨a, dx, fs, e1, e2, e3, B', G0', G', E', Es', hE', k', h'⟩ := h v G1 H1 x1 rr
        exact ⟨a, dx, fs, e1, e2, e3, h' [] G' H1 (Ext.refl k'.gh) .nil⟩
end
def apI (c : Str) (F : Fi) (as : List Sl) : Res R := if okArgs as = true then (match F as with
  | .ok fs => .ok (.s (.val (.obj c fs)))
  | .ex c => .ex c
  | .no => .no) else .no
def evMake (c : Str) (F : Fi) (ea : EvA) : EvE := fun E => (ea E).bind fun as => apI c F as
def evMakeN (c : Str) (F : Fi) (ea : EvA) : EvE := fun E => (ea E).bind fun as => nox (apI c F as)
theorem mk_run {n : Nat} {c : Str} {F : Fi} {as : List Sl} {G H : Hp} {vs : List V} {Q : VK} {Ex : XK} (gh : Gd K G H) (ra : Paired (RA K Γ G H) as vs) (hl : as.length = n)
    (h : match apI c F as with
      | .ok r => ∀ v G' H', Ext G H G' H' → RR K Γ H G' H' r v → Q v H'
      | .ex c => ∀ G' H', Ext G H G' H' → Ex (.ref (Γ.cls c)) none H'
      | .no => False) : ∀ x dx, H x = none → H dx = none → dx ≠ x → spM K Γ.cls c n F (.ref x :: (vs ++ [])) (upd (upd H dx (.own x)) x (.ins (Γ.cls c) dx [])) (fun v H2 => v = .non ∧ Q (.ref x) H2) Ex := by
  intro x dx np nd ne
  rw [List.append_nil]
  unfold apI at h
  by_cases ho : okArgs as = true
  · rw [if_pos ho] at h
    obtain ⟨ts, h1, h2⟩ := ras_argok ho ra
    cases hF : F as with
    | no => rw [hF] at h; exact h.elim
    | ok fs =>
      rw [hF] at h
      refine ⟨⟨as, ts, _, Γ.self, h1, ho, hF, fun z => (nomatch z), hl⟩, x, dx, H, G, vs, rfl, np, nd, ne, rfl, trivial, gh, h2, fun _ G' H' e rv => ⟨rfl, h _ G' H' e ?_⟩, fun D z => (nomatch z)⟩
      obtain ⟨p, dx', ws, e1, g, pk⟩ := rv
      exact rp_obj.mpr ⟨p, dx', ws, e1, g, pk⟩
    | ex c2 =>
      rw [hF] at h
      refine ⟨⟨as, ts, _, Γ.self, h1, ho, hF, fun z => (nomatch z), hl⟩, x, dx, H, G, vs, rfl, np, nd, ne, rfl, trivial, gh, h2, fun z => (nomatch z), fun D z G' H' e => ?_⟩
      cases z
      exact h G' H' e
  · rw [if_neg ho] at h; exact h.elim
theorem make_run {n : Nat} {c : Str} {F : Fi} {ea : EvA} {Ex : XK} {σ : L2.St} {H : Hp} {Q : VK} (hew : ew = fun c d _ H => Ex c d H) (hl : ∀ E as, ea E = .ok as → as.length = n) (h : T K Γ ew (evMake c F ea) σ H Q) : tMake (Γ.cls c) (spM K Γ.cls c n F) [] Ex (TA' K Γ ew ea) σ H Q := by
  obtain ⟨B, G0, G, E, Es, hE, k, h⟩ := h
  unfold evMake at h
  refine ⟨B, G0, G, E, Es, hE, k, ?_⟩
  cases e : ea E with
  | no => rw [e] at h; exact h
  | ex c => rw [e] at h; exact h
  | ok as =>
    rw [e] at h
    dsimp only [bind_ok] at h ⊢
    intro vs G1 H1 x1 ra
    refine mk_run (k.gd.ext x1) ra (hl E as e) ?_
    cases hA : apI c F as with
    | no => rw [hA] at h; exact h
    | ok r => rw [hA] at h; exact fun v G' H' x rr => h v G' H' (x1.trans x) (rr.back x1)
    | ex c => rw [hA, hew] at h; exact fun G' H' x => h G' H' (x1.trans x)
section
variable {c : Str} {Fc : Fi}
theorem q_make (d : MakX X.prog X.w X.K X.mg X.base k x (Γ.cls c) (spM X.K Γ.cls c n Fc)) (hr : Room j X.A) (hk : k + 1 ≤ j) (hg : Gl X x) (hx : Passes (CX X.prog X.w) X Ex) (ha : PA X (e :: es) (TA' X.K Γ (fun c d _ H => Ex c d H) ea)) (hl : ∀ E as, ea E = .ok as → as.length = n)
    (hdb : (x == ("__debug__" : Str)) = false := by decide) (he : starEach (e :: es) X.env = (false, eval e X.env) :: starEach es X.env := by rfl) (hpl : (backTo pos (starEach es X.env)).any (·.1) = false := by rfl) :
    PE X (.Call (.Name x p) (e :: es) [] pos) (T X.K Γ (fun c d _ H => Ex c d H) (evMake c Fc ea)) := pe_imp (pe_mx d hr hk hg hx ha hdb he hpl) fun _ _ _ h => make_run rfl hl h
end
def evFldI (FT : List (Str × Str)) (i : Nat) (f : Str) (ea : EvE) : EvS := fun E => match ea E with
  | .ok r => match argD r, E[i]? with
    | some d, some (.ins c fs) => if (c, f) ∈ FT ∧ lkD fs f = none ∧ fs.length < 900 then .nx (E.set i (.ins c (fs ++ [(f, d)]))) else .no
    | _, _ => .no
  | .ex c => .ex c E
  | .no => .no
theorem argD_eq {r : R} {d : D} (h : argD r = some d) : r.arg = .val d := by
  unfold argD Sl.toD at h
  split at h
  · rename_i e; cases h; exact e
  · cases h
end
end
end Ev
set_option maxHeartbeats 1000000
namespace Ev
variable [Ab.Tabl]
open PySem PySem.Spec PyProof.Rows L2 Ab
variable {Γ : Tb}
section
variable {X : Cx} {K : PySem.W.Frag} {ew : WX}
theorem s_fldI {st : Stmt} {FT : List (Str × Str)} {i : Nat} {f : Str} {ea : EvE} (tf : TF K Γ FT) (h : PS X st (sFld K (tVar i) (T K Γ ew ea) f)) : PS X st (TS' K Γ ew (evFldI FT i f ea)) := s_of h fun E Es hE hn => by
  unfold evFldI at hn ⊢
  cases e : ea E with
  | no => rw [e] at hn; exact absurd rfl hn
  | ex c => exact fun B G0 σ G H D k S => T.out e S hE k
  | ok r =>
    rw [e] at hn
    dsimp only at hn ⊢
    split at hn
    · rename_i d c fs ha e2
      by_cases hc : (c, f) ∈ FT ∧ lkD fs f = none ∧ fs.length < 900
      · rw [if_pos hc]
        obtain ⟨s, e3, rs⟩ := P_get hE e2
        cases rs
        refine es_fld e3 (tf c f hc.1).1 (tf c f hc.1).2 (T.evA e (argD_eq ha) hE) ?_ (by rw [repf_map, List.length_map]; exact hc.2.2) (ER.set hE i ?_)
        · rw [lkF_rep, hc.2.1]; rfl
        · show _ = Slot.ins Γ.self (Γ.cls c) (repf Γ (fs ++ [(f, d)]))
          rw [repf_map, repf_map, List.map_append]; rfl
      · rw [if_neg hc] at hn; exact absurd rfl hn
    · exact absurd rfl hn
def evBM (chk : Sl → Bool) (f : Sl → Sl → Option R) (eo ea : EvE) : EvE := fun E => (eo E).bind fun o => if chk o.arg = true then (ea E).bind fun y => lift (f o.arg y.arg) else .no
theorem bm1_run {P : V → List V → Hp → VK → Prop} {Ty : String} {chk : Sl → Bool} {f : Sl → Sl → Option R} {eo ea : EvE} (hc : ∀ x v G H, chk x = true → Same G H → RA K Γ G H x v → tyV K Ty v H) (hs : S2 K Γ (fun x y H Q => P x [y] H Q) f) {σ : L2.St} {H : Hp} {Q : VK} (h : T K Γ ew (evBM chk f eo ea) σ H Q) : tBM K Ty P (T K Γ ew eo) (tCons (T K Γ ew ea) tNil) σ H Q := by
  obtain ⟨B, G0, G, E, Es, hE, k, h⟩ := h
  unfold evBM at h
  refine T.atA hE k (fun r e v G1 H1 x1 ra => ?_) (fun c e => ?_) (fun e => ?_) <;> rw [e] at h <;> dsimp only [bind_ok, bind_ex, bind_no] at h
  · by_cases hk : chk r.arg = true
    · rw [if_pos hk] at h
      refine ⟨hc _ _ _ _ hk x1.gh ra, T.atA hE (k.ext x1) (fun r' e' w G2 H2 x2 rb => ?_) (fun c e' G2 H2 x2 => ?_) (fun e' => ?_)⟩ <;> rw [e'] at h <;> dsimp only [bind_ok, bind_ex, bind_no] at h
      · cases hf : f r.arg r'.arg with
        | none => rw [hf] at h; exact h.elim
        | some r2 =>
          rw [hf] at h
          exact hs _ _ _ hf v w G2 H2 Q x2.gh (RA.ext x2 ra) rb fun u G3 H3 x3 rr => h u G3 H3 ((x1.trans x2).trans x3) (rr.back (x1.trans x2))
      · exact h G2 H2 (x1.trans x2)
    · rw [if_neg hk] at h; exact h.elim
  · exact h
def evInsN (i : Nat) (eb ea ee : EvE) : EvS := fun E => match E[i]?, eb E, ea E, ee E with
  | some (.nst L), .ok rb, .ok ra, .ok re => match inS rb.arg, inS ra.arg, argD re with
    | some b, some a, some d => if 0 ≤ b ∧ 0 ≤ a ∧ a < 2 ^ 62 then (match L[b.toNat]? with
      | some l => if l.length < 100000 then .nx (E.set i (.nst (L.set b.toNat (l.take a.toNat ++ [d] ++ l.drop a.toNat)))) else .no
      | none => .no) else .no
    | _, _, _ => .no
  | _, _, _, _ => .no
theorem T.evI {ea : EvE} {E : En} {Es : List Slot} {r : R} {n : Int} (e : ea E = .ok r) (hr : inS r.arg = some n) (hE : ER Γ E Es) : EV K Es (T K Γ ew ea) (nI n) := by
  have h : r.arg = .val (.int n) := by
    unfold inS at hr
    split at hr
    · rename_i e1; cases hr; exact e1
    · cases hr
  have := T.evA (K := K) (ew := ew) e h hE
  rw [rep_nI] at this
  exact this
theorem s_insN {st : Stmt} {i : Nat} {eb ea ee : EvE} (h : PS X st (tDrop (tBM K "list" rIns (tOp (rIxL K) (tVar i) (T K Γ ew eb)) (tCons (T K Γ ew ea) (tCons (T K Γ ew ee) tNil))))) : PS X st (TS' K Γ ew (evInsN i eb ea ee)) := s_of h fun E Es hE hn => by
  unfold evInsN at hn ⊢
  split at hn
  · rename_i L rb ra re e1 e2 e3 e4
    split at hn
    · rename_i b a d hb ha hd
      by_cases hc : 0 ≤ b ∧ 0 ≤ a ∧ a < 2 ^ 62
      · rw [if_pos hc] at hn ⊢
        cases hl : L[b.toNat]? with
        | none => rw [hl] at hn; exact absurd rfl hn
        | some l =>
          rw [hl] at hn
          dsimp only at hn ⊢
          by_cases hlen : l.length < 100000
          · rw [if_pos hlen]
            obtain ⟨s, e5, p, qs, rfl⟩ := P_get hE e1
            refine es_insN (c := b.toNat) e5 (T.evI e2 hb hE) (by omega) (l := reps Γ l) (by rw [List.getElem?_map, hl]; rfl) (T.evI e3 ha hE) ⟨hc.2.1, hc.2.2⟩ (T.evA e4 (argD_eq hd) hE) (by rw [reps_len]; exact hlen) (ER.set hE i ⟨p, qs, ?_⟩)
            show _ = Slot.nst p qs (List.map (reps Γ) (L.set b.toNat (l.take a.toNat ++ [d] ++ l.drop a.toNat)))
            rw [List.map_set, reps_app, reps_app]
            congr 2
            simp only [reps_map, List.map_take, List.map_drop, List.map_cons, List.map_nil]
          · rw [if_neg hlen] at hn; exact absurd rfl hn
      · rw [if_neg hc] at hn; exact absurd rfl hn
    · exact absurd rfl hn
  · exact absurd rfl hn
def evSetN (i : Nat) (ea : EvE) : EvS := fun E => match ea E with
  | .ok r => match inS r.arg with
    | some n => if -100000 ≤ n ∧ n ≤ 100000 then .nx (E.set i (.nst (List.replicate n.toNat []))) else .no
    | none => .no
  | _ => .no
theorem s_setN {st : Stmt} {i j : Nat} {ea : EvE} (h : PS X st (tAsg (tLc (iRng1 (tCons (T K Γ ew ea) tNil)) (gName j) tYes (tLst tNil) [j]) (gName i))) : PS X st (TS' K Γ ew (evSetN i ea)) := s_of h fun E Es hE hn => by
  unfold evSetN at hn ⊢
  split at hn
  · rename_i r e1
    split at hn
    · rename_i n e2
      by_cases hc : -100000 ≤ n ∧ n ≤ 100000
      · rw [if_pos hc]
        refine es_asgN (lo := 0) (n := n.toNat) (fun B G0 σ G H k R z => w_range1 (T.evI e1 e2 hE) (by omega) (by omega) B G0 σ G H k R z) (by omega) fun p qs => ER.set hE i ⟨p, qs, ?_⟩
        rw [List.map_replicate]
        simp [reps]
      · rw [if_neg hc] at hn; exact absurd rfl hn
    · exact absurd rfl hn
  · exact absurd rfl hn
end
end Ev
set_option maxHeartbeats 1000000
namespace Ev
variable [Ab.Tabl]
open PySem PySem.Spec PyProof.Rows L2 Ab
abbrev oSub : Sl → Sl → Option R := fI (fun _ _ => true) fun a b => .int (a - b)
abbrev oDiv : Sl → Sl → Option R := fI (fun _ j => decide (0 < j ∧ j < 4611686018427387904)) fun a b => .int (a / b)
abbrev oMod : Sl → Sl → Option R := fI (fun _ j => decide (0 < j)) fun a b => .int (a % b)
abbrev oPow : Sl → Sl → Option R := fI cPow fun a b => .int (a ^ b.toNat)
abbrev oLt : Sl → Sl → Option R := fCmpI fun i j => decide (i < j)
abbrev oLe : Sl → Sl → Option R := fCmpI fun i j => decide (i ≤ j)
abbrev oGt : Sl → Sl → Option R := fCmpI fun i j => decide (j < i)
abbrev oGe : Sl → Sl → Option R := fCmpI fun i j => decide (j ≤ i)
abbrev fNeg : Sl → Option R := fun x => match x with | .val (.int i) => some (vI (-i)) | _ => none
def noW : WX := fun _ _ _ _ => False
theorem ss_never {K : PySem.W.Frag} {Γ : Tb} {ew : WX} {X : Cx} {st : List Stmt} : PSs X st (TS' K Γ ew evNever) := ⟨fun _ _ _ _ _ _ ⟨_, _, _, _, _, _, _, hn, _⟩ => absurd rfl hn⟩
theorem tf_nil {K : PySem.W.Frag} {Γ : Tb} : TF K Γ [] := fun _ _ h => nomatch h
theorem tf_sub {K : PySem.W.Frag} {Γ : Tb} {F1 F2 : List (Str × Str)} (h : TF K Γ F2) (hs : ∀ x ∈ F1, x ∈ F2) : TF K Γ F1 := fun c f hm => h c f (hs _ hm)
theorem tf_cons {K : PySem.W.Frag} {Γ : Tb} {c f : Str} {FT : List (Str × Str)} (h1 : Cls K (Γ.cls c)) (h2 : NoAttr K (Γ.cls c) f) (h : TF K Γ FT) : TF K Γ ((c, f) :: FT) := fun c' f' hm => by
  rcases List.mem_cons.mp hm with z | z
  · cases z; exact ⟨h1, h2⟩
  · exact h c' f' z
section
variable {P : Program} {w : World} {K : PySem.W.Frag} {mg : Str → Option Value} {base : Heap} {cls : Str → Addr}
theorem MetX.mono {C : Addr} {m : Str} {sp : Sp} {j k : Nat} (c : MetX P w K mg base j C m sp) (h : j ≤ k) : MetX P w K mg base k C m sp := by
  obtain ⟨cl, f, fd, ps, F, r⟩ := c.ex
  exact ⟨cl, f, fd, ps, F.mono h, r⟩
theorem CalX.mono {x : Str} {sp : Sp} {j k : Nat} (c : CalX P w K mg base j x sp) (h : j ≤ k) : CalX P w K mg base k x sp := by
  obtain ⟨f, fd, ps, F, r⟩ := c.ex
  exact ⟨f, fd, ps, F.mono h, r⟩
theorem tb_nil {k n : Nat} {m : Str} : ∀ cF ∈ ([] : List (Str × Fn)), MetX P w K mg base k (cls cF.1) m (spF K cls n cF.2) := fun _ h => nomatch h
theorem tb_cons {k j n : Nat} {m c : Str} {F : Fn} {tbl : List (Str × Fn)} (h : MetX P w K mg base j (cls c) m (spF K cls n F)) (hk : j ≤ k) (ht : ∀ cF ∈ tbl, MetX P w K mg base k (cls cF.1) m (spF K cls n cF.2)) : ∀ cF ∈ (c, F) :: tbl, MetX P w K mg base k (cls cF.1) m (spF K cls n cF.2) := fun cF hm => by
  rcases List.mem_cons.mp hm with z | z
  · rw [z]; exact MetX.mono h hk
  · exact ht cF z
end
section
variable {Γ : Tb} {X : Cx} {K : PySem.W.Frag} {ew : WX}
def evSnoc (ea : EvA) (ek : EvE) : EvA := fun E => (ea E).bind fun as => (ek E).bind fun r => .ok (as ++ [r.arg])
section
variable {e ek : Expr} {es : List Expr} {ea : EvA} {ekv : EvE} {p pos kpos : Pos} {x kw : Str} {j k n : Nat} {F : Fn} {Ex : XK}
def evNone : EvE := fun _ => .ok (.s (.val .non))
end
end
end Ev
set_option maxHeartbeats 1000000
namespace Ev
variable [Ab.Tabl]
open PySem PySem.Spec PyProof.Rows L2 Ab
def sp_law (K : PySem.W.Frag) : Sp := spX K (X := List Int) (fun ns => [.scr ns]) (fun ns => ns.length ≤ 63) (fun _ => .val (nB true))
theorem law_es {K : PySem.W.Frag} {Γ : Tb} {ew : WX} {ev : EvS} {ns : List Int} {m : Nat} (h : ev (.scr ns :: List.replicate m .un) = .rt (.v (.bl true))) : ES K ([.scr ns] ++ List.replicate m .un) (TS' K Γ ew ev) (AR (.val (nB true))) := by
  have hE : ER Γ (.scr ns :: List.replicate m .un) ([Slot.scr ns] ++ List.replicate m Slot.un) := .cons rfl (er_un m)
  intro B G0 σ G H D k S
  refine ⟨B, G0, G, _, _, hE, k, by rw [h]; exact (fun z => nomatch z), ?_⟩
  rw [h]
  refine ⟨fun _ _ _ _ z => z.elim, fun _ _ _ _ z => z.elim, fun _ _ _ _ z => z.elim, fun r v G2 H2 z o2 rv => S.rtV r v G2 H2 ?_ o2 rv, fun l p vs G2 H2 z o2 b g h pr => S.rtO l p vs G2 H2 ?_ o2 b g h pr, fun _ _ _ _ _ z => z.elim⟩
  · have z' : Slot.val r = .val (rep Γ (.bl true)) := z
    rw [rep] at z'
    exact z'
  · cases (show Slot.own l = .val (rep Γ (.bl true)) from z)
end Ev
set_option maxHeartbeats 1000000
namespace Ev
variable [Ab.Tabl]
open PySem PySem.Spec PyProof.Rows L2 Ab
variable {Γ : Tb} {X : Cx} {K : PySem.W.Frag} {ew : WX} {tg : Expr}
section
variable {e e2 : Expr} {es : List Expr} {eas : EvA} {p pos : Pos}
end
def rgS (lo c : Int) (n : Nat) : List D := (List.range n).map fun i => D.int (lo + ((i : Nat) : Int) * c)
def rgSz (i j c : Int) : Option Nat := if c ≠ 0 ∧ c.natAbs < 1073741824 ∧ Builtin.Range.small i j c = true ∧ Builtin.Range.rangeSize i j c = ((Builtin.Range.rangeSize i j c).toNat : Int) then some (Builtin.Range.rangeSize i j c).toNat else none
def isDc (x : Sl) : Bool := (dcS x).isSome
def fGet1 (x y : Sl) : Option R := match dcS x, keyS y with
  | some kvs, some k => some (.s (.val ((lkD kvs k).getD .non)))
  | _, _ => none
def fGet2 (x y z : Sl) : Option R := match dcS x, keyS y, z with
  | some kvs, some k, .val d => some (.s (.val ((lkD kvs k).getD d)))
  | _, _, _ => none
end Ev
set_option maxHeartbeats 1000000
namespace Ev
variable [Ab.Tabl]
open PySem PySem.Spec PyProof.Rows L2 Ab
variable {Γ : Tb}
def Dk (ws : List (Key × V)) (w : HO) : Prop := w = .dK ws ∨ ∃ o, w = .frz o (.dK ws)
theorem Dk.pl {ws : List (Key × V)} {w : HO} (h : Dk ws w) : Pl w := by
  rcases h with z | ⟨o, z⟩ <;> subst z <;> exact ⟨fun _ z => (nomatch z), fun _ _ z => (nomatch z)⟩
theorem Dk.nt {ws : List (Key × V)} {w : HO} (h : Dk ws w) : ∀ xs, w ≠ .tup xs := by
  rcases h with z | ⟨o, z⟩ <;> subst z <;> exact fun _ z => (nomatch z)
def Wk (G G' : Hp) : Prop := ∀ b w, G b = some w → G' b = some w ∨ ∃ ws, Dk ws w ∧ Rd G' b (.dK ws)
theorem Wk.keep {G G' : Hp} {b : Addr} {w : HO} (h : Wk G G') (e : G b = some w) (hn : ∀ ws, ¬ Dk ws w) : G' b = some w := by
  rcases h _ _ e with e' | ⟨ws, hw, _⟩
  · exact e'
  · exact absurd hw (hn ws)
section
variable {K : PySem.W.Frag} {B G0 G H : Hp} {p : Addr} {w w0 : HO} {ws : List (Key × V)}
end
def keyD : Key → D
  | .inl i => .int i
  | .inr z => .str z
theorem keyD_rep {k : Key} {G : Hp} : (rep Γ (keyD k)).rep G (kV k) := by
  cases k with
  | inl i => exact rp_int.mpr rfl
  | inr z => exact rp_str.mpr rfl
def dkL (l : List (Key × D)) : List D := l.map fun kv => keyD kv.1
section
variable {B G1 : Hp} {p : Addr} {o : Obj} {ws : List (Key × V)} {l : List (Key × D)}
end
section
variable {X : Cx} {K : PySem.W.Frag} {ew : WX} {tg : Expr}
end
end Ev
set_option maxHeartbeats 1000000
namespace Ev
variable [Ab.Tabl]
open PySem PySem.Spec PyProof.Rows L2 Ab
variable {Γ : Tb} {X : Cx} {K : PySem.W.Frag} {ew : WX} {tg : Expr}
section
variable {e e2 : Expr} {es : List Expr} {eas : EvA} {p pos : Pos}
end
end Ev
set_option maxHeartbeats 1000000
namespace Ev
variable [Ab.Tabl]
open PySem PySem.Spec PyProof.Rows L2 Ab
variable {Γ : Tb} {X : Cx} {K : PySem.W.Frag} {ew : WX} {tg : Expr}
def mgD (l : List (Key × D)) : List (Key × D) := l.foldl (fun a kv => putD a kv.1 kv.2) []
end Ev
set_option maxHeartbeats 3200000
namespace Ev
variable [Ab.Tabl]
open PySem PySem.Spec PyProof.Rows L2 Ab
section
variable {P : Program} {w : World} {A : Around} {E : Value → Shared → Prop} {s : Shared}
end
variable {Γ : Tb} {X : Cx} {K : PySem.W.Frag} {ew : WX} {tg : Expr}
end Ev
set_option maxHeartbeats 3200000
namespace Ev
variable [Ab.Tabl]
open PySem PySem.Spec PyProof.Rows L2 Ab
section
open PySem.Calls
end
section
variable {X : Cx}
end
section
variable {Γ : Tb} {X : Cx} {K : PySem.W.Frag} {ew : WX} {G H : Hp} {w : V}
def anyS (x : Sl) : Option (List D) := (sqS x).or (tpS x)
end
end Ev
set_option maxHeartbeats 3200000
namespace Ev
variable [Ab.Tabl]
open PySem PySem.Spec PyProof.Rows L2 Ab
section
variable {Γ : Tb} {X : Cx} {K : PySem.W.Frag} {ew : WX}
end
section
variable {X : Cx} {CX : CXT} {k n : Nat} {f : Addr} {fd : FuncData} {ps ks : List Str} {sp : Sp} {E : L2.St → XK} {x : Str} {p pos : Pos} {e : Expr} {es : List Expr} {kws : List Keyword} {t tk : TA} {g : List Value → List Value → List Value} {gV : List V → List V → List V}
end
section
variable {Γ : Tb} {X : Cx} {ew : WX} {e ek : Expr} {es : List Expr} {ea : EvA} {ekv : EvE} {p pos kpos : Pos} {x kw : Str} {j k n : Nat} {F : Fn}
end
end Ev
set_option maxHeartbeats 3200000
namespace Ev
variable [Ab.Tabl]
open PySem PySem.Spec PyProof.Rows L2 Ab
section
variable {X : Cx}
end
variable {Γ : Tb} {X : Cx} {K : PySem.W.Frag} {ew : WX}
end Ev
set_option maxHeartbeats 3200000
namespace Ev
variable [Ab.Tabl]
open PySem PySem.Spec PyProof.Rows L2 Ab
section
variable {Γ : Tb} {X : Cx} {K : PySem.W.Frag} {ew : WX}
def tsE (K : PySem.W.Frag) (Γ : Tb) (ew : WX) (cs : List Str) (i : Nat) (sub : Str → Bool) (h : Bool → EvS) : Addr → Value → Option Addr → TS := fun a cls d D σ H =>
  ∃ c, c ∈ cs ∧ cls = .ref (Γ.cls c) ∧ d = none ∧ σ[i]? = some (some (.ref a)) ∧ TS' K Γ ew (h (sub c)) D σ H
end
section
variable {Γ : Tb} {X : Cx} {ew : WX} {a D CA : Addr} {oe : Obj} {pn : List (Addr × Obj)} {i : Nat} {n A : Str} {b : Bool} {p p1 p2 pos : Pos}
theorem pe_isE {cv : Value} {c : V} (C : L2.ExcC X.K D) (hz : Zc (.ref D) none oe) (hf : ∃ vs, oe.data = .fields vs) (hN : X.N[i]? = some n) (hv : Vis X.env.scope n) (hg : Gl X "isinstance") (hm : X.mg "isinstance" = none)
    (hA : PE (X.suite a ((a, oe) :: pn)) (.Name A p2) (tC c)) (hcv : ∀ u, RelV c u → u = cv) (hk : PySem.W.kitOne X.K (.ref D) cv = some b)
    (hd : (n == ("__debug__" : Str)) = false := by decide) (hcd : (n == ("__classdict__" : Str)) = false := by decide)
    (he : starEach [.Name n p1, .Name A p2] X.env = (false, eval (.Name n p1) X.env) :: starEach [.Name A p2] X.env := by rfl) (hs : starEach [.Name A p2] X.env = (false, eval (.Name A p2) X.env) :: starEach [] X.env := by rfl) (hpl : (backTo pos (starEach [.Name A p2] X.env)).any (·.1) = false := by rfl) :
    PE (X.suite a ((a, oe) :: pn)) (.Call (.Name "isinstance" p) [.Name n p1, .Name A p2] [] pos) (fun σ H Q => σ[i]? = some (some (.ref a)) ∧ Q (.bl b) H) := by
  have h1 : PE (X.suite a ((a, oe) :: pn)) (.Name n p1) (tVar i) := pe_var (X := X.suite a ((a, oe) :: pn)) hN hv hd hcd
  refine pe_imp (pe_callB (X := X.suite a ((a, oe) :: pn)) (call_isE (X := X) C hz hf) hg hm bt_isinstance (pa_cons h1 (pa_cons hA pa_nil hs) he) (by decide) (by decide) he hpl) fun σ H Q h => ?_
  exact ⟨_, h.1, c, cv, b, rfl, hcv, hk, h.2⟩
def twoH (a b : EvS) : Bool → EvS := fun c => if c = true then a else b
theorem ret_of {K : PySem.W.Frag} {D : Ends} {σ : L2.St} {H : Hp} (h : TS' K Γ ew (twoH (evRet (evC (.bl true))) (evRet (evC (.bl false))) b) D σ H) : D.rt (.bl b) H := by
  have h : TS' K Γ ew (evRet (evC (.bl b))) D σ H := by cases b <;> exact h
  obtain ⟨B, G0, G, E, Es, hE, k, hn, S⟩ := h
  exact S.rtV _ (.bl b) G H rfl k.toOkB (rp_bl.mpr rfl)
structure SuE (K : PySem.W.Frag) (cls : Str → Addr) (cs : List Str) (sub : Str → Bool) (cv : Value) : Prop where
  c : ∀ x ∈ cs, L2.ExcC K (cls x)
  k : ∀ x ∈ cs, PySem.W.kitOne K (.ref (cls x)) cv = some (sub x)
variable {cls : Value} {d : Option Addr} {cs : List Str} {sub sub2 : Str → Bool}
theorem su_ret {cv : Value} {c : V} {pr : Pos} (S : SuE X.K Γ.cls cs sub cv) (hz : Zc cls d oe) (hf : ∃ vs, oe.data = .fields vs) (hN : X.N[i]? = some n) (hv : Vis X.env.scope n) (hg : Gl X "isinstance") (hm : X.mg "isinstance" = none)
    (hA : PE (X.suite a ((a, oe) :: pn)) (.Name A p2) (tC c)) (hcv : ∀ u, RelV c u → u = cv)
    (hd : (n == ("__debug__" : Str)) = false := by decide) (hcd : (n == ("__classdict__" : Str)) = false := by decide)
    (he : starEach [.Name n p1, .Name A p2] X.env = (false, eval (.Name n p1) X.env) :: starEach [.Name A p2] X.env := by rfl) (hs : starEach [.Name A p2] X.env = (false, eval (.Name A p2) X.env) :: starEach [] X.env := by rfl) (hpl : (backTo pos (starEach [.Name A p2] X.env)).any (·.1) = false := by rfl) :
    PSs (X.suite a ((a, oe) :: pn)) [.Return (some (.Call (.Name "isinstance" p) [.Name n p1, .Name A p2] [] pos)) pr] (tsE X.K Γ ew cs i sub (twoH (evRet (evC (.bl true))) (evRet (evC (.bl false)))) a cls d) := by
  refine ⟨fun pins s σ H D I ⟨x, hx, e1, e2, hi, h⟩ => ?_⟩
  subst e1; subst e2
  exact (pss_one (ps_ret (pe_isE (X := X) (S.c x hx) hz hf hN hv hg hm hA hcv (S.k x hx) hd hcd he hs hpl))).run pins s σ H D I ⟨hi, ret_of h⟩
theorem su_ret2 {cv cv2 : Value} {c c2 : V} {A2 : Str} {p' p1' p2' pos' pb pr : Pos} (S : SuE X.K Γ.cls cs sub cv) (S2 : SuE X.K Γ.cls cs sub2 cv2) (hz : Zc cls d oe) (hf : ∃ vs, oe.data = .fields vs) (hN : X.N[i]? = some n) (hv : Vis X.env.scope n) (hg : Gl X "isinstance") (hm : X.mg "isinstance" = none)
    (hA : PE (X.suite a ((a, oe) :: pn)) (.Name A p2) (tC c)) (hcv : ∀ u, RelV c u → u = cv) (hA2 : PE (X.suite a ((a, oe) :: pn)) (.Name A2 p2') (tC c2)) (hcv2 : ∀ u, RelV c2 u → u = cv2)
    (hd : (n == ("__debug__" : Str)) = false := by decide) (hcd : (n == ("__classdict__" : Str)) = false := by decide)
    (he : starEach [.Name n p1, .Name A p2] X.env = (false, eval (.Name n p1) X.env) :: starEach [.Name A p2] X.env := by rfl) (hs : starEach [.Name A p2] X.env = (false, eval (.Name A p2) X.env) :: starEach [] X.env := by rfl) (hpl : (backTo pos (starEach [.Name A p2] X.env)).any (·.1) = false := by rfl)
    (he2 : starEach [.Name n p1', .Name A2 p2'] X.env = (false, eval (.Name n p1') X.env) :: starEach [.Name A2 p2'] X.env := by rfl) (hs2 : starEach [.Name A2 p2'] X.env = (false, eval (.Name A2 p2') X.env) :: starEach [] X.env := by rfl) (hpl2 : (backTo pos' (starEach [.Name A2 p2'] X.env)).any (·.1) = false := by rfl) :
    PSs (X.suite a ((a, oe) :: pn)) [.Return (some (.BoolOp .And [.Call (.Name "isinstance" p) [.Name n p1, .Name A p2] [] pos, .Call (.Name "isinstance" p') [.Name n p1', .Name A2 p2'] [] pos'] pb)) pr] (tsE X.K Γ ew cs i (fun x => sub x && sub2 x) (twoH (evRet (evC (.bl true))) (evRet (evC (.bl false)))) a cls d) := by
  refine ⟨fun pins s σ H D I ⟨x, hx, e1, e2, hi, h⟩ => ?_⟩
  subst e1; subst e2
  refine (pss_one (ps_ret (pe_and (pe_isE (X := X) (S.c x hx) hz hf hN hv hg hm hA hcv (S.k x hx) hd hcd he hs hpl) (pe_one (pe_isE (X := X) (S2.c x hx) hz hf hN hv hg hm hA2 hcv2 (S2.k x hx) hd hcd he2 hs2 hpl2))))).run pins s σ H D I ⟨hi, _, rfl, ?_⟩
  have h : D.rt (.bl (sub x && sub2 x)) H := ret_of h
  cases e : sub x with
  | true =>
    rw [e] at h
    rw [if_pos rfl]
    exact ⟨hi, h⟩
  | false =>
    rw [e] at h
    rw [if_neg (by decide)]
    exact h
theorem su_if {cv : Value} {c : V} {body : List Stmt} {bd : EvS} {pu pr : Pos} (S : SuE X.K Γ.cls cs sub cv) (hz : Zc cls d oe) (hf : ∃ vs, oe.data = .fields vs) (hN : X.N[i]? = some n) (hv : Vis X.env.scope n) (hg : Gl X "isinstance") (hm : X.mg "isinstance" = none)
    (hA : PE (X.suite a ((a, oe) :: pn)) (.Name A p2) (tC c)) (hcv : ∀ u, RelV c u → u = cv) (hb : PSs (X.suite a ((a, oe) :: pn)) body (TS' X.K Γ ew bd))
    (hd : (n == ("__debug__" : Str)) = false := by decide) (hcd : (n == ("__classdict__" : Str)) = false := by decide)
    (he : starEach [.Name n p1, .Name A p2] X.env = (false, eval (.Name n p1) X.env) :: starEach [.Name A p2] X.env := by rfl) (hs : starEach [.Name A p2] X.env = (false, eval (.Name A p2) X.env) :: starEach [] X.env := by rfl) (hpl : (backTo pos (starEach [.Name A p2] X.env)).any (·.1) = false := by rfl) :
    PSs (X.suite a ((a, oe) :: pn)) [.If (.UnaryOp .Not (.Call (.Name "isinstance" p) [.Name n p1, .Name A p2] [] pos) pu) body [] pr] (tsE X.K Γ ew cs i sub (twoH evNext bd) a cls d) := by
  refine ⟨fun pins s σ H D I ⟨x, hx, e1, e2, hi, h⟩ => ?_⟩
  subst e1; subst e2
  refine (pss_one (ps_if (pt_not (pt_val (pe_isE (X := X) (S.c x hx) hz hf hN hv hg hm hA hcv (S.k x hx) hd hcd he hs hpl))) hb (s_nil (K := X.K) (Γ := Γ) (ew := ew)))).run pins s σ H D I ⟨hi, _, rfl, ?_⟩
  cases e : sub x with
  | true => rw [e] at h; exact h
  | false => rw [e] at h; exact h
end
section
variable {Γ : Tb} {X : Cx} {ew : WX} {e : Expr} {es : List Expr} {ea : EvA} {p pos : Pos} {x kw : Str} {j k n : Nat} {F : Fn} {Ex : XK}
end
section
variable {Γ : Tb} {X : Cx} {ew : WX} {p pos : Pos} {x : Str} {j k : Nat} {F : Fn}
end
end Ev
set_option maxHeartbeats 3200000
namespace Ev
variable [Ab.Tabl]
open PySem PySem.Spec PyProof.Rows L2 Ab
section
variable {X : Cx}
end
section
variable {X : Cx} (K : PySem.W.Frag)
end
variable {Γ : Tb} {X : Cx} {K : PySem.W.Frag} {ew : WX} {tg : Expr}
section
variable {e e2 : Expr} {es : List Expr} {eas : EvA} {p pos : Pos}
end
end Ev
set_option maxHeartbeats 3200000
namespace Ev
variable [Ab.Tabl]
open PySem PySem.Spec PyProof.Rows L2 Ab
section
variable {X : Cx}
end
section
variable {X : Cx} (K : PySem.W.Frag)
end
variable {Γ : Tb} {X : Cx} {K : PySem.W.Frag} {ew : WX} {tg : Expr}
section
variable {e e2 : Expr} {es : List Expr} {eas : EvA} {p pos : Pos}
end
end Ev
set_option maxHeartbeats 4000000
namespace Com
open PySem PySem.Spec PyProof.Rows L2 Ab Ev
def ev__check_names : EvS := evSeq (evIfS (evTNot (evTru (evVar 0))) (evRaise "InvalidNetwork") (evNext))
    (evSeq (evIfS (evTB (evBin oLt (evCB (fun x => (fMin2 x).or (fMinL x)) (evCons (evVar 0) (evNil))) (evC (.int 0)))) (evRaise "InvalidNetwork") (evNext))
    (evIfS (evTB (evBin fNe (evUn fLenSet (evVar 0)) (evCB fLen (evCons (evVar 0) (evNil))))) (evRaise "InvalidNetwork") (evNext)))
def F__check_names : Fn := runF 0 (ev__check_names)
def ev_Network__check_returns : EvS := evFor (evEn (evUn (fFld [("Network", "_neighbors")] "_neighbors") (evVar 0))) (gvTup (gvCons (gvName 1) (gvCons (gvName 2) (gvNil)))) (evFor (evItV 2) (gvName 3) (evIfS (evTB (evBin (fInA true) (evVar 1) (evBin fSub (evUn (fFld [("Network", "_ports")] "_ports") (evVar 0)) (evVar 3)))) (evRaise "InvalidNetwork") (evNext)) [3]) [1, 2, 3]
def F_Network__check_returns : Fn := runF 3 (ev_Network__check_returns)
def ev__check_row : EvS := evSeq (evFor (evItV 1) (gvName 3) (evSeq (evIfS (evTNot (evTB (evChain oLe oLt (evC (.int 0)) (evVar 3) (evVar 2)))) (evRaise "InvalidNetwork") (evNext))
    (evIfS (evTB (evBin fEq (evVar 3) (evVar 0))) (evRaise "InvalidNetwork") (evNext))) [3])
    (evIfS (evTB (evBin fNe (evUn fLenSet (evVar 1)) (evCB fLen (evCons (evVar 1) (evNil))))) (evRaise "InvalidNetwork") (evNext))
def F__check_row : Fn := runF 1 (ev__check_row)
def ev__ports_by_neighbor : EvS := evRet (evDc (evEnV 0) (gvTup (gvCons (gvName 1) (gvCons (gvName 2) (gvNil)))) (evYes) (evVar 2) (evVar 1) [1, 2])
def F__ports_by_neighbor : Fn := runF 2 (ev__ports_by_neighbor)
def ev_Network___init__ : EvS := evSeq (evDrop (evCall F__check_names (evCons (evVar 1) (evNil))))
    (evSeq (evIfS (evTB (evBin fNe (evCB fLen (evCons (evVar 2) (evNil))) (evCB fLen (evCons (evVar 1) (evNil))))) (evRaise "InvalidNetwork") (evNext))
    (evSeq (evFor (evEnV 2) (gvTup (gvCons (gvName 3) (gvCons (gvName 4) (gvNil)))) (evDrop (evCall F__check_row (evCons (evVar 3) (evCons (evVar 4) (evCons (evCB fLen (evCons (evVar 1) (evNil))) (evNil)))))) [3])
    (evSeq (evFldI [("Network", "_names")] 0 "_names" (evCB fList (evCons (evVar 1) (evNil))))
    (evSeq (evFldI [("Network", "_neighbors")] 0 "_neighbors" (evLc (evItV 2) (gvName 4) (evYes) (evCB fList (evCons (evVar 4) (evNil))) [4]))
    (evSeq (evFldI [("Network", "_ports")] 0 "_ports" (evLc (evItV 2) (gvName 4) (evYes) (evCallN F__ports_by_neighbor (evCons (evVar 4) (evNil))) [4]))
    (evSeq (evFrz 0 (evDrop (evMeth "_check_returns" [("Network", F_Network__check_returns)] (evVar 0) evNil)))
    (evFrz 0 evNext)))))))
def I_Network : Fi := runI "Network" 2 ev_Network___init__
def ev_Network_size : EvS := evRet (evCB fLen (evCons (evUn (fFld [("Network", "_names")] "_names") (evVar 0)) (evNil)))
def F_Network_size : Fn := runF 0 (ev_Network_size)
def ev_Network_names : EvS := evRet (evCB fList (evCons (evUn (fFld [("Network", "_names")] "_names") (evVar 0)) (evNil)))
def F_Network_names : Fn := runF 0 (ev_Network_names)
def ev_Network_neighbors : EvS := evRet (evCB fList (evCons (evBin fSub (evUn (fFld [("Network", "_neighbors")] "_neighbors") (evVar 0)) (evVar 1)) (evNil)))
def F_Network_neighbors : Fn := runF 0 (ev_Network_neighbors)
def ev_Network_degree : EvS := evRet (evCB fLen (evCons (evBin fSub (evUn (fFld [("Network", "_neighbors")] "_neighbors") (evVar 0)) (evVar 1)) (evNil)))
def F_Network_degree : Fn := runF 0 (ev_Network_degree)
def ev_Network_far_port : EvS := evSeq (evSet 3 (evBin fSub (evBin fSub (evUn (fFld [("Network", "_neighbors")] "_neighbors") (evVar 0)) (evVar 1)) (evVar 2)))
    (evRet (evBin fSub (evBin fSub (evUn (fFld [("Network", "_ports")] "_ports") (evVar 0)) (evVar 3)) (evVar 1)))
def F_Network_far_port : Fn := runF 1 (ev_Network_far_port)
def ev_Network_links : EvS := evRet (evLc2 (evEn (evUn (fFld [("Network", "_neighbors")] "_neighbors") (evVar 0))) (gvTup (gvCons (gvName 1) (gvCons (gvName 2) (gvNil)))) (evYes) (evIt (evCB fSorted (evCons (evVar 2) (evNil)))) (gvName 3) (evTB (evBin oLt (evVar 1) (evVar 3))) (evCB fTup (evCons (evVar 1) (evCons (evVar 3) (evNil)))) [1, 2, 3] [3])
def F_Network_links : Fn := runF 3 (ev_Network_links)
def ev__law_cell : EvS := evSeq (evIfS (evTB (evBin oLt (evVar 1) (evCB fLen (evCons (evVar 0) (evNil))))) (evRet (evBin fSub (evVar 0) (evVar 1))) (evNext))
    (evRet (evC (.int 0)))
def F__law_cell : Fn := runF 0 (ev__law_cell)
def ev__law_draw_net : EvS := evSeq (evSet 3 (evBin fAdd (evC (.int 1)) (evBin oMod (evCB fInt (evCons (evVar 0) (evNil))) (evVar 1))))
    (evSeq (evSet 0 (evBin oDiv (evVar 0) (evVar 1)))
    (evSeq (evSetN 5 (evVar 3))
    (evSeq (evFor (evRng1 (evBin fMul (evC (.int 2)) (evVar 3))) (gvName 4) (evSeq (evSet 0 (evBin oMod (evCB fInt (evCons (evBin fAdd (evBin fAdd (evBin fMul (evVar 0) (evC (.int 69621))) (evC (.int 12345))) (evBin fMul (evVar 4) (evC (.int 7)))) (evNil))) (evC (.int 2147483647))))
    (evSeq (evSet 6 (evBin oMod (evCB fInt (evCons (evBin oDiv (evVar 0) (evC (.int 16))) (evNil))) (evVar 3)))
    (evSeq (evSet 7 (evBin oMod (evCB fInt (evCons (evBin oDiv (evVar 0) (evC (.int 4096))) (evNil))) (evVar 3)))
    (evIfS (evTAnd (evTB (evBin fNe (evVar 6) (evVar 7))) (evTAnd (evTB (evBin (fInA true) (evVar 7) (evBin fSub (evVar 5) (evVar 6)))) (evTAnd (evTB (evBin oLt (evCB fLen (evCons (evBin fSub (evVar 5) (evVar 6)) (evNil))) (evVar 2))) (evTB (evBin oLt (evCB fLen (evCons (evBin fSub (evVar 5) (evVar 7)) (evNil))) (evVar 2)))))) (evSeq (evFrz 7 (evInsN 5 (evVar 6) (evBin oMod (evCB fInt (evCons (evBin oDiv (evVar 0) (evC (.int 65536))) (evNil))) (evBin fAdd (evCB fLen (evCons (evBin fSub (evVar 5) (evVar 6)) (evNil))) (evC (.int 1)))) (evVar 7)))
    (evFrz 6 (evInsN 5 (evVar 7) (evBin oMod (evCB fInt (evCons (evBin oDiv (evVar 0) (evC (.int 262144))) (evNil))) (evBin fAdd (evCB fLen (evCons (evBin fSub (evVar 5) (evVar 7)) (evNil))) (evC (.int 1)))) (evVar 6)))) (evNext))))) [6, 7])
    (evSeq (evSet 8 (evCB fLst (evNil)))
    (evSeq (evFor (evRng1 (evVar 3)) (gvName 4) (evSeq (evSet 0 (evBin oMod (evCB fInt (evCons (evBin fAdd (evBin fMul (evVar 0) (evC (.int 48271))) (evC (.int 11))) (evNil))) (evC (.int 2147483647))))
    (evSeq (evSet 9 (evBin oMod (evCB fInt (evCons (evBin oDiv (evVar 0) (evC (.int 64))) (evNil))) (evBin fAdd (evBin fAdd (evVar 3) (evC (.int 1))) (evBin oMod (evCB fInt (evCons (evBin oDiv (evVar 0) (evC (.int 8))) (evNil))) (evC (.int 90))))))
    (evSeq (evFor (evRng1 (evVar 3)) (gvName 10) (evIfS (evTB (evBin (fInA false) (evVar 9) (evVar 8))) (evSet 9 (evBin fAdd (evVar 9) (evC (.int 1)))) (evNext)) [10])
    (evFrz 9 (evApp 8 (evVar 9)))))) [9, 10])
    (evFrz 5 (evFrz 8 (evRet (evCB fTup (evCons (evVar 8) (evCons (evVar 5) (evNil))))))))))))
def F__law_draw_net : Fn := runF 8 (ev__law_draw_net)
def ev__law_shape_net : EvS := evSeq (evSet 2 (evBin oMod (evCB fInt (evCons (evVar 0) (evNil))) (evC (.int 4))))
    (evSeq (evSet 3 (evBin fAdd (evC (.int 3)) (evBin oMod (evCB fInt (evCons (evBin oDiv (evVar 0) (evC (.int 4))) (evNil))) (evBin oSub (evVar 1) (evC (.int 2))))))
    (evSeq (evSet 4 (evCB fLst (evNil)))
    (evSeq (evFor (evRng1 (evVar 3)) (gvName 5) (evSeq (evSet 6 (evCB fLst (evCons (evBin oMod (evCB fInt (evCons (evBin oSub (evVar 5) (evC (.int 1))) (evNil))) (evVar 3)) (evCons (evBin oMod (evBin fAdd (evVar 5) (evC (.int 1))) (evVar 3)) (evNil)))))
    (evSeq (evIfS (evTB (evBin fEq (evVar 2) (evC (.int 1)))) (evSet 6 (evLc (evIt (evCB fTup (evCons (evBin oSub (evVar 5) (evC (.int 1))) (evCons (evBin fAdd (evVar 5) (evC (.int 1))) (evNil))))) (gvName 7) (evTB (evChain oLe oLt (evC (.int 0)) (evVar 7) (evVar 3))) (evVar 7) [7])) (evNext))
    (evSeq (evIfS (evTB (evBin fEq (evVar 2) (evC (.int 2)))) (evSet 6 (evLc (evIt (evCB fTup (evCons (evBin fAdd (evVar 5) (evC (.int 1))) (evCons (evBin oSub (evVar 5) (evC (.int 2))) (evCons (evBin fAdd (evVar 5) (evC (.int 2))) (evCons (evBin oSub (evVar 5) (evC (.int 1))) (evNil))))))) (gvName 7) (evTAnd (evTB (evChain oLe oLt (evC (.int 0)) (evVar 7) (evVar 3))) (evTAnd (evTB (evBin fNe (evVar 7) (evVar 5))) (evTB (evBin oLt (evCB fAbs (evCons (evBin oSub (evVar 7) (evVar 5)) (evNil))) (evC (.int 3)))))) (evVar 7) [7])) (evNext))
    (evSeq (evIfS (evTB (evBin fEq (evVar 2) (evC (.int 3)))) (evSet 6 (evLc (evIt (evBin fAdd (evIf (evTB (evBin oGt (evVar 5) (evC (.int 0)))) (evCB fLst (evCons (evBin oDiv (evBin oSub (evVar 5) (evC (.int 1))) (evC (.int 2))) (evNil))) (evCB fLst (evNil))) (evCB fLst (evCons (evBin fAdd (evBin fMul (evC (.int 2)) (evVar 5)) (evC (.int 1))) (evCons (evBin fAdd (evBin fMul (evC (.int 2)) (evVar 5)) (evC (.int 2))) (evNil)))))) (gvName 7) (evTB (evBin oLt (evVar 7) (evVar 3))) (evVar 7) [7])) (evNext))
    (evFrz 6 (evApp 4 (evVar 6))))))) [6])
    (evSeq (evSet 8 (evCB fLst (evNil)))
    (evSeq (evFor (evRng1 (evVar 3)) (gvName 5) (evSeq (evApp 8 (evBin oMod (evCB fInt (evCons (evBin fMul (evBin fMul (evBin fAdd (evVar 5) (evC (.int 1))) (evBin fAdd (evC (.int 1)) (evBin oDiv (evVar 0) (evC (.int 16))))) (evC (.int 7))) (evNil))) (evC (.int 101))))
    (evFor (evRng1 (evVar 3)) (gvName 7) (evIfS (evTB (evBin (fInA false) (evBin fSub (evVar 8) (evVar 5)) (evSl (evVar 8) (evONo) (evO (evVar 5))))) (evSetI 8 (evVar 5) (evBin fAdd (evBin fSub (evVar 8) (evVar 5)) (evC (.int 1)))) (evNext)) [])) [])
    (evFrz 4 (evFrz 8 (evRet (evCB fTup (evCons (evVar 8) (evCons (evVar 4) (evNil))))))))))))
def F__law_shape_net : Fn := runF 7 (ev__law_shape_net)
def ev__law_net : EvS := evSeq (evIfS (evTB (evBin fEq (evBin oMod (evCB fInt (evCons (evVar 0) (evNil))) (evC (.int 3))) (evC (.int 0)))) (evRet (evCallN F__law_shape_net (evCons (evBin oDiv (evVar 0) (evC (.int 3))) (evCons (evVar 1) (evNil))))) (evNext))
    (evRet (evCallN F__law_draw_net (evCons (evBin oDiv (evVar 0) (evC (.int 3))) (evCons (evVar 1) (evCons (evC (.int 4)) (evNil))))))
def F__law_net : Fn := runF 0 (ev__law_net)
def ev__law_draws : EvS := evSeq (evSet 2 (evCB fLst (evNil)))
    (evSeq (evSet 3 (evCB fAbs (evCons (evVar 0) (evNil))))
    (evSeq (evFrz 3 (evSet 4 (evVar 3)))
    (evSeq (evFor (evRng1 (evVar 1)) (gvName 5) (evIfS (evTAnd (evTB (evBin oGe (evVar 4) (evBin oPow (evC (.int 10)) (evC (.int 18))))) (evTB (evBin oGt (evVar 3) (evC (.int 0))))) (evSeq (evApp 2 (evBin oMod (evCB fInt (evCons (evVar 3) (evNil))) (evC (.int 4096))))
    (evSet 3 (evBin oDiv (evVar 3) (evC (.int 4096))))) (evSeq (evSet 6 (evBin oMod (evCB fInt (evCons (evBin fAdd (evBin fMul (evVar 4) (evC (.int 48271))) (evBin fMul (evBin fAdd (evVar 5) (evC (.int 1))) (evC (.int 69621)))) (evNil))) (evC (.int 2147483647))))
    (evSeq (evSet 6 (evBin oMod (evCB fInt (evCons (evBin fAdd (evBin fAdd (evBin fMul (evVar 6) (evVar 6)) (evBin fMul (evVar 6) (evC (.int 16807)))) (evBin fMul (evVar 5) (evC (.int 7919)))) (evNil))) (evC (.int 2147483629))))
    (evSeq (evSet 6 (evBin oMod (evCB fInt (evCons (evBin fAdd (evBin fAdd (evBin fMul (evVar 6) (evVar 6)) (evVar 4)) (evBin fMul (evC (.int 13)) (evVar 5))) (evNil))) (evC (.int 2147483587))))
    (evApp 2 (evBin oMod (evBin oDiv (evVar 6) (evC (.int 7))) (evC (.int 4096)))))))) [5, 6])
    (evRetV 2))))
def F__law_draws : Fn := runF 5 (ev__law_draws)
def ev__law_like (F_rec : Fn) : EvS := evSeq (evIfS (evTB (evUn (fIsN false) (evVar 1))) (evRet (evUn (fIsN false) (evVar 0))) (evNext))
    (evSeq (evIfS (evTru (evUn (fIsi "bool") (evVar 1))) (evRet (evAnd (evUn (fIsi "bool") (evVar 0)) (evBin fEq (evVar 0) (evVar 1)))) (evNext))
    (evSeq (evIfS (evTru (evUn (fIsi "str") (evVar 1))) (evRet (evAnd (evUn (fIsi "str") (evVar 0)) (evBin fEq (evVar 0) (evVar 1)))) (evNext))
    (evSeq (evIfS (evTru (evUn (fIsi "int") (evVar 1))) (evRet (evAnd (evUn (fIsi "int") (evVar 0)) (evAnd (evNot (evUn (fIsi "bool") (evVar 0))) (evBin fEq (evVar 0) (evVar 1))))) (evNext))
    (evSeq (evIfS (evTOr (evTB (evBin fNe (evUn (fIsi "list") (evVar 1)) (evUn (fIsi "list") (evVar 0)))) (evTB (evBin fNe (evUn (fIsi "tuple") (evVar 1)) (evUn (fIsi "tuple") (evVar 0))))) (evRet (evC (.bl false))) (evNext))
    (evSeq (evIfS (evTB (evBin fNe (evCB fLen (evCons (evVar 0) (evNil))) (evCB fLen (evCons (evVar 1) (evNil))))) (evRet (evC (.bl false))) (evNext))
    (evRet (evCB fAll (evCons (evLc (evRng1 (evCB fLen (evCons (evVar 1) (evNil)))) (gvName 2) (evYes) (evCallN F_rec (evCons (evBin fSub (evVar 0) (evVar 2)) (evCons (evBin fSub (evVar 1) (evVar 2)) (evNil)))) [2]) (evNil)))))))))
def R__law_like : Nat → Fn
  | 0 => runF 1 evNever
  | n + 1 => runF 1 (ev__law_like (R__law_like n))
abbrev F__law_like : Fn := R__law_like 6
def ev__law_made : EvS := evRet (evMake "Network" I_Network (evCons (evCB fList (evCons (evBin fSub (evVar 0) (evC (.int 0))) (evNil))) (evCons (evLc (evIt (evBin fSub (evVar 0) (evC (.int 1)))) (gvName 1) (evYes) (evCB fList (evCons (evVar 1) (evNil))) [1]) (evNil))))
def F__law_made : Fn := runF 1 (ev__law_made)
def ev__law_drawn : EvS := evRet (evCallN F__law_net (evCons (evCB fAbs (evCons (evCallN F__law_cell (evCons (evVar 0) (evCons (evVar 1) (evNil)))) (evNil))) (evCons (evVar 2) (evNil))))
def F__law_drawn : Fn := runF 0 (ev__law_drawn)
end Com
set_option maxHeartbeats 2000000
namespace Ev
open PySem PySem.Spec PyProof.Rows L2 Ab
section
variable {f : Sl → Option R} {f2 g2 : Sl → Sl → Option R} {fl : List Sl → Option R} {ea eb ec : EvE} {es : EvA} {E : En} {a b : EvS} {t u : EvT} {d : D} {i : Nat}
@[simp] theorem apUn : evUn f ea E = (ea E).bind fun x => lift (f x.arg) := (rfl)
@[simp] theorem apBin : evBin f2 ea eb E = (ea E).bind fun x => (eb E).bind fun y => lift (f2 x.arg y.arg) := (rfl)
@[simp] theorem apCB : evCB fl es E = (es E).bind fun x => lift (fl x) := (rfl)
@[simp] theorem apVar : evVar i E = (match E[i]? with | some s => lift (rdSl s) | none => .no) := (rfl)
@[simp] theorem apC : evC d E = .ok (.s (.val d)) := (rfl)
@[simp] theorem apNil : evNil E = .ok [] := (rfl)
@[simp] theorem apCons : evCons ea es E = (ea E).bind fun x => (es E).bind fun xs => .ok (x.arg :: xs) := (rfl)
@[simp] theorem apSnoc : evSnoc es ea E = (es E).bind fun as => (ea E).bind fun r => .ok (as ++ [r.arg]) := (rfl)
@[simp] theorem apNone : evNone E = .ok (.s (.val .non)) := (rfl)
@[simp] theorem rdval : rdSl (.val d) = some (.s (.val d)) := (rfl)
@[simp] theorem rdown {l} : rdSl (.own l) = some (.s (.red l)) := (rfl)
@[simp] theorem rdred {l} : rdSl (.red l) = some (.s (.red l)) := (rfl)
@[simp] theorem rdscr {l} : rdSl (.scr l) = some (.s (.scr l)) := (rfl)
@[simp] theorem rddic {l} : rdSl (.dic l) = some (.s (.dic l)) := (rfl)
@[simp] theorem rdnst {l} : rdSl (.nst l) = some (.s (.nst l)) := (rfl)
@[simp] theorem rdslf {c fs} : rdSl (.slf c fs) = some (.s (.val (.obj c fs))) := (rfl)
@[simp] theorem args {x} : R.arg (.s x) = x := (rfl)
@[simp] theorem argfr {x} : R.arg (.fr x) = .val (.lst x) := (rfl)
@[simp] theorem argfrk {x} : R.arg (.frk x) = .val (.dic x) := (rfl)
@[simp] theorem argfrt {x} : R.arg (.frt x) = .val (.dct x) := (rfl)
@[simp] theorem apSeq : evSeq a b E = (match a E with | .nx E1 => b E1 | o => o) := (rfl)
@[simp] theorem apFrz : evFrz i a E = a (frzE i E) := (rfl)
@[simp] theorem apNext : evNext E = .nx E := (rfl)
@[simp] theorem apIfS : evIfS t a b E = (match t E with | .ok c => if c = true then a E else b E | .ex c => .ex c E | .no => .no) := (rfl)
@[simp] theorem apTru : evTru ea E = (ea E).bind fun x => lift (trS x.arg) := (rfl)
@[simp] theorem apTB : evTB ea E = (ea E).bind fun x => lift (blR x) := (rfl)
@[simp] theorem apTAnd : evTAnd t u E = (t E).bind fun x => if x = true then u E else .ok false := (rfl)
@[simp] theorem apTOr : evTOr t u E = (t E).bind fun x => if x = true then .ok true else u E := (rfl)
@[simp] theorem apTNot : evTNot t E = (t E).bind fun x => .ok (!x) := (rfl)
@[simp] theorem apYes : evYes E = .ok true := (rfl)
@[simp] theorem apIf : evIf t ea eb E = (t E).bind fun c => if c = true then ea E else eb E := (rfl)
@[simp] theorem apAnd : evAnd ea eb E = (ea E).bind fun x => (lift (trS x.arg)).bind fun t => if t = true then eb E else .ok (.s x.arg) := (rfl)
@[simp] theorem apOr : evOr ea eb E = (ea E).bind fun x => (lift (trS x.arg)).bind fun t => if t = true then .ok (.s x.arg) else eb E := (rfl)
@[simp] theorem apNot : evNot ea E = (ea E).bind fun x => (lift (trS x.arg)).bind fun t => .ok (vB (!t)) := (rfl)
@[simp] theorem apChain : evChain f2 g2 ea eb ec E = (ea E).bind fun x => (eb E).bind fun y => (lift (f2 x.arg y.arg)).bind fun r => (lift (blR r)).bind fun b => if b = true then (ec E).bind fun z => lift (g2 y.arg z.arg) else .ok (vB false) := (rfl)
@[simp] theorem apSet : evSet i ea E = (match ea E with | .ok r => (match r.sl with | some s => .nx (E.set i s) | none => .no) | .ex c => .ex c E | .no => .no) := (rfl)
@[simp] theorem sl_val : R.sl (.s (.val d)) = some (.val d) := (rfl)
@[simp] theorem sl_fr {l} : R.sl (.fr l) = some (.own l) := (rfl)
@[simp] theorem sl_frk {l} : R.sl (.frk l) = some (.dic l) := (rfl)
@[simp] theorem sl_frt {l} : R.sl (.frt l) = some (.dct l) := (rfl)
@[simp] theorem apRet : evRet ea E = (match ea E with | .ok (.fr l) => .rt (.own l) | .ok r => (match r.arg with | .val d => .rt (.v d) | _ => .no) | .ex c => .ex c E | .no => .no) := (rfl)
@[simp] theorem apRetV : evRetV i E = (match E[i]? with | some (.own l) => .rt (.own l) | _ => evRet (evVar i) (frzE i E)) := (rfl)
@[simp] theorem apDrop : evDrop ea E = (match ea E with | .ok _ => .nx E | .ex c => .ex c E | .no => .no) := (rfl)
@[simp] theorem apRaise {c} : evRaise c E = .ex c E := (rfl)
@[simp] theorem apApp : evApp i ea E = (match E[i]?, ea E with
  | some (.own l), .ok r => (match r.arg with
    | .val d => if l.length < 100000 then .nx (E.set i (.own (l ++ [d]))) else .no
    | _ => .no)
  | _, _ => .no) := (rfl)
@[simp] theorem apAsg {gv : EvG} : evAsg gv ea E = (match ea E with
  | .ok r => (match r.arg with
    | .val d => (match gv d E with
      | some E1 => .nx E1
      | none => .no)
    | _ => .no)
  | .ex c => .ex c E
  | .no => .no) := (rfl)
@[simp] theorem apName : gvName i d E = some (E.set i (.val d)) := (rfl)
@[simp] theorem apGTup {gs : EvGs} {l : List D} : gvTup gs (.tup l) E = gs l E := (rfl)
@[simp] theorem apGCons {g : EvG} {gs : EvGs} {l : List D} : gvCons g gs (d :: l) E = (g d E).bind fun E1 => gs l E1 := (rfl)
@[simp] theorem apGNil : gvNil [] E = some E := (rfl)
@[simp] theorem wp0 : wp [] E = E := (rfl)
@[simp] theorem wp1 {r} : wp (i :: r) E = (wp r E).set i .un := (rfl)
@[simp] theorem apONo : evONo E = .ok none := (rfl)
@[simp] theorem apO : evO ea E = (ea E).bind fun x => (lift (inS x.arg)).bind fun i => .ok (some i) := (rfl)
@[simp] theorem inSint {n} : inS (.val (.int n)) = some n := (rfl)
@[simp] theorem apSl {el eh : EvO} : evSl ea el eh E = (ea E).bind fun x => (el E).bind fun l => (eh E).bind fun h => lift (fSl x.arg l h) := (rfl)
@[simp] theorem apCall {F : Fn} : evCall F es E = (es E).bind fun as => apF F as := (rfl)
@[simp] theorem apCallN {F : Fn} : evCallN F es E = (es E).bind fun as => nox (apF F as) := (rfl)
@[simp] theorem apMeth {m tbl} : evMeth m tbl ea es E = (ea E).bind fun o => (lift (dsp m tbl o.arg)).bind fun F => (es E).bind fun as => apF F (o.arg :: as) := (rfl)
@[simp] theorem apMethN {m tbl} : evMethN m tbl ea es E = (ea E).bind fun o => (lift (dsp m tbl o.arg)).bind fun F => (es E).bind fun as => nox (apF F (o.arg :: as)) := (rfl)
@[simp] theorem apMake {c F} : evMake c F es E = (es E).bind fun as => apI c F as := (rfl)
@[simp] theorem apMakeN {c F} : evMakeN c F es E = (es E).bind fun as => nox (apI c F as) := (rfl)
theorem apF_v {F : Fn} {as d} (h : okArgs as = true) (e : F as = .v d) : apF F as = .ok (.s (.val d)) := by unfold apF; rw [if_pos h, e]
theorem apF_own {F : Fn} {as d} (h : okArgs as = true) (e : F as = .own d) : apF F as = .ok (.fr d) := by unfold apF; rw [if_pos h, e]
theorem apI_v {c F} {as d} (h : okArgs as = true) (e : F as = .ok d) : apI c F as = .ok (.s (.val (.obj c d))) := by unfold apI; rw [if_pos h, e]
@[simp] theorem nox_ok {α : Type} {x : α} : nox (.ok x) = .ok x := (rfl)
@[simp] theorem okArgs0 : okArgs [] = true := (rfl)
@[simp] theorem okArgs1 {s r} : okArgs (s :: r) = (okArg s && okArgs r) := (rfl)
@[simp] theorem okArg_val : okArg (.val d) = true := (rfl)
@[simp] theorem okArg_red {l} : okArg (.red l) = true := (rfl)
@[simp] theorem okArg_scr {l} : okArg (.scr l) = true := (rfl)
@[simp] theorem apFor {it : EvI} {gv : EvG} {ws} : evFor it gv b ws E = (match it E with | .ok items => forE gv b ws items E | .ex c => .ex c E | .no => .no) := (rfl)
@[simp] theorem apLc {it : EvI} {gv : EvG} {ws} : evLc it gv t ea ws E = (it E).bind fun items => (match lcR (lcT gv t ea ws E) items with
  | some l => if l.length ≤ 100000 then .ok (.fr l) else .no
  | none => .no) := (rfl)
@[simp] theorem apRng1 : evRng1 ea E = (ea E).bind fun x => (lift (inS x.arg)).bind fun n => if -4000000 ≤ n ∧ n ≤ 4000000 then .ok (rgL 0 n.toNat) else .no := (rfl)
@[simp] theorem apRng2 : evRng2 ea eb E = (ea E).bind fun x => (eb E).bind fun y => (lift (inS x.arg)).bind fun a => (lift (inS y.arg)).bind fun b => if -4000000 ≤ a ∧ a ≤ 4000000 ∧ -4000000 ≤ b ∧ b ≤ 4000000 then .ok (rgL a (b - a).toNat) else .no := (rfl)
@[simp] theorem apIt : evIt ea E = (ea E).bind fun r => lift ((lstS r.arg).or (tpS r.arg)) := (rfl)
@[simp] theorem apItV : evItV i E = (match E[i]? with | some (.red l) => .ok l | _ => evIt (evVar i) E) := (rfl)
@[simp] theorem apEn : evEn ea E = (ea E).bind fun r => (lift (lstS r.arg)).bind fun l => .ok (enL l) := (rfl)
@[simp] theorem apEnV : evEnV i E = (match E[i]? with | some (.red l) => .ok (enL l) | _ => evEn (evVar i) E) := (rfl)
@[simp] theorem lstS1 {l} : lstS (.val (.lst l)) = some l := (rfl)
@[simp] theorem lstS2 {l} : lstS (.val (.tup l)) = none := (rfl)
@[simp] theorem tpS1 {l} : tpS (.val (.tup l)) = some l := (rfl)
@[simp] theorem tpS2 {l} : tpS (.val (.lst l)) = none := (rfl)
@[simp] theorem tpS3 {l} : tpS (.red l) = none := (rfl)
@[simp] theorem sqS1 {l} : sqS (.val (.lst l)) = some l := (rfl)
@[simp] theorem sqS2 {l} : sqS (.red l) = some l := (rfl)
@[simp] theorem sqS3 {l} : sqS (.scr l) = some (l.map D.int) := (rfl)
@[simp] theorem sqS4 {l} : sqS (.val (.tup l)) = none := (rfl)
@[simp] theorem sqS5 {l} : sqS (.val (.int l)) = none := (rfl)
@[simp] theorem lsS1 {l} : lsS (.val (.lst l)) = some l := (rfl)
@[simp] theorem lsS2 {l} : lsS (.red l) = some l := (rfl)
@[simp] theorem lsS3 {l} : lsS (.val (.int l)) = none := (rfl)
@[simp] theorem uSub {x y} : fSub x y = (fIx x y).or (fDGet x y) := (rfl)
@[simp] theorem uAdd {x y} : fAdd x y = (fI (fun _ _ => true) (fun a b => .int (a + b)) x y).or (((fCat x y).or ((fCatT x y).or (fStrCat x y)))) := (rfl)
@[simp] theorem uMul {x y} : fMul x y = (fI cMul (fun a b => .int (a * b)) x y).or (fRep x y) := (rfl)
@[simp] theorem uEq {x y} : fEq x y = (fEqF false x y).or (fEqD false x y) := (rfl)
@[simp] theorem uNe {x y} : fNe x y = (fEqF true x y).or (fEqD true x y) := (rfl)
@[simp] theorem uInA {n x y} : fInA n x y = (fIn n x y).or (fDIn n x y) := (rfl)
@[simp] theorem uoSub {a b} : oSub (.val (.int a)) (.val (.int b)) = some (vI (a - b)) := (rfl)
@[simp] theorem uoDiv {a b} : oDiv (.val (.int a)) (.val (.int b)) = if 0 < b ∧ b < 4611686018427387904 then some (vI (a / b)) else none := by
  show (if decide _ = true then _ else _) = _; simp
@[simp] theorem uoMod {a b} : oMod (.val (.int a)) (.val (.int b)) = if 0 < b then some (vI (a % b)) else none := by
  show (if decide _ = true then _ else _) = _; simp
@[simp] theorem uoLt {a b} : oLt (.val (.int a)) (.val (.int b)) = some (vB (decide (a < b))) := (rfl)
@[simp] theorem uoLe {a b} : oLe (.val (.int a)) (.val (.int b)) = some (vB (decide (a ≤ b))) := (rfl)
@[simp] theorem uoGt {a b} : oGt (.val (.int a)) (.val (.int b)) = some (vB (decide (b < a))) := (rfl)
@[simp] theorem uoGe {a b} : oGe (.val (.int a)) (.val (.int b)) = some (vB (decide (b ≤ a))) := (rfl)
@[simp] theorem uNeg {a} : fNeg (.val (.int a)) = some (vI (-a)) := (rfl)
theorem cMul_r {a b : Int} (h1 : -(2 ^ 64) < b) (h2 : b < 2 ^ 64) : cMul a b = true := by unfold cMul; rw [decide_eq_true_eq]; exact .inr (.inl ⟨h1, h2⟩)
@[simp] theorem cMul_mod {a b m : Int} (h : 0 < m) (h2 : m ≤ 18446744073709551616) : cMul a (b % m) = true := cMul_r (by have := Int.emod_nonneg b (show m ≠ 0 by omega); omega) (by have := Int.emod_lt_of_pos b h; omega)
@[simp] theorem cMul_lit {a b : Int} (h : -18446744073709551616 < b) (h2 : b < 18446744073709551616) : cMul a b = true := cMul_r (by omega) (by omega)
theorem cMul_l {a b : Int} (h1 : -(2 ^ 64) < a) (h2 : a < 2 ^ 64) : cMul a b = true := by unfold cMul; rw [decide_eq_true_eq]; exact .inl ⟨h1, h2⟩
@[simp] theorem fI_int {c g a b} : fI c g (.val (.int a)) (.val (.int b)) = if c a b = true then some (.s (.val (g a b))) else none := (rfl)
@[simp] theorem fI_l {c g l y} : fI c g (.val (.lst l)) y = none := by unfold fI; split <;> simp_all
@[simp] theorem fI_r {c g l y} : fI c g (.red l) y = none := by unfold fI; split <;> simp_all
@[simp] theorem fCmpI_int {g a b} : fCmpI g (.val (.int a)) (.val (.int b)) = some (vB (g a b)) := (rfl)
@[simp] theorem eqF_int {neg a b} : fEqF neg (.val (.int a)) (.val (.int b)) = some (vB (if neg then !decide (a = b) else decide (a = b))) := (rfl)
@[simp] theorem eqF_bl {neg a b} : fEqF neg (.val (.bl a)) (.val (.bl b)) = some (vB (if neg then !decide (a = b) else decide (a = b))) := (rfl)
@[simp] theorem fInt_int {i} : fInt [.val (.int i)] = some (vI i) := (rfl)
@[simp] theorem fAbs_int {i} : fAbs [.val (.int i)] = some (vI (if i < 0 then -i else i)) := (rfl)
@[simp] theorem fLen_lst {l} : fLen [.val (.lst l)] = some (vI l.length) := (rfl)
@[simp] theorem fLen_tup {l} : fLen [.val (.tup l)] = some (vI l.length) := (rfl)
@[simp] theorem fLen_red {l} : fLen [.red l] = some (vI l.length) := (rfl)
@[simp] theorem fLen_nst {l} : fLen [.nst l] = some (vI l.length) := (rfl)
@[simp] theorem fLen_scr {l} : fLen [.scr l] = some (vI l.length) := by show some (vI ((l.map D.int).length : Int)) = _; rw [List.length_map]
@[simp] theorem fList_lst {l} : fList [.val (.lst l)] = some (.fr l) := (rfl)
@[simp] theorem fList_red {l} : fList [.red l] = some (.fr l) := (rfl)
@[simp] theorem fIx_lst {l i} : fIx (.val (.lst l)) (.val (.int i)) = (atI l i).map fun d => .s (.val d) := (rfl)
@[simp] theorem fIx_red {l i} : fIx (.red l) (.val (.int i)) = (atI l i).map fun d => .s (.val d) := (rfl)
@[simp] theorem fIx_tup {l i} : fIx (.val (.tup l)) (.val (.int i)) = (atI l i).map fun d => .s (.val d) := (rfl)
@[simp] theorem fIx_scr {l i} : fIx (.scr l) (.val (.int i)) = (atI l i).map fun n => vI n := (rfl)
@[simp] theorem fIx_nst {l i} : fIx (.nst l) (.val (.int i)) = (atI l i).map fun n => .s (.red n) := (rfl)
@[simp] theorem fIx_dic {kvs y} : fIx (.val (.dic kvs)) y = none := by cases y with
  | val d => cases d <;> rfl
  | _ => rfl
@[simp] theorem fDGet_int {kvs} {k : Int} : fDGet (.val (.dic kvs)) (.val (.int k)) = (lkD kvs (.inl k)).map fun d => .s (.val d) := (rfl)
@[simp] theorem isN_non {b} : fIsN b (.val .non) = some (vB (if b then !true else true)) := (rfl)
@[simp] theorem isN_int {b i} : fIsN b (.val (.int i)) = some (vB (if b then !false else false)) := (rfl)
@[simp] theorem isN_bl {b i} : fIsN b (.val (.bl i)) = some (vB (if b then !false else false)) := (rfl)
@[simp] theorem isN_lst {b i} : fIsN b (.val (.lst i)) = some (vB (if b then !false else false)) := (rfl)
@[simp] theorem isN_tup {b i} : fIsN b (.val (.tup i)) = some (vB (if b then !false else false)) := (rfl)
@[simp] theorem isN_red {b i} : fIsN b (.red i) = some (vB (if b then !false else false)) := (rfl)
@[simp] theorem tr_bl {b} : trS (.val (.bl b)) = some b := (rfl)
@[simp] theorem tr_int {b} : trS (.val (.int b)) = some (b != 0) := (rfl)
@[simp] theorem tr_lst {b} : trS (.val (.lst b)) = some (!b.isEmpty) := (rfl)
@[simp] theorem tr_red {b} : trS (.red b) = some (!b.isEmpty) := (rfl)
@[simp] theorem blR_bl {b} : blR (.s (.val (.bl b))) = some b := (rfl)
@[simp] theorem argD_r {r : R} {d} (h : r.arg = .val d) : argD r = some d := by unfold argD; rw [h]; rfl
@[simp] theorem toDs0 : toDs [] = some [] := (rfl)
@[simp] theorem toDs1 {ss} : toDs (.val d :: ss) = (toDs ss).map (d :: ·) := by
  show (match (Sl.val d).toD, toDs ss with | some d, some ds => some (d :: ds) | _, _ => none) = _
  cases toDs ss <;> rfl
@[simp] theorem apLst {xs ds} (h : toDs xs = some ds) (h2 : ds.length ≤ 100000) : fLst xs = some (.fr ds) := by unfold fLst; rw [h]; simp [h2]
@[simp] theorem apTupl {xs ds} (h : toDs xs = some ds) (h2 : ds.length ≤ 100000) : fTup xs = some (.s (.val (.tup ds))) := by unfold fTup; rw [h]; simp [h2]
end
abbrev iL (ns : List Int) : List D := ns.map D.int
abbrev lI (ns : List Int) : D := .lst (iL ns)
abbrev vls (ns : List Int) : List V := ns.map V.int
@[simp] theorem toInts_ints : ∀ ns : List Int, toInts (iL ns) = some ns
  | [] => rfl
  | n :: ns => by
    show (match toInt (.int n), toInts (iL ns) with | some v, some vs => some (v :: vs) | _, _ => none) = _
    rw [toInts_ints ns]; rfl
@[simp] theorem flats_ints : ∀ ns : List Int, flats (iL ns) = some (vls ns)
  | [] => rfl
  | n :: ns => by
    show (match flat (.int n), flats (iL ns) with | some v, some vs => some (v :: vs) | _, _ => none) = _
    rw [flats_ints ns]; rfl
theorem inV_ints (n : Int) (ns : List Int) : inV (.int n) (vls ns) = decide (n ∈ ns) := by
  unfold inV
  induction ns with
  | nil => rfl
  | cons a l ih =>
    show ((eqV (.int a) (.int n)) || (vls l).any _) = _
    rw [ih, eqV_int, Bool.eq_iff_iff, Bool.or_eq_true, decide_eq_true_eq, decide_eq_true_eq, decide_eq_true_eq, List.mem_cons]
    exact ⟨fun h => h.imp Eq.symm id, fun h => h.imp Eq.symm id⟩
@[simp] theorem fIn_ints {neg : Bool} {x : Sl} {n : Int} {ns : List Int} (h : (sqS x).or (tpS x) = some (iL ns)) : fIn neg (.val (.int n)) x = some (vB (if neg then !decide (n ∈ ns) else decide (n ∈ ns))) := by
  unfold fIn; rw [h]; simp only [flats_ints]
  show some (vB (if neg then !inV _ _ else inV _ _)) = _
  rw [inV_ints]
@[simp] theorem or_some {α : Type} {a : α} {b : Option α} : (some a).or b = some a := (rfl)
@[simp] theorem or_none {α : Type} {b : Option α} : (none : Option α).or b = b := (rfl)
theorem isS1 {x : Sl} {ns : List Int} (h : sqS x = some (iL ns)) : isS [x] = some ns := by show (sqS x).bind toInts = _; rw [h]; simp
theorem fMinL_ints {x : Sl} {ns : List Int} (h : sqS x = some (iL ns)) (h0 : ns ≠ []) : fMinL [x] = some (vI (mnI ns)) := by
  unfold fMinL; rw [isS1 h]; cases ns with | nil => exact absurd rfl h0 | cons a l => rfl
@[simp] theorem fMax2_1 {x : Sl} : fMax2 [x] = none := by unfold fMax2; split <;> simp_all
@[simp] theorem fMin2_1 {x : Sl} : fMin2 [x] = none := by unfold fMin2; split <;> simp_all
theorem at_nat {α : Type} {xs : List α} {k : Int} (h0 : 0 ≤ k) : atI xs k = xs[k.toNat]? := by
  have e : ixN xs.length k = some k.toNat ∨ (ixN xs.length k = none ∧ xs[k.toNat]? = none) := by
    unfold ixN
    by_cases h : 0 ≤ k ∧ k < xs.length
    · left; rw [if_pos (by omega), if_pos (by omega)]
    · right
      have : (xs.length : Int) ≤ k := by omega
      have h2 : xs.length ≤ k.toNat := by omega
      refine ⟨?_, List.getElem?_eq_none h2⟩
      rw [if_pos h0, if_neg (by omega)]
  rcases e with e | ⟨e, e2⟩
  · unfold atI; rw [e]; rfl
  · unfold atI; rw [e, e2]; rfl
@[simp] theorem toBls_bls : ∀ bs : List Bool, toBls (bs.map D.bl) = some bs
  | [] => rfl
  | n :: ns => by show (toBls (ns.map D.bl)).map _ = _; rw [toBls_bls ns]; rfl
theorem fAll_bls {x : Sl} {bs : List Bool} (h : sqS x = some (bs.map D.bl)) : fAll [x] = some (vB (bs.all id)) := by show ((sqS x).bind toBls).map (fun ns => vB (ns.all id)) = _; rw [h]; simp
theorem fAny_bls {x : Sl} {bs : List Bool} (h : sqS x = some (bs.map D.bl)) : fAny [x] = some (vB (bs.any id)) := by show ((sqS x).bind toBls).map (fun ns => vB (ns.any id)) = _; rw [h]; simp
def stepO (ws : List Nat) : O → Option En
  | .nx E => some (wp ws E)
  | .ct E => some (wp ws E)
  | _ => none
@[simp] theorem stepO_nx {ws E} : stepO ws (.nx E) = some (wp ws E) := (rfl)
@[simp] theorem stepO_ct {ws E} : stepO ws (.ct E) = some (wp ws E) := (rfl)
theorem forE_fun {gv : EvG} {b : EvS} {ws : List Nat} : ∀ (l : List D) (S : Nat → En), (∀ i d, l[i]? = some d → (gv d (S i)).bind (fun E1 => stepO ws (b E1)) = some (S (i + 1))) → forE gv b ws l (S 0) = .nx (S l.length)
  | [], S, _ => rfl
  | d :: l, S, h => by
    have h0 := h 0 d rfl
    have ih := forE_fun l (fun i => S (i + 1)) (fun i d e => h (i + 1) d e)
    show (match gv d (S 0) with | none => O.no | some E1 => (match b E1 with | .nx E2 => forE gv b ws l (wp ws E2) | .ct E2 => forE gv b ws l (wp ws E2) | .bk E2 => .nx (wp ws E2) | .rt r => .rt r | .ex c E2 => .ex c E2 | .no => .no)) = _
    cases g : gv d (S 0) with
    | none => rw [g] at h0; cases h0
    | some E1 =>
      rw [g] at h0
      have h1 : stepO ws (b E1) = some (S 1) := h0
      cases hb : b E1 with
      | nx E2 => rw [hb] at h1; dsimp only; rw [hb]; dsimp only; rw [show wp ws E2 = S 1 from Option.some.inj h1]; exact ih
      | ct E2 => rw [hb] at h1; dsimp only; rw [hb]; dsimp only; rw [show wp ws E2 = S 1 from Option.some.inj h1]; exact ih
      | bk E2 => rw [hb] at h1; cases h1
      | rt r => rw [hb] at h1; cases h1
      | ex c E2 => rw [hb] at h1; cases h1
      | no => rw [hb] at h1; cases h1
theorem rgL_at {n i : Nat} {d : D} (e : (rgL 0 n)[i]? = some d) : i < n ∧ d = .int (i : Nat) := by
  unfold rgL at e
  rw [List.getElem?_map] at e
  cases hr : (List.range n)[i]? with
  | none => rw [hr] at e; cases e
  | some k =>
    rw [hr] at e
    obtain ⟨hk, hk2⟩ := List.getElem?_eq_some_iff.mp hr
    rw [List.getElem_range] at hk2
    subst hk2
    rw [List.length_range] at hk
    refine ⟨hk, ?_⟩
    rw [← Option.some.inj e]
    show D.int (0 + (i : Int)) = _
    rw [Int.zero_add]
theorem forE_rg {gv : EvG} {b : EvS} {ws : List Nat} {n : Nat} {E : En} (S : Nat → En) (h0 : E = S 0) (h : ∀ i, i < n → (gv (.int (i : Nat)) (S i)).bind (fun E1 => stepO ws (b E1)) = some (S (i + 1))) : forE gv b ws (rgL 0 n) E = .nx (S n) := by
  have := forE_fun (gv := gv) (b := b) (ws := ws) (rgL 0 n) S (fun i d e => by
    obtain ⟨hi, e2⟩ := rgL_at e
    rw [e2]; exact h i hi)
  rw [h0, this]
  unfold rgL
  rw [List.length_map, List.length_range]
theorem lcR_map {α : Type} {f : D → Option (List D)} {h : α → D} {g : α → List D} : ∀ (l : List α), (∀ a ∈ l, f (h a) = some (g a)) → lcR f (l.map h) = some (l.flatMap g)
  | [], _ => rfl
  | a :: l, hh => by
    show (f (h a)).bind (fun l' => (lcR f (l.map h)).map fun m => l' ++ m) = _
    rw [hh a (by simp), lcR_map l (fun b hb => hh b (List.mem_cons_of_mem _ hb))]
    rfl
theorem lcR_one {α : Type} {f : D → Option (List D)} {h : α → D} {k : α → D} (l : List α) (hh : ∀ a ∈ l, f (h a) = some [k a]) : lcR f (l.map h) = some (l.map k) := by
  rw [lcR_map l hh]
  clear hh
  congr 1
  induction l with
  | nil => rfl
  | cons a l ih => rw [List.flatMap_cons, List.map_cons, ih]; rfl
theorem lcR_filt {α : Type} {f : D → Option (List D)} {h : α → D} {k : α → D} {p : α → Bool} (l : List α) (hh : ∀ a ∈ l, f (h a) = some (if p a = true then [k a] else [])) : lcR f (l.map h) = some ((l.filter p).map k) := by
  rw [lcR_map l hh]
  clear hh
  congr 1
  induction l with
  | nil => rfl
  | cons a l ih =>
    rw [List.flatMap_cons, ih, List.filter_cons]
    split <;> rfl
end Ev
set_option maxHeartbeats 1000000
namespace Sh
open PySem PySem.Spec PyProof.Rows L2 Ab Ev
abbrev hv (d : D) : Res R := .ok (.s (.val d))
abbrev hr (l : List D) : Res R := .ok (.s (.red l))
abbrev hw (s : Sl) : Res R := .ok (.s s)
def hj (s : Sl) : Res R := lift (rdSl s)
def hUn (f : Sl → Option R) (a : Res R) : Res R := a.bind fun x => lift (f x.arg)
def hBin (f : Sl → Sl → Option R) (a b : Res R) : Res R := a.bind fun x => b.bind fun y => lift (f x.arg y.arg)
def hNil : Res (List Sl) := .ok []
def hCons (a : Res R) (as : Res (List Sl)) : Res (List Sl) := a.bind fun x => as.bind fun xs => .ok (x.arg :: xs)
def hSnoc (as : Res (List Sl)) (a : Res R) : Res (List Sl) := as.bind fun as => a.bind fun r => .ok (as ++ [r.arg])
def hCB (f : List Sl → Option R) (as : Res (List Sl)) : Res R := as.bind fun x => lift (f x)
def hO (a : Res R) : Res (Option Int) := a.bind fun x => (lift (inS x.arg)).bind fun i => .ok (some i)
def hONo : Res (Option Int) := .ok none
def hSl (a : Res R) (l h : Res (Option Int)) : Res R := a.bind fun x => l.bind fun l => h.bind fun h => lift (fSl x.arg l h)
def hIf (t : Res Bool) (a b : Res R) : Res R := t.bind fun c => if c = true then a else b
def hAnd (a b : Res R) : Res R := a.bind fun x => (lift (trS x.arg)).bind fun t => if t = true then b else .ok (.s x.arg)
def hOr (a b : Res R) : Res R := a.bind fun x => (lift (trS x.arg)).bind fun t => if t = true then .ok (.s x.arg) else b
def hNot (a : Res R) : Res R := a.bind fun x => (lift (trS x.arg)).bind fun t => .ok (vB (!t))
def hChain (f g : Sl → Sl → Option R) (a b c : Res R) : Res R := a.bind fun x => b.bind fun y => (lift (f x.arg y.arg)).bind fun r => (lift (blR r)).bind fun t => if t = true then c.bind fun z => lift (g y.arg z.arg) else .ok (vB false)
def tTru (a : Res R) : Res Bool := a.bind fun x => lift (trS x.arg)
def tTB (a : Res R) : Res Bool := a.bind fun x => lift (blR x)
def tAnd (a b : Res Bool) : Res Bool := a.bind fun x => if x = true then b else .ok false
def tOr (a b : Res Bool) : Res Bool := a.bind fun x => if x = true then .ok true else b
def tNot (a : Res Bool) : Res Bool := a.bind fun x => .ok (!x)
def tYes : Res Bool := .ok true
def hCall (F : Fn) (as : Res (List Sl)) : Res R := as.bind fun as => apF F as
def hCallN (F : Fn) (as : Res (List Sl)) : Res R := as.bind fun as => nox (apF F as)
def hMeth (m : Str) (tbl : List (Str × Fn)) (o : Res R) (as : Res (List Sl)) : Res R := o.bind fun o => (lift (dsp m tbl o.arg)).bind fun F => as.bind fun as => apF F (o.arg :: as)
def hMethN (m : Str) (tbl : List (Str × Fn)) (o : Res R) (as : Res (List Sl)) : Res R := o.bind fun o => (lift (dsp m tbl o.arg)).bind fun F => as.bind fun as => nox (apF F (o.arg :: as))
def hMake (c : Str) (F : Fi) (as : Res (List Sl)) : Res R := as.bind fun as => apI c F as
def hMakeN (c : Str) (F : Fi) (as : Res (List Sl)) : Res R := as.bind fun as => nox (apI c F as)
def hBM (chk : Sl → Bool) (f : Sl → Sl → Option R) (o a : Res R) : Res R := o.bind fun o => if chk o.arg = true then a.bind fun y => lift (f o.arg y.arg) else .no
def hRg1 (a : Res R) : Res (Int × Int) := a.bind fun x => (lift (inS x.arg)).bind fun n => .ok (0, n)
def hRg2 (a b : Res R) : Res (Int × Int) := a.bind fun x => b.bind fun y => (lift (inS x.arg)).bind fun a => (lift (inS y.arg)).bind fun b => .ok (a, b)
def hLstRg (r : Res (Int × Int)) : Res R := r.bind fun ab => if rgOkB ab.1 ab.2 = true then .ok (.fr ((rgI' ab.1 ab.2).map D.int)) else .no
def hGet1 (o a : Res R) : Res R := o.bind fun o => if isDc o.arg = true then a.bind fun y => lift (fGet1 o.arg y.arg) else .no
def hGet2 (o a d : Res R) : Res R := o.bind fun o => if isDc o.arg = true then a.bind fun y => d.bind fun z => lift (fGet2 o.arg y.arg z.arg) else .no
def hDNew : Res R := .ok (.frk [])
def hD1 (k e : Res R) : Res R := k.bind fun rk => e.bind fun r => match keyS rk.arg, argD r with
  | some k, some d => .ok (.frk [(k, d)])
  | _, _ => .no
def hPNil : Res (List (Key × D)) := .ok []
def hPCons (k e : Res R) (p : Res (List (Key × D))) : Res (List (Key × D)) := k.bind fun rk => e.bind fun r => match keyS rk.arg, argD r with
  | some k, some d => p.bind fun l => .ok ((k, d) :: l)
  | _, _ => .no
def hDN (p : Res (List (Key × D))) : Res R := p.bind fun l => .ok (.frk (mgD l))
def iRng3 (a b c : Res R) : Res (List D) := a.bind fun x => b.bind fun y => c.bind fun z => (lift (inS x.arg)).bind fun a => (lift (inS y.arg)).bind fun b => (lift (inS z.arg)).bind fun c => (lift (rgSz a b c)).bind fun n => .ok (rgS a c n)
def iRev (a : Res R) : Res (List D) := a.bind fun r => (lift (lstS r.arg)).bind fun l => .ok l.reverse
def iRng1 (a : Res R) : Res (List D) := a.bind fun x => (lift (inS x.arg)).bind fun n => if -4000000 ≤ n ∧ n ≤ 4000000 then .ok (rgL 0 n.toNat) else .no
def iRng2 (a b : Res R) : Res (List D) := a.bind fun x => b.bind fun y => (lift (inS x.arg)).bind fun a => (lift (inS y.arg)).bind fun b => if -4000000 ≤ a ∧ a ≤ 4000000 ∧ -4000000 ≤ b ∧ b ≤ 4000000 then .ok (rgL a (b - a).toNat) else .no
def iIt (a : Res R) : Res (List D) := a.bind fun r => lift ((lstS r.arg).or (tpS r.arg))
def iEn (a : Res R) : Res (List D) := a.bind fun r => (lift (lstS r.arg)).bind fun l => .ok (enL l)
def iZip (a b : Res R) : Res (List D) := a.bind fun r => b.bind fun r' => (lift (lstS r.arg)).bind fun l => (lift (lstS r'.arg)).bind fun m => .ok (zipL l m)
def q2 {γ : Type} (no : γ) (d : D) (k : D → D → γ) : γ := match d with | .tup [a, b] => k a b | _ => no
def q3 {γ : Type} (no : γ) (d : D) (k : D → D → D → γ) : γ := match d with | .tup [a, b, c] => k a b c | _ => no
def q4 {γ : Type} (no : γ) (d : D) (k : D → D → D → D → γ) : γ := match d with | .tup [a, b, c, e] => k a b c e | _ => no
def q5 {γ : Type} (no : γ) (d : D) (k : D → D → D → D → D → γ) : γ := match d with | .tup [a, b, c, e, f] => k a b c e f | _ => no
def lcS (t : Res Bool) (e : Res R) : Option (List D) := match t with
  | .ok b => if b = true then (match e with
    | .ok r => (argD r).map fun d => [d]
    | _ => none) else some []
  | _ => none
def lc2S (t : Res Bool) (it : Res (List D)) (f : D → Option (List D)) : Option (List D) := match t with
  | .ok b => if b = true then (match it with
    | .ok items => lcR f items
    | _ => none) else some []
  | _ => none
def dcS (t : Res Bool) (k e : Res R) : Option (Option (Key × D)) := match t with
  | .ok b => if b = true then (match k with
    | .ok rk => match e with
      | .ok r => match keyS rk.arg, argD r with
        | some k, some d => some (some (k, d))
        | _, _ => none
      | _ => none
    | _ => none) else some none
  | _ => none
def hLc (it : Res (List D)) (f : D → Option (List D)) : Res R := it.bind fun items => match lcR f items with
  | some l => if l.length ≤ 100000 then .ok (.fr l) else .no
  | none => .no
def hDc (it : Res (List D)) (f : D → Option (Option (Key × D))) : Res R := it.bind fun items => match dcR f items [] with
  | some l => .ok (.frk l)
  | none => .no
inductive Oc (α β : Type) where
  | nx (a : α)
  | ct (b : β)
  | bk (b : β)
  | rt (r : R)
  | ex (c : Str)
  | no
section
variable {α β γ δ σ : Type}
def Oc.bind (o : Oc α β) (f : α → Oc γ β) : Oc γ β := match o with
  | .nx a => f a
  | .ct b => .ct b
  | .bk b => .bk b
  | .rt r => .rt r
  | .ex c => .ex c
  | .no => .no
def bnd (e : Res R) (f : D → Oc α β) : Oc α β := match e with
  | .ok r => (match r.arg with
    | .val d => f d
    | _ => .no)
  | .ex c => .ex c
  | .no => .no
def bndO (e : Res R) (f : List D → Oc α β) : Oc α β := match e with
  | .ok (.fr l) => f l
  | .ex c => .ex c
  | _ => .no
def bndK (e : Res R) (f : List (Key × D) → Oc α β) : Oc α β := match e with
  | .ok (.frk l) => f l
  | .ex c => .ex c
  | _ => .no
def bndI (e : Res (List D)) (f : List D → Oc α β) : Oc α β := match e with
  | .ok l => f l
  | .ex c => .ex c
  | .no => .no
def iteC (t : Res Bool) (a b : Unit → Oc α β) : Oc α β := match t with
  | .ok c => if c = true then a () else b ()
  | .ex c => .ex c
  | .no => .no
def ret (e : Res R) : Oc α β := match e with
  | .ok (.fr l) => .rt (.fr l)
  | .ok r => (match r.arg with
    | .val d => .rt (.s (.val d))
    | _ => .no)
  | .ex c => .ex c
  | .no => .no
def drp (e : Res R) (f : Oc α β) : Oc α β := match e with
  | .ok _ => f
  | .ex c => .ex c
  | .no => .no
def augG (x : D) (f : Int → Int → Int) (e : Res R) (k : D → Oc α β) : Oc α β := match x, e with
  | .int a, .ok (.s (.val (.int b))) => k (.int (f a b))
  | _, _ => .no
def appO (l : List D) (e : Res R) (k : List D → Oc α β) : Oc α β := match e with
  | .ok r => (match r.arg with
    | .val d => if l.length < 100000 then k (l ++ [d]) else .no
    | _ => .no)
  | _ => .no
def tryD (e : Res R) (f : Str → Oc α β) (k : Oc α β) : Oc α β := match e with
  | .ok _ => k
  | .ex c => f c
  | .no => .no
def tryR (e : Res R) (f : Str → Oc α β) : Oc α β := match e with
  | .ok r => ret (.ok r)
  | .ex c => f c
  | .no => .no
def extO (l : List D) (e : Res R) (k : List D → Oc α β) : Oc α β := match e with
  | .ok r => (match anyS r.arg with
    | some ys => if l.length + ys.length < 100000 then k (l ++ ys) else .no
    | none => .no)
  | _ => .no
def forG (f : D → σ → Oc σ σ) : List D → σ → Oc σ β
  | [], s => .nx s
  | d :: ds, s => match f d s with
    | .nx s => forG f ds s
    | .ct s => forG f ds s
    | .bk s => .nx s
    | .rt r => .rt r
    | .ex c => .ex c
    | .no => .no
def run (o : Oc Unit Empty) : Res R := match o with
  | .nx _ => .ok (.s (.val .non))
  | .rt r => .ok r
  | .ex c => .ex c
  | _ => .no
def Le (g a : Res R) : Prop := g = .no ∨ a = g
theorem Le.ok {g a : Res R} {r : R} (h : Le g a) (e : g = .ok r) : a = .ok r := by
  rcases h with h | h
  · rw [h] at e; cases e
  · rw [h, e]
theorem Le.ex {g a : Res R} {c : Str} (h : Le g a) (e : g = .ex c) : a = .ex c := by
  rcases h with h | h
  · rw [h] at e; cases e
  · rw [h, e]
def J (N : α → En → Prop) (L : β → En → Prop) (o : O) (g : Oc α β) : Prop := match g with
  | .nx a => ∃ E, o = .nx E ∧ N a E
  | .ct b => ∃ E, o = .ct E ∧ L b E
  | .bk b => ∃ E, o = .bk E ∧ L b E
  | .rt (.fr l) => o = .rt (.own l)
  | .rt (.s (.val d)) => o = .rt (.v d)
  | .rt _ => False
  | .ex c => ∃ E, o = .ex c E
  | .no => True
def PJ (o : Option En) (P : En → γ → Prop) (no : γ) (g : γ) : Prop := match o with
  | none => g = no
  | some E => P E g
variable {N : α → En → Prop} {L : β → En → Prop} {E : En} {a b c : EvS} {g : Oc α β}
theorem j_end (h : J N L (evSeq a evNext E) g) : J N L (a E) g := by
  have : evSeq a evNext E = a E := by unfold evSeq evNext; cases a E <;> rfl
  rwa [this] at h
theorem j_assoc (h : J N L (evSeq a (evSeq b c) E) g) : J N L (evSeq (evSeq a b) c E) g := by
  have : evSeq (evSeq a b) c E = evSeq a (evSeq b c) E := by unfold evSeq; cases a E <;> rfl
  rwa [this]
theorem j_skip (h : J N L (c E) g) : J N L (evSeq evNext c E) g := h
theorem j_frz {i : Nat} (h : J N L (evSeq a c (frzE i E)) g) : J N L (evSeq (evFrz i a) c E) g := h
theorem j_nx {x : α} (h : N x E) : J N L (evNext E) (.nx x) := ⟨E, rfl, h⟩
theorem frz_set {i : Nat} {l : List D} : frzE i (E.set i (.own l)) = E.set i (.val (.lst l)) := by
  unfold frzE
  by_cases h : i < E.length
  · rw [List.getElem?_set_self h]; dsimp only; rw [List.set_set]
  · rw [List.set_eq_of_length_le (by omega), List.set_eq_of_length_le (by omega), List.getElem?_eq_none (by omega)]
theorem frz_setk {i : Nat} {l : List (Key × D)} : frzE i (E.set i (.dic l)) = E.set i (.val (.dic l)) := by
  unfold frzE
  by_cases h : i < E.length
  · rw [List.getElem?_set_self h]; dsimp only; rw [List.set_set]
  · rw [List.set_eq_of_length_le (by omega), List.set_eq_of_length_le (by omega), List.getElem?_eq_none (by omega)]
theorem frz_sett {i : Nat} {l : List (List Key × D)} : frzE i (E.set i (.dct l)) = E.set i (.val (.dct l)) := by
  unfold frzE
  by_cases h : i < E.length
  · rw [List.getElem?_set_self h]; dsimp only; rw [List.set_set]
  · rw [List.set_eq_of_length_le (by omega), List.set_eq_of_length_le (by omega), List.getElem?_eq_none (by omega)]
theorem frz_setv {i : Nat} {d : D} : frzE i (E.set i (.val d)) = E.set i (.val d) := by
  unfold frzE
  by_cases h : i < E.length
  · rw [List.getElem?_set_self h]
  · rw [List.set_eq_of_length_le (by omega), List.getElem?_eq_none (by omega)]
theorem j_setV {i : Nat} {ea : EvE} {e : Res R} {f : D → Oc α β} (he : ea E = e) (h : ∀ d, J N L (evSeq b c (E.set i (.val d))) (f d)) : J N L (evSeq (evSet i ea) (evSeq (evFrz i b) c) E) (bnd e f) := by
  subst he
  unfold evSeq evSet bnd
  cases ea E with
  | ok r =>
    cases r with
    | s x =>
      cases x with
      | val d => dsimp only [R.arg, R.sl]; have h2 := h d; rw [← frz_setv] at h2; exact h2
      | _ => trivial
    | fr l => dsimp only [R.arg, R.sl]; have h2 := h (.lst l); rw [← frz_set] at h2; exact h2
    | frk l => dsimp only [R.arg, R.sl]; have h2 := h (.dic l); rw [← frz_setk] at h2; exact h2
    | frt l => dsimp only [R.arg, R.sl]; have h2 := h (.dct l); rw [← frz_sett] at h2; exact h2
  | ex x => exact ⟨E, rfl⟩
  | no => trivial
theorem j_setO {i : Nat} {ea : EvE} {e : Res R} {f : List D → Oc α β} (he : ea E = e) (h : ∀ l, J N L (c (E.set i (.own l))) (f l)) : J N L (evSeq (evSet i ea) c E) (bndO e f) := by
  subst he
  unfold evSeq evSet bndO
  cases ea E with
  | ok r =>
    cases r with
    | s x => trivial
    | fr l => exact h l
    | frk l => trivial
    | frt l => trivial
  | ex x => exact ⟨E, rfl⟩
  | no => trivial
theorem j_app {i : Nat} {ea : EvE} {l : List D} {e : Res R} {k : List D → Oc α β} (hx : E[i]? = some (.own l)) (he : ea E = e) (h : ∀ l, J N L (c (E.set i (.own l))) (k l)) : J N L (evSeq (evApp i ea) c E) (appO l e k) := by
  subst he
  unfold evSeq evApp appO
  rw [hx]
  cases ea E with
  | ok r =>
    dsimp only
    cases r.arg with
    | val d =>
      dsimp only
      by_cases hl : l.length < 100000
      · rw [if_pos hl, if_pos hl]; exact h _
      · rw [if_neg hl, if_neg hl]; trivial
    | _ => trivial
  | _ => trivial
theorem j_ret {ea : EvE} {e : Res R} (he : ea E = e) : J N L (evSeq (evRet ea) c E) (ret e) := by
  subst he
  unfold evSeq evRet ret
  cases ea E with
  | ok r =>
    cases r with
    | s x =>
      cases x with
      | val d => rfl
      | _ => trivial
    | fr l => rfl
    | frk l => rfl
    | frt l => rfl
  | ex x => exact ⟨E, rfl⟩
  | no => trivial
theorem j_retVO {i : Nat} {l : List D} (hx : E[i]? = some (.own l)) : J N L (evSeq (evRetV i) c E) (.rt (.fr l)) := by
  unfold evSeq evRetV; rw [hx]; rfl
theorem j_drop {ea : EvE} {e : Res R} (he : ea E = e) (h : J N L (c E) g) : J N L (evSeq (evDrop ea) c E) (drp e g) := by
  subst he
  unfold evSeq evDrop drp
  cases ea E with
  | ok r => exact h
  | ex x => exact ⟨E, rfl⟩
  | no => trivial
theorem j_cont {x : β} (h : L x E) : J N L (evSeq evCont c E) (.ct x) := ⟨E, rfl, h⟩
theorem j_never : J N L (evSeq evNever c E) .no := trivial
theorem j_if {t : EvT} {t' : Res Bool} {ga gb : Unit → Oc α β} (ht : t E = t') (ha : J N L (evSeq a c E) (ga ())) (hb : J N L (evSeq b c E) (gb ())) : J N L (evSeq (evIfS t a b) c E) (iteC t' ga gb) := by
  subst ht
  unfold evSeq at ha hb ⊢
  unfold evIfS iteC
  cases t E with
  | ok x => cases x <;> assumption
  | ex x => exact ⟨E, rfl⟩
  | no => trivial
theorem j_bind {T : δ → En} {ga : Oc δ β} {f : δ → Oc α β} (ha : J (fun s E => E = T s) L (a E) ga) (h : ∀ s, J N L (c (T s)) (f s)) : J N L (evSeq a c E) (ga.bind f) := by
  unfold evSeq
  cases ga with
  | nx x => obtain ⟨E1, e, rfl⟩ := ha; rw [e]; exact h x
  | ct x => obtain ⟨E1, e, q⟩ := ha; rw [e]; exact ⟨E1, rfl, q⟩
  | bk x => obtain ⟨E1, e, q⟩ := ha; rw [e]; exact ⟨E1, rfl, q⟩
  | rt r =>
    cases r with
    | fr l => have e : a E = _ := ha; rw [e]; rfl
    | frk l => exact ha.elim
    | frt l => exact ha.elim
    | s x =>
      cases x with
      | val d => have e : a E = _ := ha; rw [e]; rfl
      | _ => exact ha.elim
  | ex x => obtain ⟨E1, e⟩ := ha; rw [e]; exact ⟨E1, rfl⟩
  | no => trivial
variable {f : Str → EvS}
theorem j_ifJ (T : δ → En) {t : EvT} {t' : Res Bool} {ga gb : Unit → Oc δ β} {f : δ → Oc α β} (ht : t E = t') (ha : J (fun s E => E = T s) L (a E) (ga ())) (hb : J (fun s E => E = T s) L (b E) (gb ())) (h : ∀ s, J N L (c (T s)) (f s)) : J N L (evSeq (evIfS t a b) c E) ((iteC t' ga gb).bind f) := by
  refine j_bind (T := T) ?_ h
  exact j_end (j_if ht (by have := ha; unfold evSeq evNext; cases e : a E <;> rw [e] at this <;> exact this) (by have := hb; unfold evSeq evNext; cases e : b E <;> rw [e] at this <;> exact this))
abbrev LN (ws : List Nat) (T : σ → En) : σ → En → Prop := fun s E => wp ws E = T s
theorem j_forE {T : σ → En} {ws : List Nat} {gv : EvG} {f : D → σ → Oc σ σ} (hs : ∀ d s, PJ (gv d (T s)) (fun E1 g => J (LN ws T) (LN ws T) (b E1) g) .no (f d s)) : ∀ (l : List D) (s : σ), J (fun s E => E = T s) L (forE gv b ws l (T s)) (forG f l s)
  | [], s => ⟨_, rfl, rfl⟩
  | d :: ds, s => by
    have h := hs d s
    unfold forE forG
    cases hg : gv d (T s) with
    | none => rw [hg] at h; have h3 : f d s = .no := h; rw [h3]; trivial
    | some E1 =>
      rw [hg] at h
      dsimp only
      have h : J (LN ws T) (LN ws T) (b E1) (f d s) := h
      cases hf : f d s with
      | nx x => rw [hf] at h; obtain ⟨E2, e, q⟩ := h; rw [e]; dsimp only; rw [show wp ws E2 = T x from q]; exact j_forE hs ds x
      | ct x => rw [hf] at h; obtain ⟨E2, e, q⟩ := h; rw [e]; dsimp only; rw [show wp ws E2 = T x from q]; exact j_forE hs ds x
      | bk x => rw [hf] at h; obtain ⟨E2, e, q⟩ := h; rw [e]; exact ⟨_, rfl, q⟩
      | rt r =>
        rw [hf] at h
        cases r with
        | fr l => have e : b E1 = _ := h; rw [e]; rfl
        | frk l => exact h.elim
        | frt l => exact h.elim
        | s x =>
          cases x with
          | val d => have e : b E1 = _ := h; rw [e]; rfl
          | _ => exact h.elim
      | ex x => rw [hf] at h; obtain ⟨E2, e⟩ := h; rw [e]; exact ⟨_, rfl⟩
      | no => trivial
theorem j_for (T : σ → En) (s0 : σ) {ws : List Nat} {it : EvI} {it' : Res (List D)} {gv : EvG} {f : D → σ → Oc σ σ} {k : σ → Oc α β} (hi : it E = it') (h0 : E = T s0) (hs : ∀ d s, PJ (gv d (T s)) (fun E1 g => J (LN ws T) (LN ws T) (b E1) g) .no (f d s)) (h : ∀ s, J N L (c (T s)) (k s)) : J N L (evSeq (evFor it gv b ws) c E) (bndI it' fun l => (forG f l s0).bind k) := by
  subst hi
  unfold bndI
  cases hi : it E with
  | ok l =>
    dsimp only
    refine j_bind (T := T) ?_ h
    unfold evFor
    rw [hi]
    dsimp only
    rw [h0]
    exact j_forE hs l s0
  | ex x => unfold evSeq evFor; rw [hi]; exact ⟨E, rfl⟩
  | no => trivial
variable {g1 g2 g3 g4 g5 : EvG} {d : D}
theorem pj_name {γ : Type} {P : En → γ → Prop} {no g : γ} {i : Nat} (h : P (E.set i (.val d)) g) : PJ (gvName i d E) P no g := h
theorem PJ.no {γ : Type} {o : Option En} {P : En → γ → Prop} {no : γ} (h : o = none) : PJ o P no no := by rw [h]; rfl
theorem gv_bad {gs : EvGs} {n : Nat} (hl : ∀ ds E E1, gs ds E = some E1 → ds.length = n) {l : List D} (h : l.length ≠ n) : gvTup gs (.tup l) E = none := by
  show gs l E = none
  cases e : gs l E with
  | none => rfl
  | some E1 => exact absurd (hl _ _ _ e) h
theorem pj_bind {γ : Type} {o : Option En} {f : En → Option En} {P : En → γ → Prop} {no g : γ} (h : PJ o (fun E1 g => PJ (f E1) P no g) no g) : PJ (o.bind f) P no g := by
  cases o with
  | none => exact h
  | some x => exact h
theorem len2 {l : List D} (h : l.length = 2) : ∃ a b, l = [a, b] := by
  match l, h with
  | [a, b], _ => exact ⟨a, b, rfl⟩
section
variable {γ : Type} {P : En → γ → Prop} {no : γ}
theorem pj_2 {r : D → D → γ} (h : ∀ x y, PJ (g1 x E) (fun E1 g => PJ (g2 y E1) P no g) no (r x y)) : PJ (gvTup (gvCons g1 (gvCons g2 gvNil)) d E) P no (q2 no d r) := by
  by_cases hd : ∃ x y, d = .tup [x, y]
  · obtain ⟨x, y, rfl⟩ := hd
    have := h x y
    refine pj_bind ?_
    cases hg : g1 x E with
    | none => rw [hg] at this; exact this
    | some E1 =>
      rw [hg] at this
      refine pj_bind (f := fun E2 => gvNil [] E2) ?_
      cases hg2 : g2 y E1 <;> (have this : PJ (g2 y E1) P no (r x y) := this) <;> rw [hg2] at this <;> exact this
  · have : q2 no d r = no := by
      unfold q2; split
      · rename_i x y; exact absurd ⟨x, y, rfl⟩ hd
      · rfl
    rw [this]
    refine PJ.no ?_
    cases d with
    | tup l => exact gv_bad (n := 2) (gl_cons (gl_cons gl_nil)) fun hl => hd (by obtain ⟨x, y, rfl⟩ := len2 hl; exact ⟨x, y, rfl⟩)
    | _ => rfl
end
theorem x_lc {it : EvI} {it' : Res (List D)} {gv : EvG} {tv : EvT} {ee : EvE} {ws : List Nat} {f : D → Option (List D)} (hi : it E = it') (h : ∀ d, PJ (gv d (wp ws E)) (fun E1 g => lcS (tv E1) (ee E1) = g) none (f d)) : evLc it gv tv ee ws E = hLc it' f := by
  have : lcT gv tv ee ws E = f := funext fun d => by
    have h := h d
    unfold lcT
    cases hg : gv d (wp ws E) with
    | none => rw [hg] at h; exact h.symm
    | some E1 => rw [hg] at h; exact h
  subst hi
  rw [apLc, this]; rfl
theorem x_dc {it : EvI} {it' : Res (List D)} {gv : EvG} {tv : EvT} {ek ee : EvE} {ws : List Nat} {f : D → Option (Option (Key × D))} (hi : it E = it') (h : ∀ d, PJ (gv d (wp ws E)) (fun E1 g => dcS (tv E1) (ek E1) (ee E1) = g) none (f d)) : evDc it gv tv ek ee ws E = hDc it' f := by
  have : dcT gv tv ek ee ws E = f := funext fun d => by
    have h := h d
    unfold dcT
    cases hg : gv d (wp ws E) with
    | none => rw [hg] at h; exact h.symm
    | some E1 => rw [hg] at h; exact h
  subst hi
  unfold evDc
  rw [this]; rfl
theorem x_lcS {t t' : Res Bool} {e e' : Res R} (h1 : t = t') (h2 : e = e') : lcS t e = lcS t' e' := by rw [h1, h2]
section
variable {ea eb ec : EvE} {es : EvA} {x y z : Res R} {xs : Res (List Sl)} {t u : EvT} {t' u' : Res Bool}
theorem x_bin {f : Sl → Sl → Option R} (h : ea E = x) (h2 : eb E = y) : evBin f ea eb E = hBin f x y := by rw [← h, ← h2]; rfl
theorem x_cb {f : List Sl → Option R} (h : es E = xs) : evCB f es E = hCB f xs := by rw [← h]; rfl
theorem x_cons (h : ea E = x) (h2 : es E = xs) : evCons ea es E = hCons x xs := by rw [← h, ← h2]; rfl
theorem x_tru (h : ea E = x) : evTru ea E = tTru x := by rw [← h]; rfl
theorem x_tnot (h : t E = t') : evTNot t E = tNot t' := by rw [← h]; rfl
theorem x_make {m F} (h2 : es E = xs) : evMake m F es E = hMake m F xs := by rw [← h2]; rfl
theorem x_bm {c f} (h : ea E = x) (h2 : eb E = y) : evBM c f ea eb E = hBM c f x y := by rw [← h, ← h2]; rfl
end
theorem law_of {o : O} {g : Oc Unit Empty} (h : J (fun _ _ => True) (fun _ _ => False) o g) (e : g = .rt (.s (.val (.bl true)))) : o = .rt (.v (.bl true)) := by
  subst e; exact h
theorem le_of {m : Nat} {ev : EvS} {as : List Sl} {g : Oc Unit Empty} (h : J (fun _ _ => True) (fun _ _ => False) (ev (as ++ List.replicate m .un)) g) (ha : okArgs as = true) : Le (run g) (apF (runF m ev) as) := by
  unfold apF runF run
  rw [if_pos ha]
  cases g with
  | nx x => obtain ⟨E1, e, _⟩ := h; rw [e]; exact .inr rfl
  | ct x => exact nomatch x
  | bk x => exact nomatch x
  | rt r =>
    cases r with
    | fr l => have e : ev _ = _ := h; rw [e]; exact .inr rfl
    | frk l => exact h.elim
    | frt l => exact h.elim
    | s x =>
      cases x with
      | val d => have e : ev _ = _ := h; rw [e]; exact .inr rfl
      | _ => exact h.elim
  | ex x => obtain ⟨E1, e⟩ := h; rw [e]; exact .inr rfl
  | no => exact .inl rfl
end
end Sh
set_option maxHeartbeats 2000000
namespace LamK
open PySem PySem.Spec PyProof.Rows L2 LamX PySem.W Ab
variable [Ab.Tabl]
inductive KX where
  | par
  | lit (n : Int)
  | add (a b : KX)
  | mul (a : KX) (n : Int)
  | ix (j : Nat) (a : KX)
def KX.ev (ls : Nat → Option (List Int)) (x : Int) : KX → Option Int
  | .par => some x
  | .lit n => some n
  | .add a b => (a.ev ls x).bind fun i => (b.ev ls x).map fun j => i + j
  | .mul a n => (a.ev ls x).map fun i => i * n
  | .ix j a => (ls j).bind fun l => (a.ev ls x).bind fun i => if 0 ≤ i then l[i.toNat]? else none
section
variable {prog : Program} {w : World} {A : Around} {env : Env} {N : List Str} {prm : Str} {ls : Nat → Option (List Int)} {x : Int} {t0 : Tok} {h : Heap} {m : Str → Option Value}
end
section
variable {prog : Program} {w : World} {A : Around} {N : List Str} {prm qual : Str} {ls : Nat → Option (List Int)} {x n : Int} {t0 : Tok} {s : Shared} {sc scope : Scope} {params : Arguments} {body : Expr} {cl : List (Str × Addr)} {pm ctv : Value} {f c' : Addr} {kx : KX}
end
section
variable {X : Cx} {pins : List (Addr × Obj)} {σ : L2.St} {H : Hp} {s : Shared}
end
end LamK
set_option maxHeartbeats 2000000
namespace Ev
variable [Ab.Tabl]
open PySem PySem.Spec PyProof.Rows L2 Ab LamX PySem.W LamK
variable {Γ : Tb}
def LamOk (X : Cx) : Prop := ∃ c P, TabB X.base X.mg c P ∧ X.env.code = .ref c ∧ (P, X.env.qual ++ "<lambda>") ∈ Tabl.tb ∧ ∀ p ∈ Tabl.tb, p.1 = P → p.2 = X.env.qual ++ "<lambda>"
section
variable {X : Cx} {K : PySem.W.Frag} {ew : WX} {ea : EvE} {e1 : Expr}
end
def lamName (qual : Str) : Str := (envOfC qual { kind := .function, names := [], isGenerator := false, isCoroutine := false } 0 0 .none).qual ++ "<lambda>"
def LamB (mg : Str → Option Value) (base : Heap) (cdv : Value) (qual : Str) : Prop := ∃ c P, TabB base mg c P ∧ cdv = .ref c ∧ (P, lamName qual) ∈ Tabl.tb ∧ ∀ p ∈ Tabl.tb, p.1 = P → p.2 = lamName qual
theorem LamB.at {mg : Str → Option Value} {base : Heap} {cdv : Value} {qual : Str} {CX : CXT} {P : Program} {w : World} {K : PySem.W.Frag} {N : List Str} {sc : Scope} {f : Addr} {A : Around} {outer : List Env} {s : Shared} {H : Hp} {E : XK} (h : LamB mg base cdv qual) : LamOk (cxOf CX P w K mg base N qual sc f cdv A outer s H E) := h
section
variable {P : Program} {w : World} {K : PySem.W.Frag} {mg : Str → Option Value} {base : Heap} {cls : Str → Addr}
end
end Ev
namespace Sh
open PySem PySem.Spec PyProof.Rows L2 Ab Ev LamK
end Sh
set_option maxHeartbeats 2000000
namespace Ev
variable [Ab.Tabl]
open PySem PySem.Spec PyProof.Rows L2 Ab
variable {Γ : Tb}
section
variable {X : Cx} {ew : WX}
end
end Ev
set_option maxHeartbeats 2000000
namespace Ev
variable [Ab.Tabl]
open PySem PySem.Spec PyProof.Rows L2 Ab
variable {Γ : Tb}
section
variable {X : Cx} {ew : WX}
end
end Ev
set_option maxHeartbeats 3200000
namespace Ev
variable [Ab.Tabl]
open PySem PySem.Spec PyProof.Rows L2 Ab
section
variable {X : Cx}
end
section
variable {X : Cx} (K : PySem.W.Frag)
end
variable {Γ : Tb} {X : Cx} {K : PySem.W.Frag} {ew : WX} {tg : Expr}
section
variable {e e2 : Expr} {es : List Expr} {eas : EvA} {p pos : Pos}
end
end Ev
namespace Ev
variable [Ab.Tabl]
open PySem PySem.Spec PyProof.Rows L2 Ab
section
variable {X : Cx} {tg : Expr}
end
variable {K : PySem.W.Frag} {Γ : Tb}
def fRng : List Sl → Option R
  | [x] => (inS x).map fun n => .s (.val (.rng n))
  | _ => none
def isRg : Sl → Option Int
  | .val (.rng n) => some n
  | _ => none
section
variable {X : Cx} {ew : WX} {e : Expr} {es : List Expr} {eas : EvA} {p pos : Pos} {tg : Expr}
end
end Ev
namespace Sh
open PySem PySem.Spec PyProof.Rows L2 Ab Ev
def iItR (a : Res R) : Res (List D) := a.bind fun x => (lift (isRg x.arg)).bind fun n => if -4000000 ≤ n ∧ n ≤ 4000000 then .ok (rgL 0 n.toNat) else .no
@[simp] theorem fRng_int {n : Int} : fRng [.val (.int n)] = some (.s (.val (.rng n))) := rfl
@[simp] theorem iItR_at {n : Int} : iItR (.ok (.s (.val (.rng n)))) = if -4000000 ≤ n ∧ n ≤ 4000000 then .ok (rgL 0 n.toNat) else .no := rfl
end Sh
set_option maxHeartbeats 2000000
namespace Ev
variable [Ab.Tabl]
open PySem PySem.Spec PyProof.Rows L2 Ab
variable {Γ : Tb}
section
variable {X : Cx} {K : PySem.W.Frag} {ew : WX}
end
end Ev
set_option maxHeartbeats 2000000
namespace Ev
variable [Ab.Tabl]
open PySem PySem.Spec PyProof.Rows L2 Ab
variable {Γ : Tb}
section
variable {K : PySem.W.Frag} {B G0 G H : Hp} {p : Addr} {ws : List (List Key × V)}
end
section
variable {X : Cx} {K : PySem.W.Frag} {ew : WX} {tg : Expr}
end
end Ev
set_option maxHeartbeats 2000000
namespace Ev
variable [Ab.Tabl]
open PySem PySem.Spec PyProof.Rows L2 Ab
section
variable {X : Cx} {K : PySem.W.Frag}
end
end Ev
set_option maxHeartbeats 2000000
namespace Ev
variable [Ab.Tabl]
open PySem PySem.Spec PyProof.Rows L2 Ab
variable {Γ : Tb}
section
variable {X : Cx} {K : PySem.W.Frag} {ew : WX} {e e2 : Expr} {es : List Expr} {eas : EvA} {ea eb : EvE} {p pos : Pos}
end
end Ev
set_option maxHeartbeats 2000000
namespace Ev
variable [Ab.Tabl]
open PySem PySem.Spec PyProof.Rows L2 Ab
variable {Γ : Tb}
section
variable {X : Cx} {K : PySem.W.Frag} {ew : WX}
end
end Ev
set_option maxHeartbeats 2000000
namespace Ev
variable [Ab.Tabl]
open PySem PySem.Spec PyProof.Rows L2 Ab
variable {Γ : Tb}
section
variable {X : Cx} {K : PySem.W.Frag} {ew : WX} {tg : Expr}
end
end Ev
set_option maxHeartbeats 2000000
namespace Ev
variable [Ab.Tabl]
open PySem PySem.Spec PyProof.Rows L2 Ab
variable {Γ : Tb}
section
variable {X : Cx} {K : PySem.W.Frag} {ew : WX} {tg : Expr}
end
end Ev
set_option maxHeartbeats 2000000
namespace Ev
variable [Ab.Tabl]
open PySem PySem.Spec PyProof.Rows L2 Ab
variable {Γ : Tb}
section
variable {X : Cx} {K : PySem.W.Frag} {ew : WX} {tg : Expr}
end
end Ev
set_option maxHeartbeats 2000000
namespace L2
open PySem PySem.Spec PyProof.Rows
theorem sw_trueD {kx vx : Expr} {gs : List Comprehension} {scope : Scope} {pos py : Pos} {y : Str} {l : Nat} {env : Env} (hk : env.scope.kind = .function) (hy : env.scope.names.lookup y = some .local) (hl : (py.line == pos.line) = true)
    (ha : (scope.names.any fun (n, k) => n == y && (k == .local || k == .cell)) = false) : swapsWith (.DictComp kx vx gs scope pos) (some (.Name y py)) l env = pure true := by
  have ky : env.kindOf y = some .local := hy
  have hb : env.blockKind = .function := by unfold Env.blockKind; rw [hk]; rfl
  unfold swapsWith
  simp only [hb, ky, ha, Expr.pos, hl]
  rfl
theorem ps_setDc {X : Cx} {i : Nat} {y : Str} {py : Pos} {kx vx tg iter : Expr} {ifs : List Expr} {scope : Scope} {own : List (Str × Nat)} {pos spos : Pos} {wi : TI} {g : TG} {tt : TT} {tk tv : TE} (hc : X.calm = true) (hN : X.N.Nodup) (hy : X.N[i]? = some y) (hyl : X.env.scope.names.lookup y = some .local)
    (hsw : swapsWith (.DictComp kx vx [⟨tg, iter, ifs, 0⟩] scope pos) (some (.Name y py)) spos.line X.env = pure true) (hi : PI X tg iter wi) (ok : BlkOk X.N X.env.scope scope own)
    (hg : ∀ (s : Shared) (H : Hp) (C : Addr) (cl : List (Str × Addr)) (fp : List Addr), PG (X.blk s H scope (compEnvC scope cl C X.env) fp) tg g) (ht : ∀ (s : Shared) (H : Hp) (C : Addr) (cl : List (Str × Addr)) (fp : List Addr), PTs (X.blk s H scope (compEnvC scope cl C X.env) fp) ifs tt)
    (hk : ∀ (s : Shared) (H : Hp) (C : Addr) (cl : List (Str × Addr)) (fp : List Addr), PE (X.blk s H scope (compEnvC scope cl C X.env) fp) kx tk)
    (he : ∀ (s : Shared) (H : Hp) (C : Addr) (cl : List (Str × Addr)) (fp : List Addr), PE (X.blk s H scope (compEnvC scope cl C X.env) fp) vx tv) (hs : ∀ x, foldedSetIterable iter X.env x = pure x := by intro _; rfl) :
    PS X (.Assign [.Name y py] (.DictComp kx vx [⟨tg, iter, ifs, 0⟩] scope pos) spos) (tAsg (tDc wi g tt tk tv (own.map (·.2))) (gName i)) := by
  refine ⟨fun pins s σ H D I h => ?_⟩
  rw [exec_Assign_Name_used _ _ _ _ hsw]
  refine wpAny_bind (wpAny_standAt (wpAny_bind ?_))
  show wpAny _ X.A (do let _ ← comprehension (.DictComp kx vx [⟨tg, iter, ifs, 0⟩] scope pos) scope X.env (firstIterPos [⟨tg, iter, ifs, 0⟩] pos) newDict false (eval iter X.env) (some (assign (.Name y py) X.env))) _ _ s
  have h : tDc wi g tt tk tv (own.map (·.2)) σ H (fun x H1 => gName i x σ H1 D.nx) := h
  refine wpAny_bind (thn (dc_core (Qf := fun _ s' => SP X pins D .next s') hc hN I hi ok hg ht hk he hs h fun L C s' m H' I' q hn f => ?_) fun _ s' hq => wpAny_pure (wpAny_pure hq))
  show wpAny _ _ (assign (.Name y py) X.env (.ref L)) _ _ _
  refine wpAny_assign_Name (store_ok2 (v := V.ref L) I' hN hy (.inl hyl) rfl (fun s2 I2 ⟨a, sb, ha⟩ => ?_) (.inr hyl))
  obtain ⟨f0, f1, f2, f3, f4, f5⟩ := f
  have haC : C ≠ a := by
    rcases ha with z | z
    · rw [z]; exact f1
    · exact fun e => f4 y a z e.symm
  refine ⟨m, hn.sameBut sb haC, fun h3 sb3 => ?_⟩
  exact ⟨_, H', I2.turned (t' := s2.toks) (fun b o hb e => (sb3.2 b hb).trans e) f0 f1 f3 f4 f5, q⟩
end L2
namespace Ev
variable [Ab.Tabl]
open PySem PySem.Spec PyProof.Rows L2 Ab
variable {Γ : Tb}
section
variable {X : Cx} {K : PySem.W.Frag} {ew : WX} {tg : Expr}
theorem s_setDc {st : Stmt} {it : EvI} {own : List (Str × Nat)} {j : Nat} {vs : List Nat} {gv : EvG} {tv : EvT} {ek ee : EvE} {ew1 : WX} (h : PS X st (tAsg (tDc (TI' K Γ ew it) (TG' K Γ vs gv) (TT' K Γ ew1 tv) (T K Γ ew1 ek) (T K Γ ew1 ee) (own.map (·.2))) (gName j))) (hvs : ∀ j ∈ vs, j ∈ own.map (·.2)) : PS X st (TS' K Γ ew (evSet j (evDc it gv tv ek ee (own.map (·.2))))) :=
  s_set (ps_imp h fun D σ H q => tDc_run hvs q)
end
end Ev
set_option maxHeartbeats 2000000
namespace Ev
variable [Ab.Tabl]
open PySem PySem.Spec PyProof.Rows L2 Ab
variable {Γ : Tb}
section
variable {X : Cx} {K : PySem.W.Frag} {ew : WX}
end
end Ev
set_option maxHeartbeats 2000000
namespace Ev
variable [Ab.Tabl]
open PySem PySem.Spec PyProof.Rows L2 Ab
variable {Γ : Tb}
section
variable {X : Cx} {K : PySem.W.Frag} {ew : WX} {x : Bool}
end
section
variable {P : Program} {w : World} {K : PySem.W.Frag} {mg : Str → Option Value} {base : Heap} {cls : Str → Addr}
end
section
variable {X : Cx} {K : PySem.W.Frag} {ew : WX}
end
end Ev
namespace Sh
open PySem PySem.Spec PyProof.Rows L2 Ab Ev
variable {α β : Type} {N : α → En → Prop} {L : β → En → Prop} {E : En} {c : EvS}
end Sh
set_option maxHeartbeats 2000000
namespace LamK
open PySem PySem.Spec PyProof.Rows L2 LamX PySem.W Ab
variable [Ab.Tabl]
section
variable {prog : Program} {w : World} {A : Around} {env : Env} {prm qual : Str} {s : Shared} {sc scope : Scope} {params : Arguments} {cl : List (Str × Addr)} {pm ctv : Value} {f c' q : Addr} {a b : Nat} {ia ib x y : Int} {its : List Value} {t1 t2 : Tok} {j1 j2 : Option Str} {k7 : Nat} {q1 q2 q3 q4 q5 q6 q7 : Pos}
end
end LamK
namespace Ev
variable [Ab.Tabl]
open PySem PySem.Spec PyProof.Rows L2 Ab LamX PySem.W LamK
variable {Γ : Tb}
section
variable {X : Cx} {K : PySem.W.Frag} {ew : WX} {ea : EvE} {o : Expr}
end
section
variable {P : Program} {w : World} {K : PySem.W.Frag} {mg : Str → Option Value} {base : Heap} {cls : Str → Addr}
end
end Ev
set_option maxHeartbeats 2000000
namespace Ev
variable [Ab.Tabl]
open PySem PySem.Spec PyProof.Rows L2 Ab RZ
variable {Γ : Tb}
section
variable {X : Cx} {K : PySem.W.Frag} {ew : WX}
end
end Ev
namespace Sh
open PySem PySem.Spec PyProof.Rows L2 Ab Ev
variable {E : En}
end Sh
set_option maxHeartbeats 2000000
namespace Ev
variable [Ab.Tabl]
open PySem PySem.Spec PyProof.Rows L2 Ab
variable {Γ : Tb}
section
variable {X : Cx} {ew : WX}
end
end Ev
set_option maxHeartbeats 2000000
namespace Ab
variable [Ab.Tabl]
open PySem PySem.Spec PyProof.Rows L2
mutual
def NkV (H : Hp) : NestedKey → V → Prop
  | .none, v => v = .non
  | .num i, v => v = .int i
  | .text x, v => v = .str x
  | .tup ks, v => ∃ p vs, v = .ref p ∧ H p = some (.tup vs) ∧ NkVs H ks vs
def NkVs (H : Hp) : List NestedKey → List V → Prop
  | [], vs => vs = []
  | k :: ks, vs => ∃ v r, vs = v :: r ∧ NkV H k v ∧ NkVs H ks r
end
mutual
theorem NkV.mono {H H' : Hp} (h : ∀ b xs, H b = some (.tup xs) → H' b = some (.tup xs)) : ∀ {k : NestedKey} {v : V}, NkV H k v → NkV H' k v
  | .none, _, e => e
  | .num _, _, e => e
  | .text _, _, e => e
  | .tup ks, _, ⟨p, vs, e, hp, r⟩ => ⟨p, vs, e, h _ _ hp, NkVs.mono h r⟩
theorem NkVs.mono {H H' : Hp} (h : ∀ b xs, H b = some (.tup xs) → H' b = some (.tup xs)) : ∀ {ks : List NestedKey} {vs : List V}, NkVs H ks vs → NkVs H' ks vs
  | [], _, e => e
  | _ :: _, _, ⟨v, r, e, a, t⟩ => ⟨v, r, e, NkV.mono h a, NkVs.mono h t⟩
end
section
variable {X : Cx} {pos : Pos}
end
section
variable {X : Cx} {pins : List (Addr × Obj)} {σ : L2.St} {H : Hp} {s : Shared} {a p : Addr} {u r : Value} {d : V} {k : NestedKey} {A : Around} {E : Value → Shared → Prop} {o : Obj}
end
section
variable {X : Cx} {o e f : Expr} {td ty tx : TE} {apos cpos : Pos}
end
section
variable {P : Program} {w : World} {K : PySem.W.Frag} {tg : Expr} {d : Addr} {o : Obj} {es : Array DictEntry} {ep : Nat}
end
section
variable {X : Cx} {tg e : Expr} {td : TE}
end
end Ab
set_option maxHeartbeats 2000000
namespace Ev
variable [Ab.Tabl]
open PySem PySem.Spec PyProof.Rows L2 Ab
variable {Γ : Tb}
section
variable {X : Cx} {K : PySem.W.Frag} {ew : WX}
end
section
variable {X : Cx} {ew : WX} {e : Expr} {es : List Expr} {eas : EvA} {p pos : Pos}
end
section
variable {X : Cx} {K : PySem.W.Frag} {ew : WX}
end
end Ev
set_option maxHeartbeats 4000000
namespace Ev
variable [Ab.Tabl]
open PySem PySem.Spec PyProof.Rows L2 Ab
variable {Γ : Tb}
section
end
section
variable {X : Cx} {K : PySem.W.Frag} {ew : WX}
end
abbrev Fc := Bw → List Sl → Option (Bw × D)
section
variable {X : Cx} {K : PySem.W.Frag} {ew : WX} {er : EvE}
end
section
variable {P : Program} {w : World} {K : PySem.W.Frag} {mg : Str → Option Value} {base : Heap} {cls : Str → Addr}
end
end Ev
set_option maxHeartbeats 4000000
namespace Ev
variable [Ab.Tabl]
open PySem PySem.Spec PyProof.Rows L2 Ab
variable {Γ : Tb}
section
variable {X : Cx} {K : PySem.W.Frag} {ew : WX}
end
end Ev
set_option maxHeartbeats 2000000
namespace Ev
class WdOk [Ab.Tabl] (w : PySem.World) : Prop where
  h : Ab.Tabl.wd = some w
theorem wd_ok [Ab.Tabl] {w : PySem.World} [x : WdOk w] : Ab.Tabl.wd = some w := x.h
open PySem PySem.Spec PyProof.Rows L2 Ab
variable [Ab.Tabl] {Γ : Tb} {X : Cx} {ew : WX}
end Ev
namespace Sh
open PySem PySem.Spec PyProof.Rows L2 Ab Ev
section
variable {α β γ : Type} {N : α → En → Prop} {L : β → En → Prop} {E : En} {c a : EvS}
end
end Sh
set_option maxHeartbeats 4000000
namespace Sha
open PySem PySem.Spec PyProof.Rows L2 Ab Ev Com Sh
def ev__wall : EvS := evWhile (evTru (evC (.bl true))) (evPass) []
def F__wall : Fn := runF 0 (ev__wall)
end Sha
set_option maxHeartbeats 1000000
namespace Sh
open PySem PySem.Spec PyProof.Rows L2 Ab Ev
section
variable {x y z : R} {xs : List Sl} {a b : Res R} {n : Int} {t u : Res Bool} {c : Bool} {e : Str}
@[simp] theorem hUn_ok {f} : hUn f (.ok x) = lift (f x.arg) := (rfl)
@[simp] theorem hBin_ok {f} : hBin f (.ok x) (.ok y) = lift (f x.arg y.arg) := (rfl)
@[simp] theorem hNil_ok : hNil = .ok [] := (rfl)
@[simp] theorem hCons_ok : hCons (.ok x) (.ok xs) = .ok (x.arg :: xs) := (rfl)
@[simp] theorem hSnoc_ok : hSnoc (.ok xs) (.ok x) = .ok (xs ++ [x.arg]) := (rfl)
@[simp] theorem hCB_ok {f} : hCB f (.ok xs) = lift (f xs) := (rfl)
@[simp] theorem hO_int : hO (.ok (.s (.val (.int n)))) = .ok (some n) := (rfl)
@[simp] theorem hONo_ok : hONo = .ok none := (rfl)
@[simp] theorem hSl_ok {l h} : hSl (.ok x) (.ok l) (.ok h) = lift (fSl x.arg l h) := (rfl)
@[simp] theorem hIf_ok : hIf (.ok c) a b = if c = true then a else b := (rfl)
@[simp] theorem hAnd_ok : hAnd (.ok x) b = (lift (trS x.arg)).bind fun t => if t = true then b else .ok (.s x.arg) := (rfl)
@[simp] theorem hOr_ok : hOr (.ok x) b = (lift (trS x.arg)).bind fun t => if t = true then .ok (.s x.arg) else b := (rfl)
@[simp] theorem hNot_ok : hNot (.ok x) = (lift (trS x.arg)).bind fun t => .ok (vB (!t)) := (rfl)
@[simp] theorem hChain_ok {f g} : hChain f g (.ok x) (.ok y) (.ok z) = (lift (f x.arg y.arg)).bind fun r => (lift (blR r)).bind fun t => if t = true then lift (g y.arg z.arg) else .ok (vB false) := (rfl)
@[simp] theorem tTru_ok : tTru (.ok x) = lift (trS x.arg) := (rfl)
@[simp] theorem tTB_ok : tTB (.ok x) = lift (blR x) := (rfl)
@[simp] theorem tAnd_ok : tAnd (.ok c) u = if c = true then u else .ok false := (rfl)
@[simp] theorem tOr_ok : tOr (.ok c) u = if c = true then .ok true else u := (rfl)
@[simp] theorem tNot_ok : tNot (.ok c) = .ok (!c) := (rfl)
@[simp] theorem tYes_ok : tYes = .ok true := (rfl)
@[simp] theorem hCall_ok {F} : hCall F (.ok xs) = apF F xs := (rfl)
@[simp] theorem hCallN_ok {F} : hCallN F (.ok xs) = nox (apF F xs) := (rfl)
@[simp] theorem hMeth_ok {m tbl} : hMeth m tbl (.ok x) (.ok xs) = (lift (dsp m tbl x.arg)).bind fun F => apF F (x.arg :: xs) := (rfl)
@[simp] theorem hMethN_ok {m tbl} : hMethN m tbl (.ok x) (.ok xs) = (lift (dsp m tbl x.arg)).bind fun F => nox (apF F (x.arg :: xs)) := (rfl)
@[simp] theorem hMake_ok {s F} : hMake s F (.ok xs) = apI s F xs := (rfl)
@[simp] theorem hMakeN_ok {s F} : hMakeN s F (.ok xs) = nox (apI s F xs) := (rfl)
@[simp] theorem hBM_ok {f g} : hBM f g (.ok x) (.ok y) = if f x.arg = true then lift (g x.arg y.arg) else .no := (rfl)
theorem hGet1_dic {kvs : List (Key × D)} {k : Int} : hGet1 (.ok (.s (.val (.dic kvs)))) (.ok (.s (.val (.int k)))) = .ok (.s (.val ((lkD kvs (.inl k)).getD .non))) := (rfl)
theorem hGet2_dic {kvs : List (Key × D)} {k : Int} {d : D} : hGet2 (.ok (.s (.val (.dic kvs)))) (.ok (.s (.val (.int k)))) (.ok (.s (.val d))) = .ok (.s (.val ((lkD kvs (.inl k)).getD d))) := (rfl)
theorem hGet1_k {kvs : List (Key × D)} {k : Int} : hGet1 (.ok (.s (.dic kvs))) (.ok (.s (.val (.int k)))) = .ok (.s (.val ((lkD kvs (.inl k)).getD .non))) := (rfl)
theorem hGet2_k {kvs : List (Key × D)} {k : Int} {d : D} : hGet2 (.ok (.s (.dic kvs))) (.ok (.s (.val (.int k)))) (.ok (.s (.val d))) = .ok (.s (.val ((lkD kvs (.inl k)).getD d))) := (rfl)
theorem hDNew_ok : hDNew = .ok (.frk []) := (rfl)
theorem hD1_int {k : Int} {d : D} : hD1 (.ok (.s (.val (.int k)))) (.ok (.s (.val d))) = .ok (.frk [(.inl k, d)]) := (rfl)
theorem hPNil_ok : hPNil = .ok [] := (rfl)
theorem hPCons_str {k : Str} {d : D} {l : List (Key × D)} : hPCons (.ok (.s (.val (.str k)))) (.ok (.s (.val d))) (.ok l) = .ok ((.inr k, d) :: l) := (rfl)
theorem hPCons_int {k : Int} {d : D} {l : List (Key × D)} : hPCons (.ok (.s (.val (.int k)))) (.ok (.s (.val d))) (.ok l) = .ok ((.inl k, d) :: l) := (rfl)
theorem hDN_ok {l : List (Key × D)} : hDN (.ok l) = .ok (.frk (mgD l)) := (rfl)
theorem iRng3_int {a b c : Int} : iRng3 (.ok (.s (.val (.int a)))) (.ok (.s (.val (.int b)))) (.ok (.s (.val (.int c)))) = (lift (rgSz a b c)).bind fun n => .ok (rgS a c n) := (rfl)
theorem iRev_ok : iRev (.ok x) = (lift (lstS x.arg)).bind fun l => .ok l.reverse := (rfl)
@[simp] theorem hRg1_int : hRg1 (.ok (.s (.val (.int n)))) = .ok (0, n) := (rfl)
@[simp] theorem hRg2_int {m} : hRg2 (.ok (.s (.val (.int n)))) (.ok (.s (.val (.int m)))) = .ok (n, m) := (rfl)
@[simp] theorem hLstRg_ok {p} : hLstRg (.ok p) = if rgOkB p.1 p.2 = true then .ok (.fr ((rgI' p.1 p.2).map D.int)) else .no := (rfl)
@[simp] theorem iRng1_int : iRng1 (.ok (.s (.val (.int n)))) = if -4000000 ≤ n ∧ n ≤ 4000000 then .ok (rgL 0 n.toNat) else .no := (rfl)
@[simp] theorem iRng2_int {m} : iRng2 (.ok (.s (.val (.int n)))) (.ok (.s (.val (.int m)))) = if -4000000 ≤ n ∧ n ≤ 4000000 ∧ -4000000 ≤ m ∧ m ≤ 4000000 then .ok (rgL n (m - n).toNat) else .no := (rfl)
@[simp] theorem iIt_ok : iIt (.ok x) = lift ((lstS x.arg).or (tpS x.arg)) := (rfl)
@[simp] theorem iEn_ok : iEn (.ok x) = (lift (lstS x.arg)).bind fun l => .ok (enL l) := (rfl)
@[simp] theorem iZip_ok : iZip (.ok x) (.ok y) = (lift (lstS x.arg)).bind fun l => (lift (lstS y.arg)).bind fun m => .ok (zipL l m) := (rfl)
@[simp] theorem q2_tup {γ : Type} {no : γ} {a b k} : q2 no (.tup [a, b]) k = k a b := (rfl)
@[simp] theorem q3_tup {γ : Type} {no : γ} {a b c k} : q3 no (.tup [a, b, c]) k = k a b c := (rfl)
@[simp] theorem q4_tup {γ : Type} {no : γ} {a b c d k} : q4 no (.tup [a, b, c, d]) k = k a b c d := (rfl)
@[simp] theorem q5_tup {γ : Type} {no : γ} {a b c d e k} : q5 no (.tup [a, b, c, d, e]) k = k a b c d e := (rfl)
@[simp] theorem argD_val {d} : argD (.s (.val d)) = some d := (rfl)
@[simp] theorem argD_fr {l} : argD (.fr l) = some (.lst l) := (rfl)
@[simp] theorem argD_frk {l} : argD (.frk l) = some (.dic l) := (rfl)
@[simp] theorem argD_frt {l} : argD (.frt l) = some (.dct l) := (rfl)
@[simp] theorem lcS_t : lcS (.ok true) (.ok x) = (argD x).map fun d => [d] := (rfl)
@[simp] theorem lcS_f : lcS (.ok false) b = some [] := (rfl)
@[simp] theorem lc2S_t {l f} : lc2S (.ok true) (.ok l) f = lcR f l := (rfl)
@[simp] theorem lc2S_f {i f} : lc2S (.ok false) i f = some [] := (rfl)
end
section
variable {α β γ σ : Type} {x : R} {d : D} {l : List D} {c : Bool} {e : Str}
@[simp] theorem bnd_val {f : D → Oc α β} : bnd (.ok (.s (.val d))) f = f d := (rfl)
@[simp] theorem bnd_fr {f : D → Oc α β} : bnd (.ok (.fr l)) f = f (.lst l) := (rfl)
@[simp] theorem bnd_frk {l} {f : D → Oc α β} : bnd (.ok (.frk l)) f = f (.dic l) := (rfl)
@[simp] theorem bnd_frt {l} {f : D → Oc α β} : bnd (.ok (.frt l)) f = f (.dct l) := (rfl)
@[simp] theorem bnd_ex {f : D → Oc α β} : bnd (.ex e) f = .ex e := (rfl)
@[simp] theorem bnd_no {f : D → Oc α β} : bnd .no f = .no := (rfl)
@[simp] theorem bndO_fr {f : List D → Oc α β} : bndO (.ok (.fr l)) f = f l := (rfl)
@[simp] theorem bndO_ex {f : List D → Oc α β} : bndO (.ex e) f = .ex e := (rfl)
@[simp] theorem bndK_frk {l} {f : List (Key × D) → Oc α β} : bndK (.ok (.frk l)) f = f l := (rfl)
@[simp] theorem bndI_ok {f : List D → Oc α β} : bndI (.ok l) f = f l := (rfl)
@[simp] theorem iteC_t {a b : Unit → Oc α β} : iteC (.ok true) a b = a () := (rfl)
@[simp] theorem iteC_f {a b : Unit → Oc α β} : iteC (.ok false) a b = b () := (rfl)
@[simp] theorem iteC_ex {a b : Unit → Oc α β} : iteC (.ex e) a b = .ex e := (rfl)
@[simp] theorem ret_val : (ret (.ok (.s (.val d))) : Oc α β) = .rt (.s (.val d)) := (rfl)
@[simp] theorem ret_fr : (ret (.ok (.fr l)) : Oc α β) = .rt (.fr l) := (rfl)
@[simp] theorem ret_frk {l} : (ret (.ok (.frk l)) : Oc α β) = .rt (.s (.val (.dic l))) := (rfl)
@[simp] theorem ret_frt {l} : (ret (.ok (.frt l)) : Oc α β) = .rt (.s (.val (.dct l))) := (rfl)
@[simp] theorem ret_ex : (ret (.ex e) : Oc α β) = .ex e := (rfl)
@[simp] theorem drp_ok {a : Oc α β} : drp (.ok x) a = a := (rfl)
@[simp] theorem drp_ex {a : Oc α β} : drp (.ex e) a = .ex e := (rfl)
@[simp] theorem bind_nx {a : α} {f : α → Oc γ β} : (Oc.nx a : Oc α β).bind f = f a := (rfl)
@[simp] theorem bind_ct {b : β} {f : α → Oc γ β} : (Oc.ct b : Oc α β).bind f = .ct b := (rfl)
@[simp] theorem bind_bk {b : β} {f : α → Oc γ β} : (Oc.bk b : Oc α β).bind f = .bk b := (rfl)
@[simp] theorem bind_rt {f : α → Oc γ β} : (Oc.rt x : Oc α β).bind f = .rt x := (rfl)
@[simp] theorem bind_ex {f : α → Oc γ β} : (Oc.ex e : Oc α β).bind f = .ex e := (rfl)
@[simp] theorem nx_ite {p : Prop} [Decidable p] {a b : α} : (if p then (Oc.nx a : Oc α β) else .nx b) = .nx (if p then a else b) := by split <;> rfl
@[simp] theorem run_rt : run (.rt x) = .ok x := (rfl)
@[simp] theorem run_nx : run (.nx ()) = .ok (.s (.val .non)) := (rfl)
@[simp] theorem run_ex : run (.ex e) = .ex e := (rfl)
@[simp] theorem run_ite {p : Prop} [Decidable p] {a b : Oc Unit Empty} : run (if p then a else b) = if p then run a else run b := by split <;> rfl
@[simp] theorem appO_ok {f : List D → Oc α β} : appO l (.ok (.s (.val d))) f = if l.length < 100000 then f (l ++ [d]) else .no := (rfl)
@[simp] theorem tryD_ok {r : R} {f : Str → Oc α β} {k : Oc α β} : tryD (.ok r) f k = k := (rfl)
@[simp] theorem tryD_ex {x : Str} {f : Str → Oc α β} {k : Oc α β} : tryD (.ex x) f k = f x := (rfl)
@[simp] theorem tryR_ok {r : R} {f : Str → Oc α β} : tryR (.ok r) f = ret (.ok r) := (rfl)
@[simp] theorem tryR_ex {x : Str} {f : Str → Oc α β} : tryR (.ex x) f = f x := (rfl)
@[simp] theorem extO_ok {x : Sl} {f : List D → Oc α β} {ys : List D} (h : anyS x = some ys) : extO l (.ok (.s x)) f = if l.length + ys.length < 100000 then f (l ++ ys) else .no := by
  unfold extO; dsimp only [R.arg]; rw [h]
@[simp] theorem appO_fr {m} {f : List D → Oc α β} : appO l (.ok (.fr m)) f = if l.length < 100000 then f (l ++ [.lst m]) else .no := (rfl)
@[simp] theorem augG_int {a b} {f} {k : D → Oc α β} : augG (.int a) f (.ok (.s (.val (.int b)))) k = k (.int (f a b)) := (rfl)
theorem forG_inv {f : D → σ → Oc σ σ} : ∀ (l : List D) (S : Nat → σ), (∀ i d, l[i]? = some d → f d (S i) = .nx (S (i + 1)) ∨ f d (S i) = .ct (S (i + 1))) → (forG f l (S 0) : Oc σ β) = .nx (S l.length)
  | [], S, _ => rfl
  | d :: l, S, h => by
    have ih := forG_inv l (fun i => S (i + 1)) (fun i d e => h (i + 1) d e)
    unfold forG
    rcases h 0 d rfl with h0 | h0
    · rw [h0]; exact ih
    · rw [h0]; exact ih
theorem forG_rg {f : D → σ → Oc σ σ} {n : Nat} (S : Nat → σ) (h : ∀ i, i < n → f (.int (i : Nat)) (S i) = .nx (S (i + 1)) ∨ f (.int (i : Nat)) (S i) = .ct (S (i + 1))) : (forG f (rgL 0 n) (S 0) : Oc σ β) = .nx (S n) := by
  have := forG_inv (β := β) (f := f) (rgL 0 n) S (fun i d e => by
    obtain ⟨hi, e2⟩ := rgL_at e
    rw [e2]; exact h i hi)
  rw [this]
  unfold rgL
  rw [List.length_map, List.length_range]
theorem forG_rg' {f : D → σ → Oc σ σ} {n : Nat} {s : σ} (S : Nat → σ) (h0 : s = S 0) (h : ∀ i, i < n → f (.int (i : Nat)) (S i) = .nx (S (i + 1)) ∨ f (.int (i : Nat)) (S i) = .ct (S (i + 1))) : (forG f (rgL 0 n) s : Oc σ β) = .nx (S n) := by
  rw [h0]; exact forG_rg S h
end
section
variable {α : Type} {h : α → D}
theorem hLc_map {f : D → Option (List D)} {k : α → D} {l : List α} (hf : ∀ a ∈ l, f (h a) = some [k a]) (hl : l.length ≤ 100000) : hLc (.ok (l.map h)) f = .ok (.fr (l.map k)) := by
  show (match lcR f (l.map h) with | some l => if l.length ≤ 100000 then Res.ok (R.fr l) else .no | none => .no) = _
  rw [lcR_one l hf]
  dsimp only
  rw [if_pos (by rw [List.length_map]; exact hl)]
theorem hLc_rg {f : D → Option (List D)} {k : Nat → D} {n : Nat} (hf : ∀ i, i < n → f (.int (i : Nat)) = some [k i]) (hl : n ≤ 100000) : hLc (.ok (rgL 0 n)) f = .ok (.fr ((List.range n).map k)) := by
  unfold rgL
  refine hLc_map (h := fun i : Nat => D.int (0 + ((i : Nat) : Int))) (fun i hi => ?_) (by rw [List.length_range]; exact hl)
  rw [Int.zero_add]
  exact hf i (List.mem_range.mp hi)
end
theorem fLst_0 : fLst [] = some (.fr []) := by rw [apLst (ds := []) rfl (show _ ≤ 100000 by simp)]
theorem fTup_0 : fTup [] = some (.s (.val (.tup []))) := by rw [apTupl (ds := []) rfl (show _ ≤ 100000 by simp)]
theorem fLst_1 {a : D} : fLst [.val a] = some (.fr [a]) := by rw [apLst (ds := [a]) rfl (show _ ≤ 100000 by simp)]
theorem fTup_1 {a : D} : fTup [.val a] = some (.s (.val (.tup [a]))) := by rw [apTupl (ds := [a]) rfl (show _ ≤ 100000 by simp)]
theorem fLst_2 {a b : D} : fLst [.val a, .val b] = some (.fr [a, b]) := by rw [apLst (ds := [a, b]) rfl (show _ ≤ 100000 by simp)]
theorem fTup_2 {a b : D} : fTup [.val a, .val b] = some (.s (.val (.tup [a, b]))) := by rw [apTupl (ds := [a, b]) rfl (show _ ≤ 100000 by simp)]
theorem fLst_3 {a b c : D} : fLst [.val a, .val b, .val c] = some (.fr [a, b, c]) := by rw [apLst (ds := [a, b, c]) rfl (show _ ≤ 100000 by simp)]
theorem fTup_3 {a b c : D} : fTup [.val a, .val b, .val c] = some (.s (.val (.tup [a, b, c]))) := by rw [apTupl (ds := [a, b, c]) rfl (show _ ≤ 100000 by simp)]
theorem fLst_4 {a b c d : D} : fLst [.val a, .val b, .val c, .val d] = some (.fr [a, b, c, d]) := by rw [apLst (ds := [a, b, c, d]) rfl (show _ ≤ 100000 by simp)]
theorem fTup_4 {a b c d : D} : fTup [.val a, .val b, .val c, .val d] = some (.s (.val (.tup [a, b, c, d]))) := by rw [apTupl (ds := [a, b, c, d]) rfl (show _ ≤ 100000 by simp)]
theorem fLst_5 {a b c d e : D} : fLst [.val a, .val b, .val c, .val d, .val e] = some (.fr [a, b, c, d, e]) := by rw [apLst (ds := [a, b, c, d, e]) rfl (show _ ≤ 100000 by simp)]
theorem fTup_5 {a b c d e : D} : fTup [.val a, .val b, .val c, .val d, .val e] = some (.s (.val (.tup [a, b, c, d, e]))) := by rw [apTupl (ds := [a, b, c, d, e]) rfl (show _ ≤ 100000 by simp)]
theorem fLst_6 {a b c d e f : D} : fLst [.val a, .val b, .val c, .val d, .val e, .val f] = some (.fr [a, b, c, d, e, f]) := by rw [apLst (ds := [a, b, c, d, e, f]) rfl (show _ ≤ 100000 by simp)]
theorem fTup_6 {a b c d e f : D} : fTup [.val a, .val b, .val c, .val d, .val e, .val f] = some (.s (.val (.tup [a, b, c, d, e, f]))) := by rw [apTupl (ds := [a, b, c, d, e, f]) rfl (show _ ≤ 100000 by simp)]
theorem fLst_7 {a b c d e f g : D} : fLst [.val a, .val b, .val c, .val d, .val e, .val f, .val g] = some (.fr [a, b, c, d, e, f, g]) := by rw [apLst (ds := [a, b, c, d, e, f, g]) rfl (show _ ≤ 100000 by simp)]
theorem fTup_7 {a b c d e f g : D} : fTup [.val a, .val b, .val c, .val d, .val e, .val f, .val g] = some (.s (.val (.tup [a, b, c, d, e, f, g]))) := by rw [apTupl (ds := [a, b, c, d, e, f, g]) rfl (show _ ≤ 100000 by simp)]
theorem fLst_8 {a b c d e f g i : D} : fLst [.val a, .val b, .val c, .val d, .val e, .val f, .val g, .val i] = some (.fr [a, b, c, d, e, f, g, i]) := by rw [apLst (ds := [a, b, c, d, e, f, g, i]) rfl (show _ ≤ 100000 by simp)]
theorem fTup_8 {a b c d e f g i : D} : fTup [.val a, .val b, .val c, .val d, .val e, .val f, .val g, .val i] = some (.s (.val (.tup [a, b, c, d, e, f, g, i]))) := by rw [apTupl (ds := [a, b, c, d, e, f, g, i]) rfl (show _ ≤ 100000 by simp)]
theorem at_1_0 {α : Type} {a : α} : atI [a] 0 = some a := rfl
theorem at_1_m {α : Type} {a : α} : atI [a] (-1) = some a := rfl
theorem at_2_0 {α : Type} {a b : α} : atI [a, b] 0 = some a := rfl
theorem at_2_1 {α : Type} {a b : α} : atI [a, b] 1 = some b := rfl
theorem at_2_m {α : Type} {a b : α} : atI [a, b] (-1) = some b := rfl
theorem at_3_0 {α : Type} {a b c : α} : atI [a, b, c] 0 = some a := rfl
theorem at_3_1 {α : Type} {a b c : α} : atI [a, b, c] 1 = some b := rfl
theorem at_3_2 {α : Type} {a b c : α} : atI [a, b, c] 2 = some c := rfl
theorem at_3_m {α : Type} {a b c : α} : atI [a, b, c] (-1) = some c := rfl
theorem at_4_0 {α : Type} {a b c d : α} : atI [a, b, c, d] 0 = some a := rfl
theorem at_4_1 {α : Type} {a b c d : α} : atI [a, b, c, d] 1 = some b := rfl
theorem at_4_2 {α : Type} {a b c d : α} : atI [a, b, c, d] 2 = some c := rfl
theorem at_4_3 {α : Type} {a b c d : α} : atI [a, b, c, d] 3 = some d := rfl
theorem at_4_m {α : Type} {a b c d : α} : atI [a, b, c, d] (-1) = some d := rfl
theorem at_5_0 {α : Type} {a b c d e : α} : atI [a, b, c, d, e] 0 = some a := rfl
theorem at_5_1 {α : Type} {a b c d e : α} : atI [a, b, c, d, e] 1 = some b := rfl
theorem at_5_2 {α : Type} {a b c d e : α} : atI [a, b, c, d, e] 2 = some c := rfl
theorem at_5_3 {α : Type} {a b c d e : α} : atI [a, b, c, d, e] 3 = some d := rfl
theorem at_5_4 {α : Type} {a b c d e : α} : atI [a, b, c, d, e] 4 = some e := rfl
theorem at_5_m {α : Type} {a b c d e : α} : atI [a, b, c, d, e] (-1) = some e := rfl
theorem at_6_0 {α : Type} {a b c d e f : α} : atI [a, b, c, d, e, f] 0 = some a := rfl
theorem at_6_1 {α : Type} {a b c d e f : α} : atI [a, b, c, d, e, f] 1 = some b := rfl
theorem at_6_2 {α : Type} {a b c d e f : α} : atI [a, b, c, d, e, f] 2 = some c := rfl
theorem at_6_3 {α : Type} {a b c d e f : α} : atI [a, b, c, d, e, f] 3 = some d := rfl
theorem at_6_4 {α : Type} {a b c d e f : α} : atI [a, b, c, d, e, f] 4 = some e := rfl
theorem at_6_5 {α : Type} {a b c d e f : α} : atI [a, b, c, d, e, f] 5 = some f := rfl
theorem at_6_m {α : Type} {a b c d e f : α} : atI [a, b, c, d, e, f] (-1) = some f := rfl
theorem in_lst_1 {neg : Bool} {n a : Int} : fIn neg (.val (.int n)) (.val (.lst [.int a])) = some (vB (if neg then !decide (n ∈ [a]) else decide (n ∈ [a]))) := fIn_ints (ns := [a]) rfl
theorem in_tup_1 {neg : Bool} {n a : Int} : fIn neg (.val (.int n)) (.val (.tup [.int a])) = some (vB (if neg then !decide (n ∈ [a]) else decide (n ∈ [a]))) := fIn_ints (ns := [a]) rfl
theorem in_lst_2 {neg : Bool} {n a b : Int} : fIn neg (.val (.int n)) (.val (.lst [.int a, .int b])) = some (vB (if neg then !decide (n ∈ [a, b]) else decide (n ∈ [a, b]))) := fIn_ints (ns := [a, b]) rfl
theorem in_tup_2 {neg : Bool} {n a b : Int} : fIn neg (.val (.int n)) (.val (.tup [.int a, .int b])) = some (vB (if neg then !decide (n ∈ [a, b]) else decide (n ∈ [a, b]))) := fIn_ints (ns := [a, b]) rfl
theorem in_lst_3 {neg : Bool} {n a b c : Int} : fIn neg (.val (.int n)) (.val (.lst [.int a, .int b, .int c])) = some (vB (if neg then !decide (n ∈ [a, b, c]) else decide (n ∈ [a, b, c]))) := fIn_ints (ns := [a, b, c]) rfl
theorem in_tup_3 {neg : Bool} {n a b c : Int} : fIn neg (.val (.int n)) (.val (.tup [.int a, .int b, .int c])) = some (vB (if neg then !decide (n ∈ [a, b, c]) else decide (n ∈ [a, b, c]))) := fIn_ints (ns := [a, b, c]) rfl
theorem in_lst_4 {neg : Bool} {n a b c d : Int} : fIn neg (.val (.int n)) (.val (.lst [.int a, .int b, .int c, .int d])) = some (vB (if neg then !decide (n ∈ [a, b, c, d]) else decide (n ∈ [a, b, c, d]))) := fIn_ints (ns := [a, b, c, d]) rfl
theorem in_tup_4 {neg : Bool} {n a b c d : Int} : fIn neg (.val (.int n)) (.val (.tup [.int a, .int b, .int c, .int d])) = some (vB (if neg then !decide (n ∈ [a, b, c, d]) else decide (n ∈ [a, b, c, d]))) := fIn_ints (ns := [a, b, c, d]) rfl
theorem in_ints {neg : Bool} {n : Int} {ns : List Int} : fIn neg (.val (.int n)) (.val (.lst (ns.map D.int))) = some (vB (if neg then !decide (n ∈ ns) else decide (n ∈ ns))) := fIn_ints rfl
theorem in_intsT {neg : Bool} {n : Int} {ns : List Int} : fIn neg (.val (.int n)) (.val (.tup (ns.map D.int))) = some (vB (if neg then !decide (n ∈ ns) else decide (n ∈ ns))) := fIn_ints rfl
theorem in_intsR {neg : Bool} {n : Int} {ns : List Int} : fIn neg (.val (.int n)) (.red (ns.map D.int)) = some (vB (if neg then !decide (n ∈ ns) else decide (n ∈ ns))) := fIn_ints rfl
section
variable {f : D → Option (List D)} {l : List Int}
theorem hLc_ints {k : Int → D} (hf : ∀ a ∈ l, f (.int a) = some [k a]) (hl : l.length ≤ 100000) : hLc (.ok (iL l)) f = .ok (.fr (l.map k)) := hLc_map (h := D.int) hf hl
end
@[simp] theorem fAll_map {α : Type} {p : α → Bool} {l : List α} : fAll [.val (.lst (l.map fun a => D.bl (p a)))] = some (vB (l.all p)) := by
  rw [fAll_bls (bs := l.map p) (by rw [sqS1, List.map_map]; rfl), List.all_map]; rfl
@[simp] theorem fAny_map {α : Type} {p : α → Bool} {l : List α} : fAny [.val (.lst (l.map fun a => D.bl (p a)))] = some (vB (l.any p)) := by
  rw [fAny_bls (bs := l.map p) (by rw [sqS1, List.map_map]; rfl), List.any_map]; rfl
theorem ite_tt2 {α : Sort _} [Decidable (True ∧ True)] {a b : α} : (if True ∧ True then a else b) = a := if_pos ⟨trivial, trivial⟩
theorem ite_tt4 {α : Sort _} [Decidable (True ∧ True ∧ True ∧ True)] {a b : α} : (if True ∧ True ∧ True ∧ True then a else b) = a := if_pos ⟨trivial, trivial, trivial, trivial⟩
theorem Le.of_eq {g a : Res R} {r : R} (h : Le g a) (e : g = .ok r) : a = .ok r := h.ok e
end Sh
set_option maxHeartbeats 2000000
namespace Com
open PySem PySem.Spec PyProof.Rows L2 Ab Ev
def cellF (ns : List Int) (k : Nat) : Int := ns.getD k 0
theorem law_cell (ns : List Int) (k : Nat) : F__law_cell [.scr ns, .val (.int (k : Int))] = .v (.int (cellF ns k)) := by
  unfold F__law_cell runF ev__law_cell
  simp
  by_cases h : k < ns.length
  · simp [h, at_nat, cellF, List.getD_eq_getElem?_getD]
  · simp [h, cellF, List.getD_eq_getElem?_getD]
theorem absI_def (c : Int) : (if c < 0 then -c else c) = absI c := rfl
theorem pw18 : ((10 : Int) ^ (18 : Int).toNat) = 1000000000000000000 := (rfl)
@[simp] theorem cPow18 : cPow 10 18 = true := by unfold cPow; rw [decide_eq_true_eq]; exact ⟨by decide, by decide, by decide⟩
def mixB : EvS := (evSeq (evSet 6 (evBin oMod (evCB fInt (evCons (evBin fAdd (evBin fMul (evVar 4) (evC (.int 48271))) (evBin fMul (evBin fAdd (evVar 5) (evC (.int 1))) (evC (.int 69621)))) (evNil))) (evC (.int 2147483647))))
    (evSeq (evSet 6 (evBin oMod (evCB fInt (evCons (evBin fAdd (evBin fAdd (evBin fMul (evVar 6) (evVar 6)) (evBin fMul (evVar 6) (evC (.int 16807)))) (evBin fMul (evVar 5) (evC (.int 7919)))) (evNil))) (evC (.int 2147483629))))
    (evSeq (evSet 6 (evBin oMod (evCB fInt (evCons (evBin fAdd (evBin fAdd (evBin fMul (evVar 6) (evVar 6)) (evVar 4)) (evBin fMul (evC (.int 13)) (evVar 5))) (evNil))) (evC (.int 2147483587))))
    (evApp 2 (evBin oMod (evBin oDiv (evVar 6) (evC (.int 7))) (evC (.int 4096)))))))
theorem mixB_at (x0 x1 x3 x6 : Sl) (a k : Int) (l : List Int) (hl : l.length < 100000) (h5 : cMul 13 k = true) (m1 m2 m3 : Int) (e1 : (a * 48271 + (k + 1) * 69621) % 2147483647 = m1) (e2 : (m1 * m1 + m1 * 16807 + k * 7919) % 2147483629 = m2) (e3 : (m2 * m2 + a + 13 * k) % 2147483587 = m3) (q1 : cMul m1 m1 = true) (q2 : cMul m2 m2 = true) : mixB [x0, x1, .own (iL l), x3, .val (.int a), .val (.int k), x6] = .nx [x0, x1, .own (iL (l ++ [m3 / 7 % 4096])), x3, .val (.int a), .val (.int k), .val (.int m3)] := by
  unfold mixB
  simp [hl, h5, e1, e2, e3, q1, q2]
def mixA : EvS := (evSeq (evApp 2 (evBin oMod (evCB fInt (evCons (evVar 3) (evNil))) (evC (.int 4096)))) (evSet 3 (evBin oDiv (evVar 3) (evC (.int 4096)))))
theorem mixA_at (x0 x1 x6 : Sl) (a k p : Int) (l : List Int) (hl : l.length < 100000) : mixA [x0, x1, .own (iL l), .val (.int p), .val (.int a), .val (.int k), x6] = .nx [x0, x1, .own (iL (l ++ [p % 4096])), .val (.int (p / 4096)), .val (.int a), .val (.int k), x6] := by
  unfold mixA
  simp [hl]
def mixT : EvT := (evTAnd (evTB (evBin oGe (evVar 4) (evBin oPow (evC (.int 10)) (evC (.int 18))))) (evTB (evBin oGt (evVar 3) (evC (.int 0)))))
theorem mixT_at (x0 x1 x2 x5 x6 : Sl) (a p : Int) : mixT [x0, x1, x2, .val (.int p), .val (.int a), x5, x6] = .ok (decide (1000000000000000000 ≤ a) && decide (0 < p)) := by
  unfold mixT
  simp [pw18]
  by_cases ha : 1000000000000000000 ≤ a
  · simp [ha]
  · simp [ha]
theorem drawsS_succ (c : Int) (i : Nat) : drawsS c (i + 1) = if (decide (1000000000000000000 ≤ absI c) && decide (0 < (drawsS c i).2)) = true then ((drawsS c i).1 ++ [(drawsS c i).2 % 4096], (drawsS c i).2 / 4096) else ((drawsS c i).1 ++ [mixF (absI c) (i : Int)], (drawsS c i).2) := by
  have h : drawsS c (i + 1) = if (decide (10 ^ (18 : Int).toNat ≤ absI c) && decide (0 < (drawsS c i).2)) = true then ((drawsS c i).1 ++ [(drawsS c i).2 % 4096], (drawsS c i).2 / 4096) else ((drawsS c i).1 ++ [mixF (absI c) (0 + (i : Int))], (drawsS c i).2) := rfl
  rw [h, pw18, Int.zero_add]
abbrev Sdr (c : Int) (n : Nat) (i : Nat) : En := [.val (.int c), .val (.int (n : Int)), .own (iL (drawsS c i).1), .val (.int (drawsS c i).2), .val (.int (absI c)), .un, .un]
theorem draw_step (c : Int) (n i : Nat) (hi : i < 100000) : stepO [5, 6] (evIfS mixT mixA mixB [.val (.int c), .val (.int (n : Int)), .own (iL (drawsS c i).1), .val (.int (drawsS c i).2), .val (.int (absI c)), .val (.int (i : Int)), .un]) = some (Sdr c n (i + 1)) := by
  have hl : (drawsS c i).1.length < 100000 := by rw [drawsS_len]; omega
  have h5 : cMul 13 (i : Int) = true := cMul_l (by decide) (by decide)
  unfold Sdr
  rw [drawsS_succ]
  generalize drawsS c i = p at *
  generalize absI c = a at *
  generalize (i : Int) = k at *
  generalize (n : Int) = n' at *
  obtain ⟨m1, e1⟩ : ∃ m, (a * 48271 + (k + 1) * 69621) % 2147483647 = m := ⟨_, rfl⟩
  obtain ⟨m2, e2⟩ : ∃ m, (m1 * m1 + m1 * 16807 + k * 7919) % 2147483629 = m := ⟨_, rfl⟩
  obtain ⟨m3, e3⟩ : ∃ m, (m2 * m2 + a + 13 * k) % 2147483587 = m := ⟨_, rfl⟩
  have q1 : cMul m1 m1 = true := by rw [← e1]; exact cMul_mod (by decide) (by decide)
  have q2 : cMul m2 m2 = true := by rw [← e2]; exact cMul_mod (by decide) (by decide)
  have em : mixF a k = m3 / 7 % 4096 := by rw [← e3, ← e2, ← e1]; rfl
  rw [em, apIfS, mixT_at]
  cases hb : (decide (1000000000000000000 ≤ a) && decide (0 < p.2)) with
  | true =>
    show stepO [5, 6] (mixA _) = _
    rw [mixA_at _ _ _ _ _ _ _ hl]; rfl
  | false =>
    show stepO [5, 6] (mixB _) = _
    rw [mixB_at _ _ _ _ _ _ _ hl h5 _ _ _ e1 e2 e3 q1 q2]; rfl
theorem law_draws (c : Int) (n : Nat) (hn : n ≤ 99999) : F__law_draws [.val (.int c), .val (.int (n : Int))] = .own (iL (drawsF c n)) := by
  unfold F__law_draws runF ev__law_draws
  have h1 : (n : Int) ≤ 4000000 := by omega
  have h2 : -4000000 ≤ (n : Int) := by omega
  simp [h1, h2, absI_def, frzE]
  rw [forE_rg (Sdr c n) ?h0 ?h1]
  case h0 => rfl
  · simp [drawsF]
  intro i hi
  exact draw_step c n i (by omega)
end Com
set_option maxHeartbeats 2000000
namespace Com
open PySem PySem.Spec PyProof.Rows L2 Ab Ev
abbrev nL (L : List (List Int)) : List (List D) := L.map iL
theorem nL_at (L : List (List Int)) {f : Int} (h0 : 0 ≤ f) (h : f < L.length) : atI (nL L) f = some (iL (L.getD f.toNat [])) := by
  rw [at_nat h0, List.getElem?_map, List.getD_eq_getElem?_getD, List.getElem?_eq_getElem (by omega)]; rfl
@[simp] theorem fSub_nst {L : List (List D)} {i : Int} : fSub (.nst L) (.val (.int i)) = ((atI L i).map fun n => R.s (.red n)).or none := (rfl)
def dbN : EvE := evBin oMod (evCB fInt (evCons (evBin fAdd (evBin fAdd (evBin fMul (evVar 0) (evC (.int 69621))) (evC (.int 12345))) (evBin fMul (evVar 4) (evC (.int 7)))) (evNil))) (evC (.int 2147483647))
theorem dbN_at (n k : Int) (x1 x2 x3 : Sl) (r : En) : dbN (.val (.int n) :: x1 :: x2 :: x3 :: .val (.int k) :: r) = .ok (vI (dNum k n)) := by
  unfold dbN; simp [dNum]
def dbF (c : Int) : EvE := evBin oMod (evCB fInt (evCons (evBin oDiv (evVar 0) (evC (.int c))) (evNil))) (evVar 3)
theorem dbF_at (c n count : Int) (hc : 0 < c) (h2 : c < 4611686018427387904) (h3 : 0 < count) (x1 x2 : Sl) (r : En) : dbF c (.val (.int n) :: x1 :: x2 :: .val (.int count) :: r) = .ok (vI (n / c % count)) := by
  unfold dbF; simp [hc, h2, h3]
def dbT : EvT := evTAnd (evTB (evBin fNe (evVar 6) (evVar 7))) (evTAnd (evTB (evBin (fInA true) (evVar 7) (evBin fSub (evVar 5) (evVar 6)))) (evTAnd (evTB (evBin oLt (evCB fLen (evCons (evBin fSub (evVar 5) (evVar 6)) (evNil))) (evVar 2))) (evTB (evBin oLt (evCB fLen (evCons (evBin fSub (evVar 5) (evVar 7)) (evNil))) (evVar 2)))))
theorem dbT_at (degree f g : Int) (L : List (List Int)) (hf : 0 ≤ f) (hf2 : f < L.length) (hg : 0 ≤ g) (hg2 : g < L.length) (x0 x1 x3 x4 : Sl) (r : En) : dbT (x0 :: x1 :: .val (.int degree) :: x3 :: x4 :: .nst (nL L) :: .val (.int f) :: .val (.int g) :: r) = .ok (dGo degree f g L) := by
  have hI : fIn true (.val (.int g)) (.red (iL (L.getD f.toNat []))) = some (vB (!decide (g ∈ L.getD f.toNat []))) := fIn_ints (neg := true) rfl
  have r1 := nL_at L hf hf2
  have r2 := nL_at L hg hg2
  unfold dbT dGo
  generalize L.getD f.toNat [] = a at *
  generalize L.getD g.toNat [] = b at *
  by_cases h1 : f = g <;> by_cases h2 : g ∈ a <;> by_cases h3 : (a.length : Int) < degree <;> simp [r1, r2, hI, h1, h2, h3]
def dbI (a b : Nat) (c : Int) : EvS := evInsN 5 (evVar a) (evBin oMod (evCB fInt (evCons (evBin oDiv (evVar 0) (evC (.int c))) (evNil))) (evBin fAdd (evCB fLen (evCons (evBin fSub (evVar 5) (evVar a)) (evNil))) (evC (.int 1)))) (evVar b)
theorem nL_set (L : List (List Int)) (c : Nat) (a x : Int) : (nL L).set c ((iL (L.getD c [])).take a.toNat ++ [.int x] ++ (iL (L.getD c [])).drop a.toNat) = nL (insL L c a x) := by
  unfold nL insL iL
  rw [List.map_set]
  simp only [List.map_append, List.map_take, List.map_drop, List.map_cons, List.map_nil]
theorem dbI_at (a b : Nat) (c n f g : Int) (hc : 0 < c) (h2 : c < 4611686018427387904) (L : List (List Int)) (hf : 0 ≤ f) (hf2 : f < L.length) (hl : (L.getD f.toNat []).length < 100000) (E : En) (e0 : E[0]? = some (.val (.int n))) (e5 : E[5]? = some (.nst (nL L))) (ea : E[a]? = some (.val (.int f))) (eb : E[b]? = some (.val (.int g))) : dbI a b c E = .nx (E.set 5 (.nst (nL (insL L f.toNat (n / c % (((L.getD f.toNat []).length : Int) + 1)) g)))) := by
  have hp : (0 : Int) < ((L.getD f.toNat []).length : Int) + 1 := by omega
  have hr : (nL L)[f.toNat]? = some (iL (L.getD f.toNat [])) := by
    have := nL_at L hf hf2; rwa [at_nat hf] at this
  obtain ⟨m, em⟩ : ∃ m, n / c % (((L.getD f.toNat []).length : Int) + 1) = m := ⟨_, rfl⟩
  have hm0 : 0 ≤ m := by rw [← em]; exact Int.emod_nonneg _ (by omega)
  have hm1 : m < 2 ^ 62 := by have := Int.emod_lt_of_pos (n / c) hp; rw [em] at this; omega
  have r1 := nL_at L hf hf2
  have ia : evBin oMod (evCB fInt (evCons (evBin oDiv (evVar 0) (evC (.int c))) (evNil))) (evBin fAdd (evCB fLen (evCons (evBin fSub (evVar 5) (evVar a)) (evNil))) (evC (.int 1))) E = .ok (vI m) := by
    clear hr hl
    generalize L.getD f.toNat [] = a at *
    simp [e0, e5, ea, hc, h2, r1, hp, em]
  have va : evVar a E = .ok (vI f) := by simp [ea]
  have vb : evVar b E = .ok (vI g) := by simp [eb]
  unfold dbI evInsN
  rw [e5, va, ia, vb, em]
  show (if 0 ≤ f ∧ 0 ≤ m ∧ m < 2 ^ 62 then _ else _) = _
  rw [if_pos ⟨hf, hm0, hm1⟩, hr]
  show (if (iL (L.getD f.toNat [])).length < 100000 then _ else _) = _
  rw [if_pos (by rw [List.length_map]; exact hl)]
  show O.nx (E.set 5 (.nst ((nL L).set f.toNat ((iL (L.getD f.toNat [])).take m.toNat ++ [.int g] ++ (iL (L.getD f.toNat [])).drop m.toNat)))) = _
  rw [nL_set]
theorem insL_row (L : List (List Int)) (c d : Nat) (a x : Int) : ((insL L c a x).getD d []).length ≤ (L.getD d []).length + 1 := by
  unfold insL
  rw [List.getD_eq_getElem?_getD, List.getD_eq_getElem?_getD, List.getD_eq_getElem?_getD, List.getElem?_set]
  split
  · rename_i h
    subst h
    split
    · show (List.take _ _ ++ [x] ++ List.drop _ _).length ≤ _
      rw [List.length_append, List.length_append, List.length_take, List.length_drop]
      simp; omega
    · simp
  · omega
def kS (X : Sl) : Nat → Sl
  | 0 => X
  | j + 1 => .val (.int (j : Nat))
def dbB : EvS := evSeq (evSet 0 dbN) (evSeq (evSet 6 (dbF 16)) (evSeq (evSet 7 (dbF 4096)) (evIfS dbT (evSeq (evFrz 7 (dbI 6 7 65536)) (evFrz 6 (dbI 7 6 262144))) evNext)))
theorem seq_nx {a b : EvS} {E E1 : En} (h : a E = .nx E1) : evSeq a b E = b E1 := by rw [apSeq, h]
theorem dbB_at (n k most degree count : Int) (L : List (List Int)) (hd : degree < 90000) (hc : 0 < count) (hL : L.length = count.toNat) (x1 : Sl) : stepO [6, 7] (dbB [.val (.int n), x1, .val (.int degree), .val (.int count), .val (.int k), .nst (nL L), .un, .un, .un, .un, .un]) = some [.val (.int (dStep count degree k (n, L)).1), x1, .val (.int degree), .val (.int count), .val (.int k), .nst (nL (dStep count degree k (n, L)).2), .un, .un, .un, .un, .un] := by
  have hcl : (L.length : Int) = count := by omega
  have s1 : evSet 0 dbN [.val (.int n), x1, .val (.int degree), .val (.int count), .val (.int k), .nst (nL L), .un, .un, .un, .un, .un] = .nx [.val (.int (dNum k n)), x1, .val (.int degree), .val (.int count), .val (.int k), .nst (nL L), .un, .un, .un, .un, .un] := by
    rw [apSet, dbN_at]; rfl
  unfold dStep
  dsimp only
  generalize dNum k n = m at *
  have s2 : evSet 6 (dbF 16) [.val (.int m), x1, .val (.int degree), .val (.int count), .val (.int k), .nst (nL L), .un, .un, .un, .un, .un] = .nx [.val (.int m), x1, .val (.int degree), .val (.int count), .val (.int k), .nst (nL L), .val (.int (m / 16 % count)), .un, .un, .un, .un] := by
    rw [apSet, dbF_at 16 m count (by decide) (by decide) hc]; rfl
  have f0 := Int.emod_nonneg (m / 16) (show count ≠ 0 by omega)
  have f1 := Int.emod_lt_of_pos (m / 16) hc
  have g0 := Int.emod_nonneg (m / 4096) (show count ≠ 0 by omega)
  have g1 := Int.emod_lt_of_pos (m / 4096) hc
  generalize m / 16 % count = f at *
  have s3 : evSet 7 (dbF 4096) [.val (.int m), x1, .val (.int degree), .val (.int count), .val (.int k), .nst (nL L), .val (.int f), .un, .un, .un, .un] = .nx [.val (.int m), x1, .val (.int degree), .val (.int count), .val (.int k), .nst (nL L), .val (.int f), .val (.int (m / 4096 % count)), .un, .un, .un] := by
    rw [apSet, dbF_at 4096 m count (by decide) (by decide) hc]; rfl
  generalize m / 4096 % count = g at *
  unfold dbB
  rw [seq_nx s1, seq_nx s2, seq_nx s3, apIfS, dbT_at degree f g L f0 (by omega) g0 (by omega)]
  cases hgo : dGo degree f g L with
  | false => rfl
  | true =>
    have hg := hgo
    unfold dGo at hg
    rw [Bool.and_eq_true, Bool.and_eq_true, Bool.and_eq_true, decide_eq_true_eq, decide_eq_true_eq] at hg
    obtain ⟨-, -, l1, l2⟩ := hg
    show stepO [6, 7] (evSeq (evFrz 7 (dbI 6 7 65536)) (evFrz 6 (dbI 7 6 262144)) _) = some [_, _, _, _, _, .nst (nL (dPut m f g L)), _, _, _, _, _]
    unfold dPut
    obtain ⟨L', eL⟩ : ∃ L', insL L f.toNat (m / 65536 % (((L.getD f.toNat []).length : Int) + 1)) g = L' := ⟨_, rfl⟩
    have hL' : L'.length = L.length := by rw [← eL, insL_len]
    have hr' : (L'.getD g.toNat []).length < 100000 := by
      have := insL_row L f.toNat g.toNat (m / 65536 % (((L.getD f.toNat []).length : Int) + 1)) g
      rw [eL] at this; omega
    have t1 : evFrz 7 (dbI 6 7 65536) [.val (.int m), x1, .val (.int degree), .val (.int count), .val (.int k), .nst (nL L), .val (.int f), .val (.int g), .un, .un, .un] = .nx [.val (.int m), x1, .val (.int degree), .val (.int count), .val (.int k), .nst (nL L'), .val (.int f), .val (.int g), .un, .un, .un] := by
      show dbI 6 7 65536 [.val (.int m), x1, .val (.int degree), .val (.int count), .val (.int k), .nst (nL L), .val (.int f), .val (.int g), .un, .un, .un] = _
      rw [dbI_at 6 7 65536 m f g (by decide) (by decide) L f0 (by omega) (by omega) _ rfl rfl rfl rfl, eL]; rfl
    have t2 : evFrz 6 (dbI 7 6 262144) [.val (.int m), x1, .val (.int degree), .val (.int count), .val (.int k), .nst (nL L'), .val (.int f), .val (.int g), .un, .un, .un] = .nx [.val (.int m), x1, .val (.int degree), .val (.int count), .val (.int k), .nst (nL (insL L' g.toNat (m / 262144 % (((L'.getD g.toNat []).length : Int) + 1)) f)), .val (.int f), .val (.int g), .un, .un, .un] := by
      show dbI 7 6 262144 [.val (.int m), x1, .val (.int degree), .val (.int count), .val (.int k), .nst (nL L'), .val (.int f), .val (.int g), .un, .un, .un] = _
      rw [dbI_at 7 6 262144 m g f (by decide) (by decide) L' g0 (by omega) hr' _ rfl rfl rfl rfl]; rfl
    rw [eL, seq_nx t1, t2]
    rfl
def nbB : EvS := evSeq (evSet 0 (evBin oMod (evCB fInt (evCons (evBin fAdd (evBin fMul (evVar 0) (evC (.int 48271))) (evC (.int 11))) (evNil))) (evC (.int 2147483647))))
    (evSeq (evSet 9 (evBin oMod (evCB fInt (evCons (evBin oDiv (evVar 0) (evC (.int 64))) (evNil))) (evBin fAdd (evBin fAdd (evVar 3) (evC (.int 1))) (evBin oMod (evCB fInt (evCons (evBin oDiv (evVar 0) (evC (.int 8))) (evNil))) (evC (.int 90))))))
    (evSeq (evFor (evRng1 (evVar 3)) (gvName 10) (evIfS (evTB (evBin (fInA false) (evVar 9) (evVar 8))) (evSet 9 (evBin fAdd (evVar 9) (evC (.int 1)))) (evNext)) [10])
    (evFrz 9 (evApp 8 (evVar 9)))))
theorem nbB_at (n count : Int) (names : List Int) (hn : names.length < 100000) (hc : 0 < count) (h9 : count < 1000000) (x1 x2 x4 x5 x6 x7 : Sl) : stepO [9, 10] (nbB [.val (.int n), x1, x2, .val (.int count), x4, x5, x6, x7, .own (iL names), .un, .un]) = some [.val (.int (nStep count (n, names)).1), x1, x2, .val (.int count), x4, x5, x6, x7, .own (iL (nStep count (n, names)).2), .un, .un] := by
  unfold nStep
  dsimp only
  obtain ⟨m, em⟩ : ∃ m, (n * 48271 + 11) % 2147483647 = m := ⟨_, rfl⟩
  have s1 : evSet 0 (evBin oMod (evCB fInt (evCons (evBin fAdd (evBin fMul (evVar 0) (evC (.int 48271))) (evC (.int 11))) (evNil))) (evC (.int 2147483647))) [.val (.int n), x1, x2, .val (.int count), x4, x5, x6, x7, .own (iL names), .un, .un] = .nx [.val (.int m), x1, x2, .val (.int count), x4, x5, x6, x7, .own (iL names), .un, .un] := by
    simp [em]
  rw [em]
  obtain ⟨q, eq⟩ : ∃ q, m / 8 % 90 = q := ⟨_, rfl⟩
  have q0 : 0 ≤ q := by rw [← eq]; exact Int.emod_nonneg _ (by decide)
  obtain ⟨v, ev⟩ : ∃ v, m / 64 % (count + 1 + q) = v := ⟨_, rfl⟩
  have s2 : evSet 9 (evBin oMod (evCB fInt (evCons (evBin oDiv (evVar 0) (evC (.int 64))) (evNil))) (evBin fAdd (evBin fAdd (evVar 3) (evC (.int 1))) (evBin oMod (evCB fInt (evCons (evBin oDiv (evVar 0) (evC (.int 8))) (evNil))) (evC (.int 90))))) [.val (.int m), x1, x2, .val (.int count), x4, x5, x6, x7, .own (iL names), .un, .un] = .nx [.val (.int m), x1, x2, .val (.int count), x4, x5, x6, x7, .own (iL names), .val (.int v), .un] := by
    have hp : 0 < count + 1 + q := by omega
    simp [eq, hp, ev]
  have h1 : -4000000 ≤ count := by omega
  have h2 : count ≤ 4000000 := by omega
  have s3 : evFor (evRng1 (evVar 3)) (gvName 10) (evIfS (evTB (evBin (fInA false) (evVar 9) (evVar 8))) (evSet 9 (evBin fAdd (evVar 9) (evC (.int 1)))) (evNext)) [10] [.val (.int m), x1, x2, .val (.int count), x4, x5, x6, x7, .own (iL names), .val (.int v), .un] = .nx [.val (.int m), x1, x2, .val (.int count), x4, x5, x6, x7, .own (iL names), .val (.int (bump names count.toNat v)), .un] := by
    rw [apFor]
    have e : evRng1 (evVar 3) [.val (.int m), x1, x2, .val (.int count), x4, x5, x6, x7, .own (iL names), .val (.int v), .un] = .ok (rgL 0 count.toNat) := by simp [h1, h2]
    rw [e]
    dsimp only
    refine forE_rg (fun j => [.val (.int m), x1, x2, .val (.int count), x4, x5, x6, x7, .own (iL names), .val (.int (bump names j v)), .un]) rfl fun i hi => ?_
    have hI : fIn false (.val (.int (bump names i v))) (.red (iL names)) = some (vB (decide (bump names i v ∈ names))) := fIn_ints (neg := false) rfl
    simp [hI]
    by_cases hb : bump names i v ∈ names
    · simp [hb, Ab.bump]
    · simp [hb, Ab.bump]
  have s4 : evFrz 9 (evApp 8 (evVar 9)) [.val (.int m), x1, x2, .val (.int count), x4, x5, x6, x7, .own (iL names), .val (.int (bump names count.toNat v)), .un] = .nx [.val (.int m), x1, x2, .val (.int count), x4, x5, x6, x7, .own (iL (names ++ [bump names count.toNat v])), .val (.int (bump names count.toNat v)), .un] := by
    simp [frzE, hn]
  unfold nbB
  rw [seq_nx s1, seq_nx s2, seq_nx s3, s4, eq, ev]
  rfl
def netV (p : List Int × List (List Int)) : D := .tup [lI p.1, .lst (p.2.map lI)]
theorem law_draw_net (number most degree : Int) (hm : 0 < most) (hm2 : most ≤ 1000) (hd : degree < 90000) : F__law_draw_net [.val (.int number), .val (.int most), .val (.int degree)] = .v (netV (netD number most degree)) := by
  have f0 := Int.emod_nonneg number (show most ≠ 0 by omega)
  have f1 := Int.emod_lt_of_pos number hm
  unfold netD
  dsimp only
  obtain ⟨count, ec⟩ : ∃ c, 1 + number % most = c := ⟨_, rfl⟩
  have c0 : 0 < count := by omega
  have c1 : count ≤ 1000 := by omega
  rw [ec]
  clear f0 f1
  have s1 : evSet 3 (evBin fAdd (evC (.int 1)) (evBin oMod (evCB fInt (evCons (evVar 0) (evNil))) (evVar 1))) [.val (.int number), .val (.int most), .val (.int degree), .un, .un, .un, .un, .un, .un, .un, .un] = .nx [.val (.int number), .val (.int most), .val (.int degree), .val (.int count), .un, .un, .un, .un, .un, .un, .un] := by
    simp [hm, ec]
  have s2 : evSet 0 (evBin oDiv (evVar 0) (evVar 1)) [.val (.int number), .val (.int most), .val (.int degree), .val (.int count), .un, .un, .un, .un, .un, .un, .un] = .nx [.val (.int (number / most)), .val (.int most), .val (.int degree), .val (.int count), .un, .un, .un, .un, .un, .un, .un] := by
    have : most < 4611686018427387904 := by omega
    simp [hm, this]
  generalize number / most = a at *
  have s3 : evSetN 5 (evVar 3) [.val (.int a), .val (.int most), .val (.int degree), .val (.int count), .un, .un, .un, .un, .un, .un, .un] = .nx [.val (.int a), .val (.int most), .val (.int degree), .val (.int count), .un, .nst (nL (List.replicate count.toNat [])), .un, .un, .un, .un, .un] := by
    have h1 : -100000 ≤ count := by omega
    have h2 : count ≤ 100000 := by omega
    have h3 : nL (List.replicate count.toNat []) = List.replicate count.toNat [] := by simp
    rw [h3]
    show (if -100000 ≤ count ∧ count ≤ 100000 then O.nx _ else .no) = _
    rw [if_pos ⟨h1, h2⟩]; rfl
  obtain ⟨N, eN⟩ : ∃ N, (2 * count).toNat = N := ⟨_, rfl⟩
  have s4 : evFor (evRng1 (evBin fMul (evC (.int 2)) (evVar 3))) (gvName 4) dbB [6, 7] [.val (.int a), .val (.int most), .val (.int degree), .val (.int count), .un, .nst (nL (List.replicate count.toNat [])), .un, .un, .un, .un, .un] = .nx [.val (.int (dSteps count degree a N).1), .val (.int most), .val (.int degree), .val (.int count), kS .un N, .nst (nL (dSteps count degree a N).2), .un, .un, .un, .un, .un] := by
    have e : evRng1 (evBin fMul (evC (.int 2)) (evVar 3)) [.val (.int a), .val (.int most), .val (.int degree), .val (.int count), .un, .nst (nL (List.replicate count.toNat [])), .un, .un, .un, .un, .un] = .ok (rgL 0 N) := by
      have h1 : -4000000 ≤ 2 * count := by omega
      have h2 : 2 * count ≤ 4000000 := by omega
      have h3 : cMul 2 count = true := cMul_l (by decide) (by decide)
      simp [h1, h2, h3, eN]
    rw [apFor, e]
    dsimp only
    refine forE_rg (fun i => [.val (.int (dSteps count degree a i).1), .val (.int most), .val (.int degree), .val (.int count), kS .un i, .nst (nL (dSteps count degree a i).2), .un, .un, .un, .un, .un]) rfl fun i hi => ?_
    exact dbB_at _ _ most degree count _ hd c0 (dSteps_len _ _ _ _) _
  have s5 : ∀ n k L, evSet 8 (evCB fLst (evNil)) [.val (.int n), .val (.int most), .val (.int degree), .val (.int count), k, .nst L, .un, .un, .un, .un, .un] = .nx [.val (.int n), .val (.int most), .val (.int degree), .val (.int count), k, .nst L, .un, .un, .own (iL []), .un, .un] := fun _ _ _ => rfl
  have s6 : ∀ n k L, evFor (evRng1 (evVar 3)) (gvName 4) nbB [9, 10] [.val (.int n), .val (.int most), .val (.int degree), .val (.int count), k, .nst L, .un, .un, .own (iL []), .un, .un] = .nx [.val (.int (nSteps count n count.toNat).1), .val (.int most), .val (.int degree), .val (.int count), kS k count.toNat, .nst L, .un, .un, .own (iL (nSteps count n count.toNat).2), .un, .un] := by
    intro n k L
    have e : evRng1 (evVar 3) [.val (.int n), .val (.int most), .val (.int degree), .val (.int count), k, .nst L, .un, .un, .own (iL []), .un, .un] = .ok (rgL 0 count.toNat) := by
      have h1 : -4000000 ≤ count := by omega
      have h2 : count ≤ 4000000 := by omega
      simp [h1, h2]
    rw [apFor, e]
    dsimp only
    refine forE_rg (fun i => [.val (.int (nSteps count n i).1), .val (.int most), .val (.int degree), .val (.int count), kS k i, .nst L, .un, .un, .own (iL (nSteps count n i).2), .un, .un]) rfl fun i hi => ?_
    exact nbB_at _ count _ (by rw [nSteps_len]; omega) c0 (by omega) _ _ _ _ _ _
  unfold F__law_draw_net runF ev__law_draw_net
  show (match evSeq (evSet 3 _) (evSeq (evSet 0 _) (evSeq (evSetN 5 _) (evSeq (evFor _ (gvName 4) dbB [6, 7]) (evSeq (evSet 8 _) (evSeq (evFor _ (gvName 4) nbB [9, 10]) _))))) [.val (.int number), .val (.int most), .val (.int degree), .un, .un, .un, .un, .un, .un, .un, .un] with
  | .nx _ => Rx.v .non
  | .rt (.v d) => .v d
  | .rt (.own l) => .own l
  | .ex c _ => .ex c
  | _ => .no) = _
  rw [seq_nx s1, seq_nx s2, seq_nx s3, seq_nx s4, seq_nx (s5 _ _ _), seq_nx (s6 _ _ _)]
  rw [eN]
  simp [frzE, netV, Function.comp_def]
end Com
set_option maxHeartbeats 2000000
namespace Com
open PySem PySem.Spec PyProof.Rows L2 Ab Ev
theorem lc_filt {it : EvI} {tv : EvT} {ee : EvE} {j : Nat} {ws : List Nat} {E : En} {l : List Int} (p : Int → Bool) (k : Int → Int) (hi : it E = .ok (iL l)) (hl : l.length ≤ 100000) (ht : ∀ a ∈ l, tv ((wp ws E).set j (.val (.int a))) = .ok (p a)) (he : ∀ a ∈ l, p a = true → ee ((wp ws E).set j (.val (.int a))) = .ok (vI (k a))) : evLc it (gvName j) tv ee ws E = .ok (.fr (iL ((l.filter p).map k))) := by
  rw [apLc, hi]
  have h : lcR (lcT (gvName j) tv ee ws E) (l.map D.int) = some ((l.filter p).map fun a => D.int (k a)) := lcR_filt l fun a ha => by
    unfold lcT
    rw [apName]
    dsimp only
    rw [ht a ha]
    dsimp only
    cases hp : p a with
    | true => rw [he a ha hp]; rfl
    | false => rfl
  show (match lcR (lcT (gvName j) tv ee ws E) (l.map D.int) with | some l => if l.length ≤ 100000 then Res.ok (R.fr l) else .no | none => .no) = _
  rw [h]
  dsimp only
  have h2 : ((l.filter p).map fun a => D.int (k a)).length ≤ 100000 := by
    rw [List.length_map]; exact Nat.le_trans (List.length_filter_le _ _) hl
  rw [if_pos h2]
  show Res.ok (R.fr (List.map (fun a => D.int (k a)) (List.filter p l))) = Res.ok (R.fr (List.map D.int (List.map k (List.filter p l))))
  rw [List.map_map]; rfl
def shRow0 (count k : Int) : List Int := [(k - 1) % count, (k + 1) % count]
def p1 (count : Int) : Int → Bool := fun j => decide (0 ≤ j) && decide (j < count)
def p2 (count k : Int) : Int → Bool := fun j => (decide (0 ≤ j) && decide (j < count)) && (!decide (j = k) && decide ((if j - k < 0 then -(j - k) else j - k) < 3))
def l3 (k : Int) : List Int := (if decide (k > 0) = true then [(k - 1) / 2] else []) ++ [2 * k + 1, 2 * k + 2]
theorem shRow_eq (way count k : Int) : shRow way count k = (if decide (way = 3) = true then (l3 k).filter (fun j => decide (j < count)) else if decide (way = 2) = true then [k + 1, k - 2, k + 2, k - 1].filter (p2 count k) else if decide (way = 1) = true then [k - 1, k + 1].filter (p1 count) else shRow0 count k) := rfl
abbrev E6 (x0 x1 : Sl) (way count : Int) (x4 : Sl) (k : Int) (x6 x7 x8 : Sl) : En := [x0, x1, .val (.int way), .val (.int count), x4, .val (.int k), x6, x7, x8]
section
variable (x0 x1 x4 x6 x7 x8 : Sl) (way count k : Int)
def sb0 : EvS := evSet 6 (evCB fLst (evCons (evBin oMod (evCB fInt (evCons (evBin oSub (evVar 5) (evC (.int 1))) (evNil))) (evVar 3)) (evCons (evBin oMod (evBin fAdd (evVar 5) (evC (.int 1))) (evVar 3)) (evNil))))
theorem sb0_at (hc : 0 < count) : sb0 (E6 x0 x1 way count x4 k x6 x7 x8) = .nx (E6 x0 x1 way count x4 k (.own (iL (shRow0 count k))) x7 x8) := by
  unfold sb0 shRow0
  simp [hc]
def sb1 : EvS := evIfS (evTB (evBin fEq (evVar 2) (evC (.int 1)))) (evSet 6 (evLc (evIt (evCB fTup (evCons (evBin oSub (evVar 5) (evC (.int 1))) (evCons (evBin fAdd (evVar 5) (evC (.int 1))) (evNil))))) (gvName 7) (evTB (evChain oLe oLt (evC (.int 0)) (evVar 7) (evVar 3))) (evVar 7) [7])) (evNext)
theorem sb1_at (r : List Int) : sb1 (E6 x0 x1 way count x4 k (.own (iL r)) x7 x8) = .nx (E6 x0 x1 way count x4 k (.own (iL (if decide (way = 1) = true then [k - 1, k + 1].filter (p1 count) else r))) x7 x8) := by
  unfold sb1
  by_cases h : way = 1
  · have e := lc_filt (it := evIt (evCB fTup (evCons (evBin oSub (evVar 5) (evC (.int 1))) (evCons (evBin fAdd (evVar 5) (evC (.int 1))) (evNil))))) (tv := evTB (evChain oLe oLt (evC (.int 0)) (evVar 7) (evVar 3))) (ee := evVar 7) (j := 7) (ws := [7]) (E := E6 x0 x1 way count x4 k (.own (iL r)) x7 x8) (l := [k - 1, k + 1]) (p1 count) id (by simp) (by simp) (fun a _ => by unfold p1; by_cases h0 : 0 ≤ a <;> simp [h0]) (fun a _ _ => by simp)
    rw [List.map_id] at e
    rw [apIfS]
    have t : evTB (evBin fEq (evVar 2) (evC (.int 1))) (E6 x0 x1 way count x4 k (.own (iL r)) x7 x8) = .ok true := by simp [h]
    rw [t]
    dsimp only
    rw [if_pos rfl, apSet, e]
    simp [h]
  · simp [h]
def sb2 : EvS := evIfS (evTB (evBin fEq (evVar 2) (evC (.int 2)))) (evSet 6 (evLc (evIt (evCB fTup (evCons (evBin fAdd (evVar 5) (evC (.int 1))) (evCons (evBin oSub (evVar 5) (evC (.int 2))) (evCons (evBin fAdd (evVar 5) (evC (.int 2))) (evCons (evBin oSub (evVar 5) (evC (.int 1))) (evNil))))))) (gvName 7) (evTAnd (evTB (evChain oLe oLt (evC (.int 0)) (evVar 7) (evVar 3))) (evTAnd (evTB (evBin fNe (evVar 7) (evVar 5))) (evTB (evBin oLt (evCB fAbs (evCons (evBin oSub (evVar 7) (evVar 5)) (evNil))) (evC (.int 3)))))) (evVar 7) [7])) (evNext)
theorem sb2_at (r : List Int) : sb2 (E6 x0 x1 way count x4 k (.own (iL r)) x7 x8) = .nx (E6 x0 x1 way count x4 k (.own (iL (if decide (way = 2) = true then [k + 1, k - 2, k + 2, k - 1].filter (p2 count k) else r))) x7 x8) := by
  unfold sb2
  by_cases h : way = 2
  · have e := lc_filt (it := evIt (evCB fTup (evCons (evBin fAdd (evVar 5) (evC (.int 1))) (evCons (evBin oSub (evVar 5) (evC (.int 2))) (evCons (evBin fAdd (evVar 5) (evC (.int 2))) (evCons (evBin oSub (evVar 5) (evC (.int 1))) (evNil))))))) (tv := evTAnd (evTB (evChain oLe oLt (evC (.int 0)) (evVar 7) (evVar 3))) (evTAnd (evTB (evBin fNe (evVar 7) (evVar 5))) (evTB (evBin oLt (evCB fAbs (evCons (evBin oSub (evVar 7) (evVar 5)) (evNil))) (evC (.int 3)))))) (ee := evVar 7) (j := 7) (ws := [7]) (E := E6 x0 x1 way count x4 k (.own (iL r)) x7 x8) (l := [k + 1, k - 2, k + 2, k - 1]) (p2 count k) id (by simp) (by simp) (fun a _ => by unfold p2; by_cases h0 : 0 ≤ a <;> by_cases h1 : a < count <;> by_cases h2 : a = k <;> first | (subst h2; simp [h0, h1]) | simp [h0, h1, h2]) (fun a _ _ => by simp)
    rw [List.map_id] at e
    rw [apIfS]
    have t : evTB (evBin fEq (evVar 2) (evC (.int 2))) (E6 x0 x1 way count x4 k (.own (iL r)) x7 x8) = .ok true := by simp [h]
    rw [t]
    dsimp only
    rw [if_pos rfl, apSet, e]
    simp [h]
  · simp [h]
def sb3 : EvS := evIfS (evTB (evBin fEq (evVar 2) (evC (.int 3)))) (evSet 6 (evLc (evIt (evBin fAdd (evIf (evTB (evBin oGt (evVar 5) (evC (.int 0)))) (evCB fLst (evCons (evBin oDiv (evBin oSub (evVar 5) (evC (.int 1))) (evC (.int 2))) (evNil))) (evCB fLst (evNil))) (evCB fLst (evCons (evBin fAdd (evBin fMul (evC (.int 2)) (evVar 5)) (evC (.int 1))) (evCons (evBin fAdd (evBin fMul (evC (.int 2)) (evVar 5)) (evC (.int 2))) (evNil)))))) (gvName 7) (evTB (evBin oLt (evVar 7) (evVar 3))) (evVar 7) [7])) (evNext)
theorem fCat_ll {a b : List D} (h : a.length + b.length ≤ 100000) : fCat (.val (.lst a)) (.val (.lst b)) = some (.fr (a ++ b)) := by
  show (if a.length + b.length ≤ 100000 then _ else _) = _
  rw [if_pos h]
theorem sb3_at (r : List Int) : sb3 (E6 x0 x1 way count x4 k (.own (iL r)) x7 x8) = .nx (E6 x0 x1 way count x4 k (.own (iL (if decide (way = 3) = true then (l3 k).filter (fun j => decide (j < count)) else r))) x7 x8) := by
  unfold sb3
  by_cases h : way = 3
  · have hm : cMul 2 k = true := cMul_l (by decide) (by decide)
    have e := lc_filt (it := evIt (evBin fAdd (evIf (evTB (evBin oGt (evVar 5) (evC (.int 0)))) (evCB fLst (evCons (evBin oDiv (evBin oSub (evVar 5) (evC (.int 1))) (evC (.int 2))) (evNil))) (evCB fLst (evNil))) (evCB fLst (evCons (evBin fAdd (evBin fMul (evC (.int 2)) (evVar 5)) (evC (.int 1))) (evCons (evBin fAdd (evBin fMul (evC (.int 2)) (evVar 5)) (evC (.int 2))) (evNil)))))) (tv := evTB (evBin oLt (evVar 7) (evVar 3))) (ee := evVar 7) (j := 7) (ws := [7]) (E := E6 x0 x1 way count x4 k (.own (iL r)) x7 x8) (l := l3 k) (fun j => decide (j < count)) id (by unfold l3; by_cases h0 : 0 < k <;> simp [h0, hm, fCat_ll]) (by unfold l3; by_cases h0 : 0 < k <;> simp [h0]) (fun a _ => by simp) (fun a _ _ => by simp)
    rw [List.map_id] at e
    rw [apIfS]
    have t : evTB (evBin fEq (evVar 2) (evC (.int 3))) (E6 x0 x1 way count x4 k (.own (iL r)) x7 x8) = .ok true := by simp [h]
    rw [t]
    dsimp only
    rw [if_pos rfl, apSet, e]
    simp [h]
  · simp [h]
def shB : EvS := evSeq sb0 (evSeq sb1 (evSeq sb2 (evSeq sb3 (evFrz 6 (evApp 4 (evVar 6))))))
theorem shB_at (hc : 0 < count) (L : List (List Int)) (hL : L.length < 100000) : stepO [6] (shB (E6 x0 x1 way count (.own (L.map lI)) k .un x7 x8)) = some (E6 x0 x1 way count (.own ((L ++ [shRow way count k]).map lI)) k .un x7 x8) := by
  unfold shB
  rw [seq_nx (sb0_at _ _ _ _ _ _ _ _ _ hc), seq_nx (sb1_at _ _ _ _ _ _ _ _ _), seq_nx (sb2_at _ _ _ _ _ _ _ _ _), seq_nx (sb3_at _ _ _ _ _ _ _ _ _), shRow_eq]
  simp [frzE, hL]
end
theorem own_at (l : List Int) (i : Nat) (h : i < l.length) : atI (iL l) (i : Int) = some (.int (l.getD i 0)) := by
  rw [at_nat (Int.natCast_nonneg i), Int.toNat_natCast, List.getElem?_map, List.getElem?_eq_getElem h, List.getD_eq_getElem?_getD, List.getElem?_eq_getElem h]; rfl
theorem sIx_nat (n d i : Nat) (h : i ≤ n) : HT.sIx n d (some (i : Int)) = i := by
  unfold HT.sIx
  simp [show ¬ ((i : Int) < 0) by omega]
  omega
theorem cut_to (xs : List D) (i : Nat) (h : i ≤ xs.length) : Ev.cutD xs none (some (i : Int)) = xs.take i := by
  unfold Ev.cutD
  rw [sIx_nat _ _ _ h]
  show List.take (i - 0) (List.drop 0 xs) = _
  rfl
abbrev E8 (a : Int) (x1 x2 : Sl) (count : Int) (x4 : Sl) (k : Nat) (x6 x7 : Sl) (ns : List Int) : En := [.val (.int a), x1, x2, .val (.int count), x4, .val (.int (k : Int)), x6, x7, .own (iL ns)]
def snT : EvT := evTB (evBin (fInA false) (evBin fSub (evVar 8) (evVar 5)) (evSl (evVar 8) (evONo) (evO (evVar 5))))
theorem snT_at (a : Int) (x1 x2 x4 x6 x7 : Sl) (count m : Int) (pre : List Int) : snT (E8 a x1 x2 count x4 pre.length x6 x7 (pre ++ [m])) = .ok (decide (m ∈ pre)) := by
  have h1 := own_at (pre ++ [m]) pre.length (by simp)
  rw [show (pre ++ [m]).getD pre.length 0 = m by simp [List.getD_eq_getElem?_getD]] at h1
  have h2 : Ev.cutD (iL (pre ++ [m])) none (some (pre.length : Int)) = iL pre := by
    rw [cut_to _ _ (by simp)]; simp
  have h3 : fIn false (.val (.int m)) (.val (.lst (iL pre))) = some (vB (decide (m ∈ pre))) := fIn_ints (neg := false) rfl
  have h4 : evSl (evVar 8) (evONo) (evO (evVar 5)) (E8 a x1 x2 count x4 pre.length x6 x7 (pre ++ [m])) = .ok (.fr (iL pre)) := by
    show Res.ok (R.fr (Ev.cutD (iL (pre ++ [m])) none (some (pre.length : Int)))) = _
    rw [h2]
  have h5 : evBin fSub (evVar 8) (evVar 5) (E8 a x1 x2 count x4 pre.length x6 x7 (pre ++ [m])) = .ok (vI m) := by
    show lift (fSub (.red (iL (pre ++ [m]))) (.val (.int (pre.length : Int)))) = _
    rw [uSub, fIx_red, h1]; rfl
  unfold snT
  rw [apTB, apBin, h5]
  simp only [bind_ok]
  rw [h4]
  simp [h3]
def snS : EvS := evSetI 8 (evVar 5) (evBin fAdd (evBin fSub (evVar 8) (evVar 5)) (evC (.int 1)))
theorem snS_at (a : Int) (x1 x2 x4 x6 x7 : Sl) (count m : Int) (pre : List Int) : snS (E8 a x1 x2 count x4 pre.length x6 x7 (pre ++ [m])) = .nx (E8 a x1 x2 count x4 pre.length x6 x7 (pre ++ [m + 1])) := by
  have h1 := own_at (pre ++ [m]) pre.length (by simp)
  rw [show (pre ++ [m]).getD pre.length 0 = m by simp [List.getD_eq_getElem?_getD]] at h1
  have h5 : evBin fAdd (evBin fSub (evVar 8) (evVar 5)) (evC (.int 1)) (E8 a x1 x2 count x4 pre.length x6 x7 (pre ++ [m])) = .ok (vI (m + 1)) := by
    rw [apBin, apBin]
    show ((lift (fSub (.red (iL (pre ++ [m]))) (.val (.int (pre.length : Int))))).bind _) = _
    rw [uSub, fIx_red, h1]; rfl
  have h6 : ixN (iL (pre ++ [m])).length (pre.length : Int) = some pre.length := by
    unfold ixN
    rw [if_pos (by omega), if_pos (by simp; omega), Int.toNat_natCast]
  unfold snS evSetI
  rw [h5]
  show (match ixN (iL (pre ++ [m])).length (pre.length : Int) with | some j => O.nx (List.set _ 8 (.own ((iL (pre ++ [m])).set j (.int (m + 1))))) | none => .no) = _
  rw [h6]
  dsimp only
  have h7 : (iL (pre ++ [m])).set pre.length (.int (m + 1)) = iL (pre ++ [m + 1]) := by
    simp [List.set_append]
  rw [h7]; rfl
def snA : EvS := evApp 8 (evBin oMod (evCB fInt (evCons (evBin fMul (evBin fMul (evBin fAdd (evVar 5) (evC (.int 1))) (evBin fAdd (evC (.int 1)) (evBin oDiv (evVar 0) (evC (.int 16))))) (evC (.int 7))) (evNil))) (evC (.int 101)))
theorem snA_at (a k m : Int) (x1 x2 x3 x4 x6 x7 : Sl) (ns : List Int) (hk : cMul (k + 1) (1 + a / 16) = true) (hl : ns.length < 100000) (hm : (k + 1) * (1 + a / 16) * 7 % 101 = m) : snA [.val (.int a), x1, x2, x3, x4, .val (.int k), x6, x7, .own (iL ns)] = .nx [.val (.int a), x1, x2, x3, x4, .val (.int k), x6, x7, .own (iL (ns ++ [m]))] := by
  unfold snA
  simp [hk, hl, hm]
def snB : EvS := evSeq snA (evFor (evRng1 (evVar 3)) (gvName 7) (evIfS snT snS evNext) [])
theorem snL_at (a : Int) (x1 x2 x4 x6 x7 : Sl) (count : Int) (hc : 0 < count) (hc2 : count ≤ 1000) (pre : List Int) (m : Int) : evFor (evRng1 (evVar 3)) (gvName 7) (evIfS snT snS evNext) [] (E8 a x1 x2 count x4 pre.length x6 x7 (pre ++ [m])) = .nx (E8 a x1 x2 count x4 pre.length x6 (kS x7 count.toNat) (pre ++ [bump pre count.toNat m])) := by
  have e : evRng1 (evVar 3) (E8 a x1 x2 count x4 pre.length x6 x7 (pre ++ [m])) = .ok (rgL 0 count.toNat) := by
    have h1 : -4000000 ≤ count := by omega
    have h2 : count ≤ 4000000 := by omega
    unfold E8
    generalize pre ++ [m] = l
    generalize ((pre.length : Nat) : Int) = k
    simp [h1, h2]
  rw [apFor, e]
  dsimp only
  refine forE_rg (fun i => E8 a x1 x2 count x4 pre.length x6 (kS x7 i) (pre ++ [bump pre i m])) rfl fun i hi => ?_
  show stepO [] (evIfS snT snS evNext (E8 a x1 x2 count x4 pre.length x6 (.val (.int (i : Int))) (pre ++ [bump pre i m]))) = some (E8 a x1 x2 count x4 pre.length x6 (.val (.int (i : Int))) (pre ++ [bump pre (i + 1) m]))
  rw [apIfS, snT_at]
  dsimp only
  by_cases hb : Ab.bump pre i m ∈ pre
  · have e2 : Ab.bump pre (i + 1) m = Ab.bump pre i m + 1 := by simp [Ab.bump, hb]
    rw [if_pos (by simp [hb]), snS_at, e2]; rfl
  · have e2 : Ab.bump pre (i + 1) m = Ab.bump pre i m := by simp [Ab.bump, hb]
    rw [if_neg (by simp [hb]), e2]; rfl
theorem snB_at (a : Int) (x1 x2 x4 x6 x7 : Sl) (count m : Int) (hc : 0 < count) (hc2 : count ≤ 1000) (pre : List Int) (hp : pre.length < 1000) (hm : (((pre.length : Nat) : Int) + 1) * (1 + a / 16) * 7 % 101 = m) : stepO [] (snB (E8 a x1 x2 count x4 pre.length x6 x7 pre)) = some (E8 a x1 x2 count x4 pre.length x6 (kS x7 count.toNat) (pre ++ [bump pre count.toNat m])) := by
  have s1 : snA (E8 a x1 x2 count x4 pre.length x6 x7 pre) = .nx (E8 a x1 x2 count x4 pre.length x6 x7 (pre ++ [m])) := snA_at a _ m _ _ _ _ _ _ _ (cMul_l (by omega) (by omega)) (by omega) hm
  unfold snB
  rw [seq_nx s1, snL_at a x1 x2 x4 x6 x7 count hc hc2 pre m]; rfl
theorem rows_succ (way count : Int) (i : Nat) : (List.range (i + 1)).map (fun (k : Nat) => shRow way count k) = (List.range i).map (fun (k : Nat) => shRow way count k) ++ [shRow way count (i : Int)] := by
  rw [List.range_succ, List.map_append]; rfl
def k7S (count : Int) : Nat → Sl
  | 0 => .un
  | _ + 1 => kS .un count.toNat
theorem k7_next (count : Int) (hc : 0 < count) : ∀ i, kS (k7S count i) count.toNat = k7S count (i + 1)
  | 0 => rfl
  | j + 1 => by
    show kS (kS .un count.toNat) count.toNat = kS .un count.toNat
    have : count.toNat ≠ 0 := by omega
    cases hh : count.toNat with
    | zero => exact absurd hh this
    | succ j => rfl
def Ssh (number : Int) (x1 x2 : Sl) (count : Int) (x4 k : Sl) (i : Nat) : En := [.val (.int number), x1, x2, .val (.int count), x4, kS k i, .un, k7S count i, .own (iL (shNames count number i))]
theorem Ssh_step (number : Int) (x1 x2 : Sl) (count : Int) (hc : 0 < count) (hc2 : count ≤ 1000) (x4 k : Sl) (i : Nat) (hi : i < 1000) : stepO [] (snB [.val (.int number), x1, x2, .val (.int count), x4, .val (.int (i : Int)), .un, k7S count i, .own (iL (shNames count number i))]) = some (Ssh number x1 x2 count x4 k (i + 1)) := by
  have hlen := shNames_len count number i
  have hs : shNames count number (i + 1) = shNames count number i ++ [bump (shNames count number i) count.toNat (((i : Nat) + 1) * (1 + number / 16) * 7 % 101)] := rfl
  obtain ⟨m, em⟩ : ∃ m, ((((i : Nat) : Int) + 1) * (1 + number / 16) * 7 % 101) = m := ⟨_, rfl⟩
  rw [em] at hs
  have b := snB_at number x1 x2 x4 .un (k7S count i) count m hc hc2 (shNames count number i) (by omega) (by rw [hlen]; exact em)
  unfold E8 at b
  rw [hlen, ← hs, k7_next count hc] at b
  rw [b]; rfl
theorem Ssh_loop (number : Int) (x1 x2 : Sl) (count : Int) (hc : 0 < count) (hc2 : count ≤ 1000) (x4 k : Sl) : evFor (evRng1 (evVar 3)) (gvName 5) snB [] [.val (.int number), x1, x2, .val (.int count), x4, k, .un, .un, .own (iL [])] = .nx (Ssh number x1 x2 count x4 k count.toNat) := by
  have e : evRng1 (evVar 3) [.val (.int number), x1, x2, .val (.int count), x4, k, .un, .un, .own (iL [])] = .ok (rgL 0 count.toNat) := by
    have h1 : -4000000 ≤ count := by omega
    have h2 : count ≤ 4000000 := by omega
    simp [h1, h2]
  rw [apFor, e]
  dsimp only
  refine forE_rg (Ssh number x1 x2 count x4 k) rfl fun i hi => ?_
  unfold Ssh
  rw [apName, Option.bind_some]
  exact Ssh_step number x1 x2 count hc hc2 x4 k i (by omega)
theorem law_shape_net (number most : Int) (h1 : 3 ≤ most) (h2 : most ≤ 900) : F__law_shape_net [.val (.int number), .val (.int most)] = .v (netV (netS number most)) := by
  have hm0 : (0 : Int) < most - 2 := by omega
  have f0 := Int.emod_nonneg (number / 4) (show most - 2 ≠ 0 by omega)
  have f1 := Int.emod_lt_of_pos (number / 4) hm0
  unfold netS
  dsimp only
  obtain ⟨way, ew⟩ : ∃ c, number % 4 = c := ⟨_, rfl⟩
  have s1 : evSet 2 (evBin oMod (evCB fInt (evCons (evVar 0) (evNil))) (evC (.int 4))) [.val (.int number), .val (.int most), .un, .un, .un, .un, .un, .un, .un] = .nx [.val (.int number), .val (.int most), .val (.int way), .un, .un, .un, .un, .un, .un] := by
    simp [ew]
  obtain ⟨q, eq⟩ : ∃ c, number / 4 % (most - 2) = c := ⟨_, rfl⟩
  have s2 : evSet 3 (evBin fAdd (evC (.int 3)) (evBin oMod (evCB fInt (evCons (evBin oDiv (evVar 0) (evC (.int 4))) (evNil))) (evBin oSub (evVar 1) (evC (.int 2))))) [.val (.int number), .val (.int most), .val (.int way), .un, .un, .un, .un, .un, .un] = .nx [.val (.int number), .val (.int most), .val (.int way), .val (.int (3 + q)), .un, .un, .un, .un, .un] := by
    have hm1 : 2 < most := by omega
    simp [hm0, eq, hm1]
  rw [ew, eq]
  rw [eq] at f0 f1
  obtain ⟨count, ec⟩ : ∃ c, 3 + q = c := ⟨_, rfl⟩
  have c0 : 0 < count := by omega
  have c1 : count ≤ 1000 := by omega
  rw [ec] at s2 ⊢
  clear f0 f1 ec eq ew
  have s3 : evSet 4 (evCB fLst (evNil)) [.val (.int number), .val (.int most), .val (.int way), .val (.int count), .un, .un, .un, .un, .un] = .nx [.val (.int number), .val (.int most), .val (.int way), .val (.int count), .own [], .un, .un, .un, .un] := rfl
  have s4 : evFor (evRng1 (evVar 3)) (gvName 5) shB [6] [.val (.int number), .val (.int most), .val (.int way), .val (.int count), .own [], .un, .un, .un, .un] = .nx [.val (.int number), .val (.int most), .val (.int way), .val (.int count), .own (((List.range count.toNat).map fun (k : Nat) => shRow way count k).map lI), kS .un count.toNat, .un, .un, .un] := by
    have e : evRng1 (evVar 3) [.val (.int number), .val (.int most), .val (.int way), .val (.int count), .own [], .un, .un, .un, .un] = .ok (rgL 0 count.toNat) := by
      have h1 : -4000000 ≤ count := by omega
      have h2 : count ≤ 4000000 := by omega
      simp [h1, h2]
    rw [apFor, e]
    dsimp only
    refine forE_rg (fun i => [.val (.int number), .val (.int most), .val (.int way), .val (.int count), .own (((List.range i).map fun (k : Nat) => shRow way count k).map lI), kS .un i, .un, .un, .un]) rfl fun i hi => ?_
    have := shB_at (.val (.int number)) (.val (.int most)) .un .un way count (i : Int) c0 ((List.range i).map fun (k : Nat) => shRow way count k) (by rw [List.length_map, List.length_range]; omega)
    rw [← rows_succ] at this
    exact this
  have s5 : ∀ L k, evSet 8 (evCB fLst (evNil)) [.val (.int number), .val (.int most), .val (.int way), .val (.int count), .own L, k, .un, .un, .un] = .nx [.val (.int number), .val (.int most), .val (.int way), .val (.int count), .own L, k, .un, .un, .own (iL [])] := fun _ _ => rfl
  have s6 := fun L k => Ssh_loop number (.val (.int most)) (.val (.int way)) count c0 c1 (.own L) k
  unfold F__law_shape_net runF ev__law_shape_net
  show (match evSeq (evSet 2 _) (evSeq (evSet 3 _) (evSeq (evSet 4 _) (evSeq (evFor _ (gvName 5) shB [6]) (evSeq (evSet 8 _) (evSeq (evFor _ (gvName 5) snB []) _))))) [.val (.int number), .val (.int most), .un, .un, .un, .un, .un, .un, .un] with
  | .nx _ => Rx.v .non
  | .rt (.v d) => .v d
  | .rt (.own l) => .own l
  | .ex c _ => .ex c
  | _ => .no) = _
  rw [seq_nx s1, seq_nx s2, seq_nx s3, seq_nx s4, seq_nx (s5 _ _), seq_nx (s6 _ _)]
  unfold Ssh
  rfl
theorem law_net (number most : Int) (h1 : 3 ≤ most) (h2 : most ≤ 900) : F__law_net [.val (.int number), .val (.int most)] = .v (netV (netF number most)) := by
  unfold F__law_net runF ev__law_net netF
  by_cases h : number % 3 = 0
  · have e := apF_v (F := F__law_shape_net) (as := [.val (.int (number / 3)), .val (.int most)]) rfl (law_shape_net (number / 3) most h1 h2)
    simp [h, e]
  · have e := apF_v (F := F__law_draw_net) (as := [.val (.int (number / 3)), .val (.int most), .val (.int 4)]) rfl (law_draw_net (number / 3) most 4 (by omega) (by omega) (by decide))
    simp [h, e]
theorem law_drawn (ns : List Int) (k : Nat) (most : Int) (h1 : 3 ≤ most) (h2 : most ≤ 900) : F__law_drawn [.scr ns, .val (.int (k : Int)), .val (.int most)] = .v (netV (netF (absI (cellF ns k)) most)) := by
  unfold F__law_drawn runF ev__law_drawn
  have e1 := apF_v (F := F__law_cell) (as := [.scr ns, .val (.int (k : Int))]) rfl (law_cell ns k)
  have e2 := apF_v (F := F__law_net) (as := [.val (.int (absI (cellF ns k))), .val (.int most)]) rfl (law_net (absI (cellF ns k)) most h1 h2)
  generalize cellF ns k = c at *
  simp [e1, absI_def, e2]
end Com
set_option maxHeartbeats 2000000
namespace Com
open PySem PySem.Spec PyProof.Rows L2 Ab Ev
def portsD (r : List Int) : List (Key × D) := r.zipIdx.map fun op => (Sum.inl op.1, D.int (op.2 : Nat))
def netFs (ns : List Int) (nb : List (List Int)) : List (Str × D) := [("_names", lI ns), ("_neighbors", .lst (nb.map lI)), ("_ports", .lst (nb.map fun r => .dic (portsD r)))]
abbrev netO (ns : List Int) (nb : List (List Int)) : D := .obj "Network" (netFs ns nb)
theorem enL_get {l : List D} {i : Nat} {d : D} (h : (enL l)[i]? = some d) : ∃ x, l[i]? = some x ∧ d = .tup [.int (i : Nat), x] := by
  unfold enL at h
  rw [List.getElem?_map, List.getElem?_zipIdx] at h
  cases e : l[i]? with
  | none => rw [e] at h; cases h
  | some x => rw [e] at h; refine ⟨x, rfl, ?_⟩; have := Option.some.inj h; rw [← this]; simp
theorem okNames_iff {ns : List Int} (h : okNames ns = true) : ns ≠ [] ∧ (∀ x ∈ ns, 0 ≤ x) ∧ dd ns = ns.length := by
  unfold okNames at h
  rw [Bool.and_eq_true, Bool.and_eq_true] at h
  obtain ⟨a, b, c⟩ := h
  refine ⟨by rintro rfl; simp at a, fun x hx => ?_, of_decide_eq_true c⟩
  exact of_decide_eq_true (List.all_eq_true.mp b x hx)
theorem foldl_min_nonneg : ∀ (l : List Int) (a : Int), 0 ≤ a → (∀ x ∈ l, 0 ≤ x) → 0 ≤ l.foldl min a
  | [], a, h, _ => h
  | b :: l, a, h, hl => foldl_min_nonneg l (min a b) (by have := hl b (by simp); omega) fun x hx => hl x (List.mem_cons_of_mem _ hx)
theorem mnI_nonneg {ns : List Int} (h : ∀ x ∈ ns, 0 ≤ x) : 0 ≤ mnI ns := by
  cases ns with
  | nil => exact Int.le_refl _
  | cons a l => exact foldl_min_nonneg l a (h a (by simp)) fun x hx => h x (List.mem_cons_of_mem _ hx)
theorem fLenSet_iL {x : Sl} {ns : List Int} (h : sqS x = some (iL ns)) (hl : ns.length ≤ 4000) : fLenSet x = some (vI (dd ns : Nat)) := by
  unfold fLenSet; rw [h]; simp [hl]
theorem check_names {ns : List Int} (h : okNames ns = true) (hl : ns.length ≤ 4000) : F__check_names [.val (lI ns)] = .v .non := by
  obtain ⟨h0, h1, h2⟩ := okNames_iff h
  have e1 : fMinL [.val (lI ns)] = some (vI (mnI ns)) := fMinL_ints rfl h0
  have e2 : fLenSet (.val (lI ns)) = some (vI (dd ns : Nat)) := fLenSet_iL rfl hl
  have e3 : ¬ mnI ns < 0 := by have := mnI_nonneg h1; omega
  rw [h2] at e2
  have e4 : (iL ns).isEmpty = false := by cases ns with | nil => exact absurd rfl h0 | cons a l => rfl
  unfold F__check_names runF ev__check_names
  generalize mnI ns = m at *
  have e5 : (iL ns).length = ns.length := List.length_map ..
  generalize ns.length = n at *
  simp [e1, e2, e3, e4, e5]
theorem okRow_iff {n size : Int} {row : List Int} (h : okRow n row size = true) : (∀ o ∈ row, 0 ≤ o ∧ o < size ∧ o ≠ n) ∧ dd row = row.length := by
  unfold okRow at h
  rw [Bool.and_eq_true] at h
  refine ⟨fun o ho => ?_, of_decide_eq_true h.2⟩
  have := List.all_eq_true.mp h.1 o ho
  simp at this
  exact ⟨this.1.1, this.1.2, this.2⟩
theorem forE_same {gv : EvG} {b : EvS} {ws : List Nat} {E : En} (l : List D) (h : ∀ d ∈ l, (gv d E).bind (fun E1 => stepO ws (b E1)) = some E) : forE gv b ws l E = .nx E :=
  forE_fun l (fun _ => E) fun i d e => h d (List.mem_of_getElem? e)
theorem check_row {n size : Int} {row : List Int} (h : okRow n row size = true) (hl : row.length ≤ 4000) : F__check_row [.val (.int n), .val (lI row), .val (.int size)] = .v .non := by
  obtain ⟨h1, h2⟩ := okRow_iff h
  have e2 : fLenSet (.val (lI row)) = some (vI (dd row : Nat)) := fLenSet_iL rfl hl
  rw [h2] at e2
  have s1 : evFor (evItV 1) (gvName 3) (evSeq (evIfS (evTNot (evTB (evChain oLe oLt (evC (.int 0)) (evVar 3) (evVar 2)))) (evRaise "InvalidNetwork") (evNext))
    (evIfS (evTB (evBin fEq (evVar 3) (evVar 0))) (evRaise "InvalidNetwork") (evNext))) [3] [.val (.int n), .val (lI row), .val (.int size), .un] = .nx [.val (.int n), .val (lI row), .val (.int size), .un] := by
    rw [apFor]
    show forE _ _ _ (iL row) _ = _
    refine forE_same _ fun d hd => ?_
    obtain ⟨o, ho, rfl⟩ := List.mem_map.mp hd
    obtain ⟨a, b, c⟩ := h1 o ho
    simp [a, b, c]
  have e5 : (iL row).length = row.length := List.length_map ..
  generalize row.length = k at *
  unfold F__check_row runF ev__check_row
  show (match evSeq _ _ [.val (.int n), .val (lI row), .val (.int size), .un] with
  | .nx _ => Rx.v .non
  | .rt (.v d) => .v d
  | .rt (.own l) => .own l
  | .ex c _ => .ex c
  | _ => .no) = _
  rw [seq_nx s1]
  simp [e2, e5]
theorem putD_new {kvs : List (Key × D)} {k : Key} {d : D} (h : ∀ kv ∈ kvs, kv.1 ≠ k) : putD kvs k d = kvs ++ [(k, d)] := by
  unfold putD
  rw [if_neg]
  intro h2
  obtain ⟨kv, hkv, e⟩ := List.any_eq_true.mp h2
  exact h kv hkv (of_decide_eq_true e)
theorem dcR_new {α : Type} {f : D → Option (Option (Key × D))} {h : α → D} {k : α → Key} {v : α → D} : ∀ (l : List α) (acc : List (Key × D)), (∀ a ∈ l, f (h a) = some (some (k a, v a))) → (l.map k).Nodup → (∀ a ∈ l, ∀ kv ∈ acc, kv.1 ≠ k a) → acc.length + l.length < 100000 → dcR f (l.map h) acc = some (acc ++ l.map fun a => (k a, v a))
  | [], acc, _, _, _, _ => by simp [dcR]
  | a :: l, acc, hf, hn, hk, hl => by
    rw [List.map_cons, List.nodup_cons] at hn
    show (match f (h a) with | some (some kd) => if acc.length < 100000 then dcR f (l.map h) (putD acc kd.1 kd.2) else none | some none => dcR f (l.map h) acc | none => none) = _
    rw [hf a (by simp)]
    dsimp only
    rw [List.length_cons] at hl
    rw [if_pos (by omega), putD_new (hk a (by simp)), dcR_new l _ (fun b hb => hf b (List.mem_cons_of_mem _ hb)) hn.2 (fun b hb kv hkv => by
      rcases List.mem_append.mp hkv with q | q
      · exact hk b (List.mem_cons_of_mem _ hb) kv q
      · rw [List.mem_singleton.mp q]
        intro e
        exact hn.1 (List.mem_map.mpr ⟨b, hb, e.symm⟩)) (by rw [List.length_append]; simp; omega)]
    simp
theorem ports_by {row : List Int} (hn : row.Nodup) (hl : row.length ≤ 4000) : F__ports_by_neighbor [.val (lI row)] = .v (.dic (portsD row)) := by
  have e : evDc (evEnV 0) (gvTup (gvCons (gvName 1) (gvCons (gvName 2) (gvNil)))) (evYes) (evVar 2) (evVar 1) [1, 2] [.val (lI row), .un, .un] = .ok (.frk (portsD row)) := by
    have h0 : enL (iL row) = row.zipIdx.map fun op => D.tup [.int (op.2 : Nat), .int op.1] := by
      unfold enL
      rw [List.zipIdx_map, List.map_map]; rfl
    have h1 : dcR (dcT (gvTup (gvCons (gvName 1) (gvCons (gvName 2) (gvNil)))) (evYes) (evVar 2) (evVar 1) [1, 2] [.val (lI row), .un, .un]) (enL (iL row)) [] = some ([] ++ row.zipIdx.map fun op => ((Sum.inl op.1 : Key), D.int (op.2 : Nat))) := by
      rw [h0]
      refine dcR_new row.zipIdx [] (fun a _ => rfl) ?_ (fun _ _ _ h => nomatch h) (by simp; omega)
      have : row.zipIdx.map (fun op => (Sum.inl op.1 : Key)) = row.map Sum.inl := by
        rw [show (fun op : Int × Nat => (Sum.inl op.1 : Key)) = Sum.inl ∘ Prod.fst from rfl, ← List.map_map, List.zipIdx_map_fst]
      rw [this]
      exact List.Pairwise.map _ (fun a b h e => h (Sum.inl.inj e)) hn
    show (Res.ok (enL (iL row))).bind _ = _
    rw [bind_ok, h1]; rfl
  unfold F__ports_by_neighbor runF ev__ports_by_neighbor
  show (match evRet _ [.val (lI row), .un, .un] with
  | .nx _ => Rx.v .non
  | .rt (.v d) => .v d
  | .rt (.own l) => .own l
  | .ex c _ => .ex c
  | _ => .no) = _
  rw [apRet, e]; rfl
theorem okNet_iff {ns : List Int} {nb : List (List Int)} (h : okNet ns nb = true) : okNames ns = true ∧ nb.length = ns.length ∧ (∀ i row, nb[i]? = some row → okRow (i : Nat) row ns.length = true) ∧ okBack nb = true := by
  unfold okNet at h
  rw [Bool.and_eq_true, Bool.and_eq_true, Bool.and_eq_true] at h
  obtain ⟨a, b, c, d⟩ := h
  have hb : nb.length = ns.length := of_decide_eq_true b
  refine ⟨a, hb, fun i row e => ?_, d⟩
  have hi : i < nb.length := (List.getElem?_eq_some_iff.mp e).1
  have := List.all_eq_true.mp c i (List.mem_range.mpr hi)
  rwa [List.getD_eq_getElem?_getD, e] at this
theorem okBack_at {nb : List (List Int)} (h : okBack nb = true) {i : Nat} {row : List Int} (e : nb[i]? = some row) {o : Int} (ho : o ∈ row) : (i : Int) ∈ nb.getD o.toNat [] := by
  have hi : i < nb.length := (List.getElem?_eq_some_iff.mp e).1
  have h1 := List.all_eq_true.mp h i (List.mem_range.mpr hi)
  rw [List.getD_eq_getElem?_getD, e] at h1
  have := List.all_eq_true.mp h1 o ho
  exact List.contains_iff_mem.mp this
theorem lkD_ports_some {row : List Int} {k : Int} (h : k ∈ row) : ∃ p, lkD (portsD row) (.inl k) = some (.int p) := by
  unfold lkD portsD
  cases e : (row.zipIdx.map fun op => ((Sum.inl op.1 : Key), D.int (op.2 : Nat))).find? (fun kv => decide (kv.1 = .inl k)) with
  | none =>
    exfalso
    rw [List.find?_eq_none] at e
    obtain ⟨i, hi, rfl⟩ := List.getElem_of_mem h
    have hm : (row[i], i) ∈ row.zipIdx := by
      rw [List.mem_zipIdx_iff_getElem?]; exact List.getElem?_eq_getElem hi
    exact e _ (List.mem_map.mpr ⟨_, hm, rfl⟩) (by simp)
  | some kv =>
    have := List.mem_of_find?_eq_some e
    obtain ⟨op, _, rfl⟩ := List.mem_map.mp this
    exact ⟨_, rfl⟩
def crE (ns : List Int) (nb : List (List Int)) : En := [.val (netO ns nb), .un, .un, .un]
@[simp] theorem fld_nb {ns nb} : fFld [("Network", "_neighbors")] "_neighbors" (.val (netO ns nb)) = some (.s (.val (.lst (nb.map lI)))) := rfl
@[simp] theorem fld_nm {ns nb} : fFld [("Network", "_names")] "_names" (.val (netO ns nb)) = some (.s (.val (lI ns))) := rfl
@[simp] theorem fld_pt {ns nb} : fFld [("Network", "_ports")] "_ports" (.val (netO ns nb)) = some (.s (.val (.lst (nb.map fun r => .dic (portsD r))))) := rfl
theorem at_row {nb : List (List Int)} {o : Int} (h0 : 0 ≤ o) (h : o < nb.length) : atI (nb.map lI) o = some (lI (nb.getD o.toNat [])) := by
  rw [at_nat h0, List.getElem?_map, List.getD_eq_getElem?_getD, List.getElem?_eq_getElem (by omega)]; rfl
theorem at_port {nb : List (List Int)} {o : Int} (h0 : 0 ≤ o) (h : o < nb.length) : atI (nb.map fun r => D.dic (portsD r)) o = some (.dic (portsD (nb.getD o.toNat []))) := by
  rw [at_nat h0, List.getElem?_map, List.getD_eq_getElem?_getD, List.getElem?_eq_getElem (by omega)]; rfl
@[simp] theorem fIn_dic {n x kvs} : fIn n x (.val (.dic kvs)) = none := by
  unfold fIn
  cases x with
  | val d => rfl
  | _ => rfl
@[simp] theorem fDIn_dic {n kvs} {k : Int} : fDIn n (.val (.int k)) (.val (.dic kvs)) = some (vB (if n then !(lkD kvs (.inl k)).isSome else (lkD kvs (.inl k)).isSome)) := rfl
theorem check_returns {ns : List Int} {nb : List (List Int)} (h : okNet ns nb = true) : F_Network__check_returns [.val (netO ns nb)] = .v .non := by
  obtain ⟨h1, h2, h3, h4⟩ := okNet_iff h
  have s1 : ev_Network__check_returns (crE ns nb) = .nx (crE ns nb) := by
    unfold ev_Network__check_returns
    rw [apFor]
    have e : evEn (evUn (fFld [("Network", "_neighbors")] "_neighbors") (evVar 0)) (crE ns nb) = .ok (enL (nb.map lI)) := rfl
    rw [e]
    dsimp only
    refine forE_same _ fun d hd => ?_
    obtain ⟨i, hi⟩ := List.getElem?_of_mem hd
    obtain ⟨x, hx, rfl⟩ := enL_get hi
    rw [List.getElem?_map] at hx
    cases hr : nb[i]? with
    | none => rw [hr] at hx; cases hx
    | some row =>
      rw [hr] at hx
      cases hx
      have inner : evFor (evItV 2) (gvName 3) (evIfS (evTB (evBin (fInA true) (evVar 1) (evBin fSub (evUn (fFld [("Network", "_ports")] "_ports") (evVar 0)) (evVar 3)))) (evRaise "InvalidNetwork") (evNext)) [3] [.val (netO ns nb), .val (.int (i : Nat)), .val (lI row), .un] = .nx [.val (netO ns nb), .val (.int (i : Nat)), .val (lI row), .un] := by
        rw [apFor]
        show forE _ _ _ (iL row) _ = _
        refine forE_same _ fun d hd => ?_
        obtain ⟨o, ho, rfl⟩ := List.mem_map.mp hd
        obtain ⟨o0, o1, -⟩ := (okRow_iff (h3 i row hr)).1 o ho
        obtain ⟨p, hp⟩ := lkD_ports_some (okBack_at h4 hr ho)
        have a1 := at_port (nb := nb) o0 (by omega)
        generalize nb.getD o.toNat [] = r2 at *
        generalize ((i : Nat) : Int) = k at *
        simp [a1, hp]
      show stepO [1, 2, 3] (evFor _ _ _ _ [.val (netO ns nb), .val (.int (i : Nat)), .val (lI row), .un]) = _
      rw [inner]; rfl
  unfold F_Network__check_returns runF
  show (match ev_Network__check_returns (crE ns nb) with
  | .nx _ => Rx.v .non
  | .rt (.v d) => .v d
  | .rt (.own l) => .own l
  | .ex c _ => .ex c
  | _ => .no) = _
  rw [s1]
end Com
set_option maxHeartbeats 2000000
namespace Com
open PySem PySem.Spec PyProof.Rows L2 Ab Ev
theorem lc_all {α : Type} {it : EvI} {ee : EvE} {j : Nat} {ws : List Nat} {E : En} {l : List α} {h k : α → D} (hi : it E = .ok (l.map h)) (hl : l.length ≤ 100000) (he : ∀ a ∈ l, ∃ r, ee ((wp ws E).set j (.val (h a))) = .ok r ∧ r.arg = .val (k a)) : evLc it (gvName j) evYes ee ws E = .ok (.fr (l.map k)) := by
  rw [apLc, hi]
  have e : lcR (lcT (gvName j) evYes ee ws E) (l.map h) = some (l.map k) := lcR_one l fun a ha => by
    obtain ⟨r, e1, e2⟩ := he a ha
    unfold lcT
    rw [apName]
    dsimp only
    rw [apYes]
    dsimp only
    rw [if_pos rfl, e1]
    dsimp only
    rw [argD_r e2]; rfl
  rw [bind_ok, e]
  dsimp only
  rw [if_pos (by rw [List.length_map]; exact hl)]
def rS (nb : List (List Int)) : Nat → Sl
  | 0 => .un
  | i + 1 => .val (lI (nb.getD i []))
theorem net_init {ns : List Int} {nb : List (List Int)} (h : okNet ns nb = true) (hl : ns.length ≤ 4000) (hr : ∀ row ∈ nb, row.length ≤ 4000) : I_Network [.val (lI ns), .val (.lst (nb.map lI))] = .ok (netFs ns nb) := by
  obtain ⟨h1, h2, h3, h4⟩ := okNet_iff h
  have hnd : ∀ row ∈ nb, row.Nodup := fun row hrow => by
    obtain ⟨i, hi⟩ := List.getElem?_of_mem hrow
    have := (okRow_iff (h3 i row hi)).2
    exact ndb_iff.mp (decide_eq_true this)
  have s1 : evDrop (evCall F__check_names (evCons (evVar 1) (evNil))) [.ins "Network" [], .val (lI ns), .val (.lst (nb.map lI)), .un, .un] = .nx [.ins "Network" [], .val (lI ns), .val (.lst (nb.map lI)), .un, .un] := by
    have e := apF_v (F := F__check_names) (as := [.val (lI ns)]) rfl (check_names h1 hl)
    simp [e]
  have s2 : evIfS (evTB (evBin fNe (evCB fLen (evCons (evVar 2) (evNil))) (evCB fLen (evCons (evVar 1) (evNil))))) (evRaise "InvalidNetwork") (evNext) [.ins "Network" [], .val (lI ns), .val (.lst (nb.map lI)), .un, .un] = .nx [.ins "Network" [], .val (lI ns), .val (.lst (nb.map lI)), .un, .un] := by
    have e1 : (nb.map lI).length = ns.length := by rw [List.length_map, h2]
    have e2 : (iL ns).length = ns.length := List.length_map ..
    generalize nb.map lI = L at *
    generalize iL ns = M at *
    simp [e1, e2]
  have s3 : evFor (evEnV 2) (gvTup (gvCons (gvName 3) (gvCons (gvName 4) (gvNil)))) (evDrop (evCall F__check_row (evCons (evVar 3) (evCons (evVar 4) (evCons (evCB fLen (evCons (evVar 1) (evNil))) (evNil)))))) [3] [.ins "Network" [], .val (lI ns), .val (.lst (nb.map lI)), .un, .un] = .nx [.ins "Network" [], .val (lI ns), .val (.lst (nb.map lI)), .un, rS nb (enL (nb.map lI)).length] := by
    rw [apFor]
    have e : evEnV 2 [.ins "Network" [], .val (lI ns), .val (.lst (nb.map lI)), .un, .un] = .ok (enL (nb.map lI)) := rfl
    rw [e]
    dsimp only
    refine forE_fun (enL (nb.map lI)) (fun i => [.ins "Network" [], .val (lI ns), .val (.lst (nb.map lI)), .un, rS nb i]) fun i d hd => ?_
    obtain ⟨x, hx, rfl⟩ := enL_get hd
    rw [List.getElem?_map] at hx
    cases hrw : nb[i]? with
    | none => rw [hrw] at hx; cases hx
    | some row =>
      rw [hrw] at hx
      cases hx
      have hlen : row.length ≤ 4000 := hr row (List.mem_of_getElem? hrw)
      have e1 := apF_v (F := F__check_row) (as := [.val (.int (i : Nat)), .val (lI row), .val (.int ((iL ns).length : Nat))]) rfl (by rw [show (iL ns).length = ns.length from List.length_map ..]; exact check_row (h3 i row hrw) hlen)
      have e2 : rS nb (i + 1) = .val (lI row) := by
        show Sl.val (lI (nb.getD i [])) = _
        rw [List.getD_eq_getElem?_getD, hrw]; rfl
      have e4 : evCall F__check_row (evCons (evVar 3) (evCons (evVar 4) (evCons (evCB fLen (evCons (evVar 1) (evNil))) (evNil)))) [.ins "Network" [], .val (lI ns), .val (.lst (nb.map lI)), .val (.int (i : Nat)), .val (lI row)] = apF F__check_row [.val (.int (i : Nat)), .val (lI row), .val (.int ((iL ns).length : Nat))] := rfl
      rw [e2]
      show stepO [3] (evDrop _ [.ins "Network" [], .val (lI ns), .val (.lst (nb.map lI)), .val (.int (i : Nat)), .val (lI row)]) = _
      rw [apDrop, e4, e1]; rfl
  generalize rS nb (enL (nb.map lI)).length = x4 at s3
  have s4 : evFldI [("Network", "_names")] 0 "_names" (evCB fList (evCons (evVar 1) (evNil))) [.ins "Network" [], .val (lI ns), .val (.lst (nb.map lI)), .un, x4] = .nx [.ins "Network" [("_names", lI ns)], .val (lI ns), .val (.lst (nb.map lI)), .un, x4] := rfl
  have c5 : evLc (evItV 2) (gvName 4) (evYes) (evCB fList (evCons (evVar 4) (evNil))) [4] [.ins "Network" [("_names", lI ns)], .val (lI ns), .val (.lst (nb.map lI)), .un, x4] = .ok (.fr (nb.map lI)) := lc_all (h := lI) rfl (by omega) fun a _ => ⟨_, rfl, rfl⟩
  have s5 : evFldI [("Network", "_neighbors")] 0 "_neighbors" (evLc (evItV 2) (gvName 4) (evYes) (evCB fList (evCons (evVar 4) (evNil))) [4]) [.ins "Network" [("_names", lI ns)], .val (lI ns), .val (.lst (nb.map lI)), .un, x4] = .nx [.ins "Network" [("_names", lI ns), ("_neighbors", .lst (nb.map lI))], .val (lI ns), .val (.lst (nb.map lI)), .un, x4] := by
    unfold evFldI; rw [c5]; rfl
  have c6 : evLc (evItV 2) (gvName 4) (evYes) (evCallN F__ports_by_neighbor (evCons (evVar 4) (evNil))) [4] [.ins "Network" [("_names", lI ns), ("_neighbors", .lst (nb.map lI))], .val (lI ns), .val (.lst (nb.map lI)), .un, x4] = .ok (.fr (nb.map fun r => .dic (portsD r))) := lc_all (h := lI) rfl (by omega) fun a ha => by
    have e1 := apF_v (F := F__ports_by_neighbor) (as := [.val (lI a)]) rfl (ports_by (hnd a ha) (hr a ha))
    refine ⟨.s (.val (.dic (portsD a))), ?_, rfl⟩
    show nox (apF F__ports_by_neighbor [.val (lI a)]) = _
    rw [e1]; rfl
  have s6 : evFldI [("Network", "_ports")] 0 "_ports" (evLc (evItV 2) (gvName 4) (evYes) (evCallN F__ports_by_neighbor (evCons (evVar 4) (evNil))) [4]) [.ins "Network" [("_names", lI ns), ("_neighbors", .lst (nb.map lI))], .val (lI ns), .val (.lst (nb.map lI)), .un, x4] = .nx [.ins "Network" (netFs ns nb), .val (lI ns), .val (.lst (nb.map lI)), .un, x4] := by
    unfold evFldI; rw [c6]; rfl
  have s7 : evFrz 0 (evDrop (evMeth "_check_returns" [("Network", F_Network__check_returns)] (evVar 0) evNil)) [.ins "Network" (netFs ns nb), .val (lI ns), .val (.lst (nb.map lI)), .un, x4] = .nx [.slf "Network" (netFs ns nb), .val (lI ns), .val (.lst (nb.map lI)), .un, x4] := by
    have e1 := apF_v (F := F_Network__check_returns) (as := [.val (netO ns nb)]) rfl (check_returns h)
    show evDrop _ [.slf "Network" (netFs ns nb), .val (lI ns), .val (.lst (nb.map lI)), .un, x4] = _
    have e2 : evMeth "_check_returns" [("Network", F_Network__check_returns)] (evVar 0) evNil [.slf "Network" (netFs ns nb), .val (lI ns), .val (.lst (nb.map lI)), .un, x4] = apF F_Network__check_returns [.val (netO ns nb)] := rfl
    rw [apDrop, e2, e1]
  unfold I_Network runI ev_Network___init__
  show (match evSeq _ _ [.ins "Network" [], .val (lI ns), .val (.lst (nb.map lI)), .un, .un] with
  | .nx E => (match slfS E[0]? with
    | some cf => if cf.1 = "Network" then Ix.ok cf.2 else .no
    | none => .no)
  | .ex c _ => .ex c
  | _ => .no) = _
  rw [seq_nx s1, seq_nx s2, seq_nx s3, seq_nx s4, seq_nx s5, seq_nx s6, seq_nx s7]
  show (if (("Network" : Str)) = "Network" then Ix.ok (netFs ns nb) else .no) = _
  rw [if_pos rfl]
theorem law_made {ns : List Int} {nb : List (List Int)} (h : okNet ns nb = true) (hl : ns.length ≤ 4000) (hr : ∀ row ∈ nb, row.length ≤ 4000) : F__law_made [.val (netV (ns, nb))] = .v (netO ns nb) := by
  have hnb := (okNet_iff h).2.1
  have c1 : evLc (evIt (evBin fSub (evVar 0) (evC (.int 1)))) (gvName 1) (evYes) (evCB fList (evCons (evVar 1) (evNil))) [1] [.val (netV (ns, nb)), .un] = .ok (.fr (nb.map lI)) := lc_all (h := lI) rfl (by omega) fun a _ => ⟨_, rfl, rfl⟩
  have c2 : evMake "Network" I_Network (evCons (evCB fList (evCons (evBin fSub (evVar 0) (evC (.int 0))) (evNil))) (evCons (evLc (evIt (evBin fSub (evVar 0) (evC (.int 1)))) (gvName 1) (evYes) (evCB fList (evCons (evVar 1) (evNil))) [1]) (evNil))) [.val (netV (ns, nb)), .un] = .ok (.s (.val (netO ns nb))) := by
    have e1 := apI_v (c := "Network") (F := I_Network) (as := [.val (lI ns), .val (.lst (nb.map lI))]) rfl (net_init h hl hr)
    rw [apMake, apCons, apCons, c1, ← e1]
    rfl
  unfold F__law_made runF ev__law_made
  show (match evRet _ [.val (netV (ns, nb)), .un] with
  | .nx _ => Rx.v .non
  | .rt (.v d) => .v d
  | .rt (.own l) => .own l
  | .ex c _ => .ex c
  | _ => .no) = _
  rw [apRet, c2]
  rfl
theorem net_size {ns nb} : F_Network_size [.val (netO ns nb)] = .v (.int (ns.length : Nat)) := by
  have e : (iL ns).length = ns.length := List.length_map ..
  rw [← e]; rfl
theorem net_names {ns nb} : F_Network_names [.val (netO ns nb)] = .own (iL ns) := rfl
theorem net_neighbors {ns nb} {k : Int} (h0 : 0 ≤ k) (h : k < nb.length) : F_Network_neighbors [.val (netO ns nb), .val (.int k)] = .own (iL (nb.getD k.toNat [])) := by
  have a := at_row (nb := nb) h0 h
  unfold F_Network_neighbors runF ev_Network_neighbors
  generalize nb.getD k.toNat [] = r at *
  simp [a]
end Com
set_option maxHeartbeats 2000000
namespace Com
open PySem PySem.Spec PyProof.Rows L2 Ab Ev
end Com
set_option maxHeartbeats 2000000
namespace Com
open PySem PySem.Spec PyProof.Rows L2 Ab Ev
@[simp] theorem isi_bl_bool {x} : fIsi "bool" (.val (.bl x)) = some (vB true) := by show (isT "bool" "bool").map vB = _; rw [show isT "bool" "bool" = some true by decide]; rfl
@[simp] theorem isi_bl_str {x} : fIsi "str" (.val (.bl x)) = some (vB false) := by show (isT "bool" "str").map vB = _; rw [show isT "bool" "str" = some false by decide]; rfl
@[simp] theorem isi_bl_int {x} : fIsi "int" (.val (.bl x)) = some (vB true) := by show (isT "bool" "int").map vB = _; rw [show isT "bool" "int" = some true by decide]; rfl
@[simp] theorem isi_bl_list {x} : fIsi "list" (.val (.bl x)) = some (vB false) := by show (isT "bool" "list").map vB = _; rw [show isT "bool" "list" = some false by decide]; rfl
@[simp] theorem isi_bl_tuple {x} : fIsi "tuple" (.val (.bl x)) = some (vB false) := by show (isT "bool" "tuple").map vB = _; rw [show isT "bool" "tuple" = some false by decide]; rfl
@[simp] theorem isi_int_bool {x} : fIsi "bool" (.val (.int x)) = some (vB false) := by show (isT "int" "bool").map vB = _; rw [show isT "int" "bool" = some false by decide]; rfl
@[simp] theorem isi_int_str {x} : fIsi "str" (.val (.int x)) = some (vB false) := by show (isT "int" "str").map vB = _; rw [show isT "int" "str" = some false by decide]; rfl
@[simp] theorem isi_int_int {x} : fIsi "int" (.val (.int x)) = some (vB true) := by show (isT "int" "int").map vB = _; rw [show isT "int" "int" = some true by decide]; rfl
@[simp] theorem isi_int_list {x} : fIsi "list" (.val (.int x)) = some (vB false) := by show (isT "int" "list").map vB = _; rw [show isT "int" "list" = some false by decide]; rfl
@[simp] theorem isi_int_tuple {x} : fIsi "tuple" (.val (.int x)) = some (vB false) := by show (isT "int" "tuple").map vB = _; rw [show isT "int" "tuple" = some false by decide]; rfl
@[simp] theorem isi_str_bool {x} : fIsi "bool" (.val (.str x)) = some (vB false) := by show (isT "str" "bool").map vB = _; rw [show isT "str" "bool" = some false by decide]; rfl
@[simp] theorem isi_str_str {x} : fIsi "str" (.val (.str x)) = some (vB true) := by show (isT "str" "str").map vB = _; rw [show isT "str" "str" = some true by decide]; rfl
@[simp] theorem isi_str_int {x} : fIsi "int" (.val (.str x)) = some (vB false) := by show (isT "str" "int").map vB = _; rw [show isT "str" "int" = some false by decide]; rfl
@[simp] theorem isi_str_list {x} : fIsi "list" (.val (.str x)) = some (vB false) := by show (isT "str" "list").map vB = _; rw [show isT "str" "list" = some false by decide]; rfl
@[simp] theorem isi_str_tuple {x} : fIsi "tuple" (.val (.str x)) = some (vB false) := by show (isT "str" "tuple").map vB = _; rw [show isT "str" "tuple" = some false by decide]; rfl
@[simp] theorem isi_lst_bool {x} : fIsi "bool" (.val (.lst x)) = some (vB false) := by show (isT "list" "bool").map vB = _; rw [show isT "list" "bool" = some false by decide]; rfl
@[simp] theorem isi_lst_str {x} : fIsi "str" (.val (.lst x)) = some (vB false) := by show (isT "list" "str").map vB = _; rw [show isT "list" "str" = some false by decide]; rfl
@[simp] theorem isi_lst_int {x} : fIsi "int" (.val (.lst x)) = some (vB false) := by show (isT "list" "int").map vB = _; rw [show isT "list" "int" = some false by decide]; rfl
@[simp] theorem isi_lst_list {x} : fIsi "list" (.val (.lst x)) = some (vB true) := by show (isT "list" "list").map vB = _; rw [show isT "list" "list" = some true by decide]; rfl
@[simp] theorem isi_lst_tuple {x} : fIsi "tuple" (.val (.lst x)) = some (vB false) := by show (isT "list" "tuple").map vB = _; rw [show isT "list" "tuple" = some false by decide]; rfl
@[simp] theorem isi_tup_bool {x} : fIsi "bool" (.val (.tup x)) = some (vB false) := by show (isT "tuple" "bool").map vB = _; rw [show isT "tuple" "bool" = some false by decide]; rfl
@[simp] theorem isi_tup_str {x} : fIsi "str" (.val (.tup x)) = some (vB false) := by show (isT "tuple" "str").map vB = _; rw [show isT "tuple" "str" = some false by decide]; rfl
@[simp] theorem isi_tup_int {x} : fIsi "int" (.val (.tup x)) = some (vB false) := by show (isT "tuple" "int").map vB = _; rw [show isT "tuple" "int" = some false by decide]; rfl
@[simp] theorem isi_tup_list {x} : fIsi "list" (.val (.tup x)) = some (vB false) := by show (isT "tuple" "list").map vB = _; rw [show isT "tuple" "list" = some false by decide]; rfl
@[simp] theorem isi_tup_tuple {x} : fIsi "tuple" (.val (.tup x)) = some (vB true) := by show (isT "tuple" "tuple").map vB = _; rw [show isT "tuple" "tuple" = some true by decide]; rfl
@[simp] theorem isN_str {b i} : fIsN b (.val (.str i)) = some (vB (if b then !false else false)) := rfl
@[simp] theorem eqF_str {neg a b} : fEqF neg (.val (.str a)) (.val (.str b)) = some (vB (if neg then !decide (a = b) else decide (a = b))) := (rfl)
mutual
def okD : Nat → D → Bool
  | 0, _ => false
  | n + 1, .non => true
  | n + 1, .bl _ => true
  | n + 1, .int _ => true
  | n + 1, .str _ => true
  | n + 1, .lst l => decide (l.length ≤ 100000) && okDs n l
  | n + 1, .tup l => decide (l.length ≤ 100000) && okDs n l
  | _, _ => false
def okDs : Nat → List D → Bool
  | _, [] => true
  | n, d :: ds => okD n d && okDs n ds
end
theorem okDs_mem {n : Nat} : ∀ {l : List D}, okDs n l = true → ∀ d ∈ l, okD n d = true
  | [], _, d, h => nomatch h
  | a :: l, h, d, hd => by
    unfold okDs at h
    rw [Bool.and_eq_true] at h
    rcases List.mem_cons.mp hd with q | q
    · rw [q]; exact h.1
    · exact okDs_mem h.2 d q
theorem okDs_of {n : Nat} : ∀ {l : List D}, (∀ d ∈ l, okD n d = true) → okDs n l = true
  | [], _ => by unfold okDs; rfl
  | a :: l, h => by
    unfold okDs
    rw [Bool.and_eq_true]
    exact ⟨h a (by simp), okDs_of fun d hd => h d (List.mem_cons_of_mem _ hd)⟩
theorem like_all {F : Fn} {l : List D} (x : D) (hx : x = .lst l ∨ x = .tup l) (hl : l.length ≤ 100000) (hF : ∀ d ∈ l, F [.val d, .val d] = .v (.bl true)) : evCB fAll (evCons (evLc (evRng1 (evCB fLen (evCons (evVar 1) (evNil)))) (gvName 2) (evYes) (evCallN F (evCons (evBin fSub (evVar 0) (evVar 2)) (evCons (evBin fSub (evVar 1) (evVar 2)) (evNil)))) [2]) (evNil)) [.val x, .val x, .un] = .ok (vB true) := by
  have e : evRng1 (evCB fLen (evCons (evVar 1) (evNil))) [.val x, .val x, .un] = .ok ((List.range l.length).map fun (i : Nat) => D.int (0 + (i : Int))) := by
    have h1 : -4000000 ≤ (l.length : Int) := by omega
    have h2 : (l.length : Int) ≤ 4000000 := by omega
    have h3 : rgL 0 l.length = (List.range l.length).map fun (i : Nat) => D.int (0 + (i : Int)) := rfl
    rw [← h3]
    rcases hx with rfl | rfl <;> simp [h1, h2]
  have c := lc_all (ee := evCallN F (evCons (evBin fSub (evVar 0) (evVar 2)) (evCons (evBin fSub (evVar 1) (evVar 2)) (evNil)))) (j := 2) (ws := [2]) (k := fun _ => D.bl true) e (by rw [List.length_range]; exact hl) fun i hi => by
    have hil : i < l.length := List.mem_range.mp hi
    have a1 : atI l (0 + (i : Int)) = some l[i] := by
      rw [Int.zero_add, at_nat (Int.natCast_nonneg i), Int.toNat_natCast, List.getElem?_eq_getElem hil]
    have a2 := apF_v (F := F) (as := [.val l[i], .val l[i]]) rfl (hF _ (List.getElem_mem hil))
    refine ⟨.s (.val (.bl true)), ?_, rfl⟩
    generalize (0 + (i : Int)) = q at *
    rcases hx with rfl | rfl <;> simp [a1, a2]
  have b := fAll_bls (x := .val (.lst ((List.range l.length).map fun _ => D.bl true))) (bs := (List.range l.length).map fun _ => true) (by rw [sqS1, List.map_map]; rfl)
  have ha : ((List.range l.length).map fun _ => true).all id = true := by
    rw [List.all_eq_true]; intro y hy; obtain ⟨_, _, rfl⟩ := List.mem_map.mp hy; rfl
  rw [ha] at b
  rw [apCB, apCons, c]
  simp [b]
theorem like_refl : ∀ (n : Nat) (d : D), okD n d = true → R__law_like n [.val d, .val d] = .v (.bl true)
  | 0, d, h => by unfold okD at h; cases h
  | n + 1, .non, _ => by unfold R__law_like runF ev__law_like; simp
  | n + 1, .bl b, _ => by unfold R__law_like runF ev__law_like; simp
  | n + 1, .int b, _ => by unfold R__law_like runF ev__law_like; simp
  | n + 1, .str b, _ => by unfold R__law_like runF ev__law_like; simp
  | n + 1, .dic b, h => by unfold okD at h; cases h
  | n + 1, .dct b, h => by unfold okD at h; cases h
  | n + 1, .obj b c, h => by unfold okD at h; cases h
  | n + 1, .tpk b, h => by unfold okD at h; cases h
  | n + 1, .lst l, h => by
    unfold okD at h
    rw [Bool.and_eq_true, decide_eq_true_eq] at h
    have c := like_all (F := R__law_like n) (.lst l) (.inl rfl) h.1 fun d hd => like_refl n d (okDs_mem h.2 d hd)
    unfold R__law_like runF ev__law_like
    generalize evCB fAll _ = cc at *
    simp [c]
  | n + 1, .tup l, h => by
    unfold okD at h
    rw [Bool.and_eq_true, decide_eq_true_eq] at h
    have c := like_all (F := R__law_like n) (.tup l) (.inr rfl) h.1 fun d hd => like_refl n d (okDs_mem h.2 d hd)
    unfold R__law_like runF ev__law_like
    generalize evCB fAll _ = cc at *
    simp [c]
end Com
set_option maxHeartbeats 2000000
namespace Com
open PySem PySem.Spec PyProof.Rows L2 Ab Ev
def RxD (r : Rx) (d : D) : Prop := r = .v d ∨ ∃ l, r = .own l ∧ d = .lst l
theorem RxD.res {F : Fn} {as : List Sl} {d : D} (h : RxD (F as) d) (ok : okArgs as = true) : ∃ r, nox (apF F as) = .ok r ∧ r.arg = .val d := by
  rcases h with h | ⟨l, h, rfl⟩
  · exact ⟨_, by rw [apF_v ok h]; rfl, rfl⟩
  · exact ⟨_, by rw [apF_own ok h]; rfl, rfl⟩
end Com
set_option maxHeartbeats 2000000
namespace Com
open PySem PySem.Spec PyProof.Rows L2 Ab Ev
end Com
set_option maxHeartbeats 2000000
namespace Com
open PySem PySem.Spec PyProof.Rows L2 Ab Ev
abbrev netT (ns : List Int) (nb : List (List Int)) : D := .tup [lI ns, .lst (nb.map lI)]
def rgI (P : Nat) : List Int := (List.range P).map fun (i : Nat) => (i : Int)
theorem rgL_rgI (P : Nat) : rgL 0 P = iL (rgI P) := by
  unfold rgL rgI iL
  rw [List.map_map]
  refine List.map_congr_left fun i _ => ?_
  show D.int (0 + (i : Int)) = _
  rw [Int.zero_add]; rfl
end Com
set_option maxHeartbeats 2000000
namespace Com
open PySem PySem.Spec PyProof.Rows L2 Ab Ev
end Com
set_option maxHeartbeats 2000000
namespace Com
open PySem PySem.Spec PyProof.Rows L2 Ab Ev
theorem all_map {α : Type} (l : List α) (p : α → Bool) : (l.map p).all id = l.all p := by rw [List.all_map]; rfl
theorem any_map {α : Type} (l : List α) (p : α → Bool) : (l.map p).any id = l.any p := by rw [List.any_map]; rfl
theorem fAll_map {α : Type} (l : List α) (p : α → Bool) : fAll [.val (.lst (l.map fun x => D.bl (p x)))] = some (vB (l.all p)) := by
  have := fAll_bls (x := .val (.lst (l.map fun x => D.bl (p x)))) (bs := l.map p) (by rw [sqS1, List.map_map]; rfl)
  rw [this, all_map]
theorem fAny_map {α : Type} (l : List α) (p : α → Bool) : fAny [.val (.lst (l.map fun x => D.bl (p x)))] = some (vB (l.any p)) := by
  have := fAny_bls (x := .val (.lst (l.map fun x => D.bl (p x)))) (bs := l.map p) (by rw [sqS1, List.map_map]; rfl)
  rw [this, any_map]
end Com
set_option maxHeartbeats 2000000
namespace Com
open PySem PySem.Spec PyProof.Rows L2 Ab Ev
end Com
set_option maxHeartbeats 2000000
namespace Run
open PySem PySem.Spec PyProof.Rows L2 Ab Ev Com Sh Sha
section
variable {ns : List Int} {nb : List (List Int)} {k : Int}
theorem d_size {F : Fn} : dsp "size" [("Network", F)] (.val (netO ns nb)) = some F := rfl
theorem d_names {F : Fn} : dsp "names" [("Network", F)] (.val (netO ns nb)) = some F := rfl
theorem d_neighbors {F : Fn} : dsp "neighbors" [("Network", F)] (.val (netO ns nb)) = some F := rfl
theorem d_degree {F : Fn} : dsp "degree" [("Network", F)] (.val (netO ns nb)) = some F := rfl
theorem d_far {F : Fn} : dsp "far_port" [("Network", F)] (.val (netO ns nb)) = some F := rfl
theorem d_links {F : Fn} : dsp "links" [("Network", F)] (.val (netO ns nb)) = some F := rfl
theorem m_size : apF F_Network_size [.val (netO ns nb)] = .ok (vI (ns.length : Nat)) := apF_v rfl net_size
theorem m_names : apF F_Network_names [.val (netO ns nb)] = .ok (.fr (iL ns)) := apF_own rfl net_names
theorem m_neighbors (h0 : 0 ≤ k) (h : k < nb.length) : apF F_Network_neighbors [.val (netO ns nb), .val (.int k)] = .ok (.fr (iL (nb.getD k.toNat []))) := apF_own rfl (net_neighbors h0 h)
theorem m_neighborsN {i : Nat} (h : i < nb.length) : apF F_Network_neighbors [.val (netO ns nb), .val (.int (i : Nat))] = .ok (.fr (iL (nb.getD i []))) := by
  have := m_neighbors (ns := ns) (nb := nb) (k := (i : Int)) (Int.natCast_nonneg i) (by omega)
  rwa [Int.toNat_natCast] at this
theorem nbAt {i : Nat} (h : i < nb.length) : nb[i]? = some (nb.getD i []) := by
  rw [List.getD_eq_getElem?_getD, List.getElem?_eq_getElem h]; rfl
end
section
variable {FT : Str → List (Str × Str)} {dt : Str → List (Str × Fn)} {ns : List Int} {nb : List (List Int)} {c : Str} {fs : List (Str × D)} {bd : D} {ins : List D} {named : Bool} {R : Nat} {st : Nat → Nat → D} {lt : Nat → Nat → List D} {out : Nat → D}
end
end Run
set_option maxHeartbeats 3200000
namespace Ev
variable [Ab.Tabl]
open PySem PySem.Spec PyProof.Rows L2 Ab
end Ev
set_option maxHeartbeats 3200000
namespace Ev
variable [Ab.Tabl]
open PySem PySem.Spec PyProof.Rows L2 Ab
section
variable {Γ : Tb} {X : Cx} {K : PySem.W.Frag} {ew : WX}
end
end Ev
namespace Sh
open PySem PySem.Spec PyProof.Rows L2 Ab Ev
variable {α β : Type} {N : α → En → Prop} {L : β → En → Prop} {E : En} {c : EvS}
end Sh
set_option maxHeartbeats 3200000
namespace Ev
variable [Ab.Tabl]
open PySem PySem.Spec PyProof.Rows L2 Ab
section
variable {Γ : Tb} {X : Cx} {K : PySem.W.Frag} {ew : WX}
end
section
variable {Γ : Tb} {X : Cx} {ew : WX}
end
end Ev
namespace Sh
open PySem PySem.Spec PyProof.Rows L2 Ab Ev
variable {α β : Type} {N : α → En → Prop} {L : β → En → Prop} {E : En} {c : EvS}
end Sh
set_option maxHeartbeats 3200000
namespace Sh
open PySem PySem.Spec PyProof.Rows L2 Ab Ev
end Sh
set_option maxHeartbeats 4000000
namespace Sh
variable [Ab.Tabl]
open PySem PySem.Spec PyProof.Rows L2 Ab Ev
variable {α β : Type}
variable {N : α → En → Prop} {L : β → En → Prop} {E : En} {a b c : EvS}
end Sh
namespace Sh
open PySem PySem.Spec PyProof.Rows L2 Ab Ev
end Sh
namespace Sh
open PySem PySem.Spec PyProof.Rows L2 Ab Ev
section
variable {α β : Type} {N : α → En → Prop} {L : β → En → Prop} {E : En} {c : EvS}
def lnS (e : Res R) : Option (List D) := match e with
  | .ok (.fr l) => some l
  | _ => none
@[simp] theorem lnS_fr {l : List D} : lnS (.ok (.fr l)) = some l := (rfl)
end
end Sh
set_option maxHeartbeats 2000000
namespace Ev
variable [Ab.Tabl]
open PySem PySem.Spec PyProof.Rows L2 Ab
section
variable {K : PySem.W.Frag} {E : List Slot} {A : AE} {tb te : TE} {l : List AbsV} {r : AbsV} {i j c : Nat} {n : Int} {p : Addr} {qs : List Addr} {L : List (List AbsV)}
end
section
variable {Γ : Tb} {X : Cx} {K : PySem.W.Frag} {ew : WX}
end
end Ev
namespace Sh
open PySem PySem.Spec PyProof.Rows L2 Ab Ev
variable [Ab.Tabl]
section
variable {α β : Type} {N : α → En → Prop} {L : β → En → Prop} {E : En} {c : EvS}
end
end Sh
set_option maxHeartbeats 2000000
namespace Ev
variable [Ab.Tabl]
open PySem PySem.Spec PyProof.Rows L2 Ab
section
variable {K : PySem.W.Frag} {Γ : Tb} {ew : WX}
def isStr : Sl → Bool
  | .val (.str _) => true
  | _ => false
theorem ty_str : ∀ (x : Sl) (v : V) (G H : Hp), isStr x = true → Same G H → RA K Γ G H x v → tyV K "str" v H := fun x v G H h gh r => by
  unfold isStr at h
  split at h
  · cases rp_str.mp r; rfl
  · cases h
def strsOf : List D → Option (List Str)
  | [] => some []
  | .str s :: l => (strsOf l).map (s :: ·)
  | _ => none
theorem strsOf_strs : ∀ ss : List Str, strsOf (ss.map D.str) = some ss
  | [] => rfl
  | s :: ss => by rw [List.map_cons, strsOf, strsOf_strs ss]; rfl
theorem strsOf_pr : ∀ {l : List D} {ss : List Str} {G : Hp} {vs : List V}, strsOf l = some ss → PR G vs (reps Γ l) → vs = ss.map V.str
  | [], ss, G, vs, h, r => by cases h; rw [reps] at r; cases r; rfl
  | .str s :: l, ss, G, vs, h, r => by
    have h : (strsOf l).map (s :: ·) = some ss := h
    rw [reps] at r
    cases r with
    | cons a t =>
      cases e : strsOf l with
      | none => rw [e] at h; cases h
      | some ms =>
        rw [e] at h
        cases h
        rw [rp_str.mp a, strsOf_pr e t]; rfl
  | .non :: _, _, _, _, h, _ => by cases h
  | .bl _ :: _, _, _, _, h, _ => by cases h
  | .int _ :: _, _, _, _, h, _ => by cases h
  | .lst _ :: _, _, _, _, h, _ => by cases h
  | .tup _ :: _, _, _, _, h, _ => by cases h
  | .dic _ :: _, _, _, _, h, _ => by cases h
  | .dct _ :: _, _, _, _, h, _ => by cases h
  | .obj _ _ :: _, _, _, _, h, _ => by cases h
  | .tpk _ :: _, _, _, _, h, _ => by cases h
  | .rng _ :: _, _, _, _, h, _ => by cases h
theorem pr_strs {G : Hp} : ∀ ss : List Str, PR G (ss.map V.str) (reps Γ (ss.map D.str))
  | [] => by rw [List.map_nil, List.map_nil, reps]; exact .nil
  | s :: ss => by rw [List.map_cons, List.map_cons, reps]; exact .cons (rp_str.mpr rfl) (pr_strs ss)
def rJoinS (K : PySem.W.Frag) : V → List V → Hp → VK → Prop := fun x xs H Q => ∃ a p, ∃ ys : List Str, x = .str a ∧ xs = [.ref p] ∧ (SqL K H p (ys.map V.str) ∨ SqT K H p (ys.map V.str)) ∧ (ys.map (·.length)).sum + ys.length * a.length ≤ 16777216 ∧ Q (.str (Txt.join a ys)) H
def fJoin (x y : Sl) : Option R := match x, sqS y with
  | .val (.str a), some l => match strsOf l with
    | some ys => if (ys.map (·.length)).sum + ys.length * a.length ≤ 16777216 then some (vS (Txt.join a ys)) else none
    | none => none
  | _, _ => none
theorem s2_join : S2 K Γ (fun x y H Q => rJoinS K x [y] H Q) fJoin := fun x y r e v w G H Q gh rx ry q => by
  unfold fJoin at e
  split at e
  · rename_i a l hl
    split at e
    · rename_i ys hy
      split at e
      · rename_i hb
        cases e
        obtain ⟨p, vs, e1, g, pr⟩ := ra_sq hl gh ry
        have ev := strsOf_pr hy pr
        subst ev
        exact ⟨a, p, ys, rp_str.mp rx, by rw [e1], .inl g, hb, q _ G H (Ext.refl gh) (rp_str.mpr rfl)⟩
      · cases e
    · cases e
  · cases e
def rSplitS : V → List V → Hp → VK → Prop := fun x xs H Q => ∃ a b, x = .str a ∧ xs = [.str b] ∧ (b.length == 0) = false ∧ a.length + 2 ≤ sizeLine ∧ rNewStrs (Txt.split a b) H Q
def fSplit (x y : Sl) : Option R := match x, y with
  | .val (.str a), .val (.str b) => if (b.length == 0) = false ∧ a.length + 2 ≤ sizeLine then some (.fr ((Txt.split a b).map D.str)) else none
  | _, _ => none
theorem s2_split : S2 K Γ (fun x y H Q => rSplitS x [y] H Q) fSplit := fun x y r e v w G H Q gh rx ry q => by
  unfold fSplit at e
  split at e
  · rename_i a b
    split at e
    · rename_i hb
      cases e
      exact ⟨a, b, rp_str.mp rx, by rw [rp_str.mp ry], hb.1, hb.2, fun z hz => q _ G _ (Ext.newO gh hz) (RR.new gh hz (pr_strs _))⟩
    · cases e
  · cases e
def rStartS : V → List V → Hp → VK → Prop := fun x xs H Q => ∃ a b, x = .str a ∧ xs = [.str b] ∧ Q (.bl (Txt.startswith a b)) H
def fStartsw (x y : Sl) : Option R := match x, y with
  | .val (.str a), .val (.str b) => some (vB (Txt.startswith a b))
  | _, _ => none
theorem s2_starts : S2 K Γ (fun x y H Q => rStartS x [y] H Q) fStartsw := fun x y r e v w G H Q gh rx ry q => by
  unfold fStartsw at e
  split at e
  · rename_i a b
    cases e
    exact ⟨a, b, rp_str.mp rx, by rw [rp_str.mp ry], q _ G H (Ext.refl gh) (rp_bl.mpr rfl)⟩
  · cases e
def evBM0 (chk : Sl → Bool) (f : Sl → Option R) (eo : EvE) : EvE := fun E => (eo E).bind fun o => if chk o.arg = true then lift (f o.arg) else .no
theorem bm0_run {P : V → List V → Hp → VK → Prop} {Ty : String} {chk : Sl → Bool} {f : Sl → Option R} {eo : EvE} (hc : ∀ x v G H, chk x = true → Same G H → RA K Γ G H x v → tyV K Ty v H) (hs : S1 K Γ (fun x H Q => P x [] H Q) f) {σ : L2.St} {H : Hp} {Q : VK} (h : T K Γ ew (evBM0 chk f eo) σ H Q) : tBM0 K Ty P (T K Γ ew eo) σ H Q := by
  obtain ⟨B, G0, G, E, Es, hE, k, h⟩ := h
  unfold evBM0 at h
  refine T.atA hE k (fun r e v G1 H1 x1 ra => ?_) (fun c e => ?_) (fun e => ?_) <;> rw [e] at h <;> dsimp only [bind_ok, bind_ex, bind_no] at h
  · by_cases hk : chk r.arg = true
    · rw [if_pos hk] at h
      refine ⟨hc _ _ _ _ hk x1.gh ra, ?_⟩
      cases hf : f r.arg with
      | none => rw [hf] at h; exact h.elim
      | some r2 =>
        rw [hf] at h
        exact hs _ _ hf v G1 H1 Q x1.gh ra fun u G3 H3 x3 rr => h u G3 H3 (x1.trans x3) (rr.back x1)
    · rw [if_neg hk] at h; exact h.elim
  · exact h
def rB0 (g : Str → Bool) : V → List V → Hp → VK → Prop := fun x xs H Q => ∃ a, x = .str a ∧ xs = [] ∧ True ∧ Q (.bl (g a)) H
def fB0 (g : Str → Bool) (x : Sl) : Option R := match x with
  | .val (.str a) => some (vB (g a))
  | _ => none
theorem s1_b0 (g : Str → Bool) : S1 K Γ (fun x H Q => rB0 g x [] H Q) (fB0 g) := fun x r e v G H Q gh rx q => by
  unfold fB0 at e
  split at e
  · rename_i a
    cases e
    exact ⟨a, rp_str.mp rx, rfl, trivial, q _ G H (Ext.refl gh) (rp_bl.mpr rfl)⟩
  · cases e
abbrev fIsdigit : Sl → Option R := fB0 Txt.isdigit
abbrev fIsascii : Sl → Option R := fB0 Txt.isascii
def fIntS : List Sl → Option R
  | [.val (.str a)] => match PySem.intText? a with
    | some n => if a.length ≤ 640 then some (vI n) else none
    | none => none
  | _ => none
def rIntX : List V → Hp → VK → Prop := fun xs H Q => ((∃ i, xs = [.int i] ∧ Q (.int i) H) ∨ ∃ k, xs = [.bl k] ∧ Q (.int (if k then 1 else 0)) H) ∨ ∃ a n, xs = [.str a] ∧ PySem.intText? a = some n ∧ a.length ≤ 640 ∧ Q (.int n) H
abbrev fIntX (x : List Sl) : Option R := (fInt x).or (fIntS x)
theorem s_intS : SLs K Γ (fun xs H Q => ∃ a n, xs = [.str a] ∧ PySem.intText? a = some n ∧ a.length ≤ 640 ∧ Q (.int n) H) fIntS := fun xs r e vs G H Q gh rx q => by
  unfold fIntS at e
  split at e
  · rename_i a
    obtain ⟨v, ev, r1⟩ := one rx; clear rx; have rx := r1; clear r1; subst ev
    split at e
    · rename_i n hn
      split at e
      · rename_i hl
        cases e; cases rp_str.mp rx
        exact ⟨a, n, rfl, hn, hl, q _ G H (Ext.refl gh) (rp_int.mpr rfl)⟩
      · cases e
    · cases e
  · cases e
theorem s_intX : SLs K Γ rIntX fIntX := fun xs r e vs G H Q gh rx q => by
  cases h : fInt xs with
  | some r2 =>
    have e2 : (fInt xs).or (fIntS xs) = some r := e
    rw [h] at e2
    cases e2
    exact .inl (s_int xs _ h vs G H Q gh rx q)
  | none =>
    have e2 : (fInt xs).or (fIntS xs) = some r := e
    rw [h] at e2
    exact .inr (s_intS xs r e2 vs G H Q gh rx q)
theorem call_intX {X : Cx} : CallR X (.type "int") rIntX := by
  intro pins s σ H xs us Q I r h
  rcases h with h | h
  · exact call_int1 pins s σ H xs us Q I r h
  · exact call_int_str pins s σ H xs us Q I r h
end
section
variable {X : Cx} {Γ : Tb} {ew : WX} {c : Expr} {eo ea : EvE}
theorem q_join (h : PE X c (tBM X.K "str" (rJoinS X.K) (T X.K Γ ew eo) (tCons (T X.K Γ ew ea) tNil))) : PE X c (T X.K Γ ew (evBM isStr fJoin eo ea)) := pe_imp h fun _ _ _ h => bm1_run ty_str s2_join h
theorem q_split (h : PE X c (tBM X.K "str" rSplitS (T X.K Γ ew eo) (tCons (T X.K Γ ew ea) tNil))) : PE X c (T X.K Γ ew (evBM isStr fSplit eo ea)) := pe_imp h fun _ _ _ h => bm1_run ty_str s2_split h
theorem q_starts (h : PE X c (tBM X.K "str" rStartS (T X.K Γ ew eo) (tCons (T X.K Γ ew ea) tNil))) : PE X c (T X.K Γ ew (evBM isStr fStartsw eo ea)) := pe_imp h fun _ _ _ h => bm1_run ty_str s2_starts h
theorem q_isdigit (h : PE X c (tBM0 X.K "str" (rB0 Txt.isdigit) (T X.K Γ ew eo))) : PE X c (T X.K Γ ew (evBM0 isStr fIsdigit eo)) := pe_imp h fun _ _ _ h => bm0_run ty_str (s1_b0 _) h
theorem q_isascii (h : PE X c (tBM0 X.K "str" (rB0 Txt.isascii) (T X.K Γ ew eo))) : PE X c (T X.K Γ ew (evBM0 isStr fIsascii eo)) := pe_imp h fun _ _ _ h => bm0_run ty_str (s1_b0 _) h
theorem mt_joinS : MtR X "str.join" (rJoinS X.K) := mt_join
theorem mt_splitS : MtR X "str.split" rSplitS := mt_split
theorem mt_startS : MtR X "str.startswith" rStartS := mt_startswith
theorem mt_isdigitS : MtR X "str.isdigit" (rB0 Txt.isdigit) := mt_isdigit
theorem mt_isasciiS : MtR X "str.isascii" (rB0 Txt.isascii) := mt_isascii
variable {e : Expr} {es : List Expr} {eas : EvA} {p pos : Pos}
theorem q_intX (hg : Gl X "int") (hm : X.mg "int" = none) (ha : PA X (e :: es) (TA' X.K Γ ew eas)) (he : starEach (e :: es) X.env = (false, eval e X.env) :: starEach es X.env := by rfl) (hpl : (backTo pos (starEach es X.env)).any (·.1) = false := by rfl) : PE X (.Call (.Name "int" p) (e :: es) [] pos) (T X.K Γ ew (evCB fIntX eas)) := q_cty call_intX s_intX hg hm bt_int ha (by decide) (by decide) he hpl
end
section
variable {K : PySem.W.Frag} {E : List Slot} {A : AE} {l : List AbsV} {r : AbsV} {i : Nat}
theorem es_pop (hx : E[i]? = some (.own l)) (hr : l[l.length - 1]? = some r) (q : A.nx (E.set i (.own (l.take (l.length - 1))))) : ES K E (tDrop (tBM0 K "list" rPop (tVar i))) A := fun B G0 σ G H D k S => by
  obtain ⟨o, e, p, vs, e2, b, g, hh, pr⟩ := P_get k.sl hx
  subst e2
  obtain ⟨v, hv, rv⟩ := pr.get hr
  refine ⟨.ref p, e, .inl ⟨rfl, _, SqL.of hh⟩, p, vs, v, rfl, rfl, hh, by rw [pr.len]; exact hv, ?_⟩
  have pt := pr.take (l.length - 1)
  rw [← pr.len, ← List.dropLast_eq_take] at pt
  have k2 := k.upd hx e pt
  rw [pr.len] at k2
  exact S.nx _ _ _ _ q k2
end
def evPop (i : Nat) : EvS := fun E => match E[i]? with
  | some (.own l) => (match l[l.length - 1]? with
    | some _ => .nx (E.set i (.own (l.take (l.length - 1))))
    | none => .no)
  | _ => .no
theorem s_pop {X : Cx} {K : PySem.W.Frag} {Γ : Tb} {ew : WX} {st : Stmt} {i : Nat} (h : PS X st (tDrop (tBM0 K "list" rPop (tVar i)))) : PS X st (TS' K Γ ew (evPop i)) := s_of h fun E Es hE hn => by
  unfold evPop at hn ⊢
  split at hn
  · rename_i l e1
    split at hn
    · rename_i d hd
      obtain ⟨s, f1, rs⟩ := P_get hE e1
      cases rs
      refine es_pop f1 (r := rep Γ d) (by rw [reps_len]; exact reps_get hd) (ER.set hE i (show SlR Γ (.own _) (.own _) from ?_))
      show Slot.own _ = Slot.own _
      rw [reps_len, reps_map, reps_map, List.map_take]
    · exact absurd rfl hn
  · exact absurd rfl hn
end Ev
namespace Sh
open PySem PySem.Spec PyProof.Rows L2 Ab Ev
variable [Ab.Tabl]
section
variable {α β : Type} {N : α → En → Prop} {L : β → En → Prop} {E : En} {c : EvS}
def hBM0 (chk : Sl → Bool) (f : Sl → Option R) (o : Res R) : Res R := o.bind fun o => if chk o.arg = true then lift (f o.arg) else .no
@[simp] theorem hBM0_ok {x : R} {chk : Sl → Bool} {f : Sl → Option R} : hBM0 chk f (.ok x) = if chk x.arg = true then lift (f x.arg) else .no := (rfl)
def popO (l : List D) (k : List D → Oc α β) : Oc α β := match l[l.length - 1]? with
  | some _ => k (l.take (l.length - 1))
  | none => .no
theorem j_pop {i : Nat} {l : List D} {k : List D → Oc α β} (hx : E[i]? = some (.own l)) (h : ∀ l, J N L (c (E.set i (.own l))) (k l)) : J N L (evSeq (evPop i) c E) (popO l k) := by
  unfold evSeq evPop popO
  rw [hx]
  dsimp only
  cases l[l.length - 1]? with
  | none => trivial
  | some d => exact h _
end
end Sh
set_option maxHeartbeats 2000000
namespace Ev
variable [Ab.Tabl]
open PySem PySem.Spec PyProof.Rows L2 Ab
def IteK (K : PySem.W.Frag) (k : Int) (a : Addr) : It :=
  ⟨fun i H => ∃ (xs : List V) (x : V), SqL K H a xs ∧ xs[i]? = some x, fun i H v H' => ∃ T x, v = .ref T ∧ H T = none ∧ H' = upd H T (.tup [.int (k + (i : Int)), x]) ∧ ∀ xs, SqL K H a xs → xs[i]? = some x, fun i H => ∃ xs : List V, SqL K H a xs ∧ xs.length = i⟩
theorem turn_enumK {P : Program} {w : World} {K : PySem.W.Frag} {elts : List Expr} {kk : Nat} {tpos : Pos} (k : Int) (a e it : Addr) :
    Turn P w K (.Tuple elts kk tpos) (IteK K k a) [e, it] e (fun i h => (∃ old, IsEnum h e it (k + (i : Int)) old) ∧ h.IsListIter it a i ∧ e ≠ it ∧ a ≠ it ∧ a ≠ e) where
  mem := by simp
  obj := fun i h st b hb => by
    obtain ⟨⟨old, he⟩, ⟨o, ho, hc, hd⟩, _⟩ := st
    have e' : b = e ∨ b = it := by simpa using hb
    rcases e' with z | z
    · rw [z]; exact ⟨_, he, fun v q => nomatch q⟩
    · rw [z]; exact ⟨o, ho, fun v q => by rw [hd] at q; cases q⟩
  keep := fun i h h' st k => let ⟨⟨old, he⟩, hi, hne⟩ := st; ⟨⟨old, k e (by simp) _ he⟩, hi.at fun o q => k it (by simp) o q, hne⟩
  item := by
    intro X hP hw hK hc i pins s σ H E I hf st hg
    subst hP hw hK
    obtain ⟨⟨old, he⟩, hit, hne, hai, hae⟩ := st
    obtain ⟨xs, x, hq, hx⟩ := hg
    obtain ⟨its, rv, p, hz⟩ := I.list hq
    obtain ⟨u, hu, ru⟩ := rv.get hx
    have hel : e < s.heap.objs.size := Heap.lt_size he
    have hil : it < s.heap.objs.size := by obtain ⟨_, q, _⟩ := hit; exact Heap.lt_size q
    have hd : X.A.in1.handled = none := I.ok.hd hc
    have D := Draws.list (prog := X.prog) (w := X.w) (A := X.A.in1) hd it a hai its.toArray
    have G := GoesN.enumFrom (elts := elts) (x1 := kk) (pos := tpos) k D e hne (by simp [hne, Ne.symm hae]) (by simp)
    have hi : i < its.toArray.size := by have := (List.getElem?_eq_some_iff.mp hu).1; simpa using this
    refine G.goes i s (fun v s2 => ∃ x H', Inv X pins σ H' s2 ∧ RelV x v ∧ (IteK X.K k a).yld i H x H' ∧ ((∃ old, IsEnum s2.heap e it (k + ((i + 1 : Nat) : Int)) old) ∧ s2.heap.IsListIter it a (i + 1) ∧ e ≠ it ∧ a ≠ it ∧ a ≠ e) ∧ ∀ b ∈ [e, it], H' b = none) E hi ⟨⟨old, he⟩, hit, p.isList⟩ fun v h' tk ⟨T, t, y, ev, hT0, hy, hTt⟩ st' hk htk => ?_
    subst ev
    have ey : y = u := by
      have : its[i]? = some y := by simpa using hy
      rw [hu] at this
      exact (Option.some.inj this).symm
    subst ey
    have new : ObjOk X.prog X.w (upd H T (.tup [.int (k + (i : Int)), x])) h' T (.tup [.int (k + (i : Int)), x]) :=
      ⟨by show 2 ≤ sizeLine; decide, [.int (k + (i : Int)) t, y], .cons ⟨_, rfl⟩ (.cons ru .nil), hTt⟩
    have I1 : Inv X pins σ (upd H T (.tup [.int (k + (i : Int)), x])) { s with heap := h', toks := tk } :=
      I.turnedNew (ch := [e, it]) hk hf hT0 new
    refine ⟨.ref T, _, I1, rfl, ⟨T, x, rfl, I.hok.fresh hT0, rfl, fun ys hy => by rw [I.list_inj hy hq]; exact hx⟩, ⟨st'.1, st'.2.1, hne, hai, hae⟩, fun b hb => ?_⟩
    have hb' : b < s.heap.objs.size := by
      have e' : b = e ∨ b = it := by simpa using hb
      rcases e' with z | z
      · rw [z]; exact hel
      · rw [z]; exact hil
    rw [upd_ne (Nat.ne_of_lt (Nat.lt_of_lt_of_le hb' hT0))]
    exact (hf b hb).1
  done := by
    intro X hP hw hK hc i pins s σ H E I hf st hg
    subst hP hw hK
    obtain ⟨⟨old, he⟩, hit, hne, hai, hae⟩ := st
    obtain ⟨xs, hq, hx⟩ := hg
    obtain ⟨its, rv, p, hz⟩ := I.list hq
    have hd : X.A.in1.handled = none := I.ok.hd hc
    have D := Draws.list (prog := X.prog) (w := X.w) (A := X.A.in1) hd it a hai its.toArray
    have G := GoesN.enumFrom (elts := elts) (x1 := kk) (pos := tpos) k D e hne (by simp [hne, Ne.symm hae]) (by simp)
    have hn : i = its.toArray.size := by have := rv.length; simp; omega
    subst hn
    exact G.stops s (fun s1 => Inv X pins σ H s1) E ⟨⟨old, he⟩, hit, p.isList⟩ fun h' tk hk htk => I.turnedL (t' := tk) (ch := [e, it]) hk hf
  self := fun A i s Q E st h => let ⟨⟨_, he⟩, _⟩ := st; wpAny_pyIter_enum he h
theorem callWith_typeKw {M : Model} {A : Around} {E : Value → Shared → Prop} {s : Shared} {env : Env} {pos : Pos} {T : String} {e : Expr} {rest : List Expr} {kws : List Keyword} {Q : Value → Shared → Prop}
    (h : wpAny M A (spliced (backTo pos (starEach (e :: rest) env))) (fun vs s₁ => wpAny M A (evalAll ((backToKw pos (keywordEach kws env)).map (·.2)))
      (fun kvs s₂ => wpAny M A (call (.type T) vs (((backToKw pos (keywordEach kws env)).filterMap (·.1)).zip kvs)) Q E s₂) E s₁) E s)
    (he : backTo pos (starEach (e :: rest) env) = (false, eval e env) :: backTo pos (starEach rest env) := by rfl)
    (hplain : (backTo pos (starEach (e :: rest) env)).any (·.1) = false := by rfl)
    (hall : (backToKw pos (keywordEach kws env)).all (·.1.isSome) = true := by rfl)
    (hkw : (backToKw pos (keywordEach kws env)).any (·.1.isNone) = false := by rfl) :
    wpAny M A (callWith pos (.type T) [] (backTo pos (starEach (e :: rest) env)) (backToKw pos (keywordEach kws env))) Q E s := by
  unfold callWith
  rw [he] at h hplain ⊢
  refine wpAny_bind (wpAny_holding (wpAny_mono (evalArgs_kwB (Q := fun a s₁ => wpAny M A (call (.type T) a.pos a.kw) Q E s₁) hall h) (fun a s₁ h₁ => wpAny_bind (wpAny_standAt ?_)) fun _ _ x => x))
  simp only [hplain, hkw, Bool.or_false]
  refine wpAny_bind (wpAny_pure ?_)
  exact wpAny_bind (wpAny_mono h₁ (fun r s₂ hr => wpAny_bind (wpAny_holding (wpAny_point (wpAny_pure hr)))) fun _ _ x => x)
def iEnumK (K : PySem.W.Frag) (ta tk : TA) : TI := fun σ H R => ta σ H fun vs H1 => tk σ H1 fun zs H2 => ∃ a xs k, vs = [.ref a] ∧ zs = [.int k] ∧ -(2 ^ 63) ≤ k ∧ k < 2 ^ 63 ∧ SqL K H2 a xs ∧ R (IteK K k a) H2
theorem pi_enumK {X : Cx} {e e2 : Expr} {ta tk : TA} {p pos tpos kp : Pos} {elts : List Expr} {kk : Nat} (hg : Gl X "enumerate") (hm : X.mg "enumerate" = none) (ha : PA X [e] ta) (hk : PK X [⟨some "start", e2, kp⟩] tk)
    (he : backTo pos (starEach [e] X.env) = (false, eval e X.env) :: backTo pos (starEach [] X.env) := by rfl) (hpl : (backTo pos (starEach [e] X.env)).any (·.1) = false := by rfl)
    (hall : (backToKw pos (keywordEach [⟨some "start", e2, kp⟩] X.env)).all (·.1.isSome) = true := by rfl) (hnone : (backToKw pos (keywordEach [⟨some "start", e2, kp⟩] X.env)).any (·.1.isNone) = false := by rfl) (hks : (backToKw pos (keywordEach [⟨some "start", e2, kp⟩] X.env)).filterMap (·.1) = [Str.ofString "start"] := by rfl) :
    PI X (.Tuple elts kk tpos) (.Call (.Name "enumerate" p) [e] [⟨some "start", e2, kp⟩] pos) (iEnumK X.K ta tk) := by
  refine ⟨fun pins s σ H R I h => ?_⟩
  refine wpAny_Call_Name_kw (ld_blt I hg hm boot_enumerate ?_)
  refine callWith_typeKw (thn (ha.run pos pins s σ H _ I h) fun us s1 ⟨vs, H1, I1, r1, q1⟩ => thn (hk.run pos pins s1 σ H1 _ I1 q1) fun ws s2 ⟨zs, H2, I2, r2, q2⟩ => ?_) he hpl hall hnone
  rw [hks]
  obtain ⟨a, xs, k, ex, ez, k0, k1, hq, q⟩ := q2
  subst ex ez
  cases r1 with
  | cons r rr =>
    cases rr
    cases r
    obtain ⟨u, rfl, t, rfl⟩ := vals1 r2
    obtain ⟨its, rv, p', hz⟩ := I2.list hq
    refine enum_begins_start (begins_list a its.toArray) p'.isList k0 k1 fun h' he hit hsz hk => wpAny_pyIter_enum he ?_
    have I3 : Inv X pins σ H2 { s2 with heap := h' } := I2.kept (t' := s2.toks) hk
    have hal : a < s2.heap.objs.size := by obtain ⟨o, q, _⟩ := p'.isList; exact Heap.lt_size q
    refine ⟨s2.heap.objs.size + 1, [s2.heap.objs.size + 1, s2.heap.objs.size], _, _, H2, rfl, I3, turn_enumK k a (s2.heap.objs.size + 1) s2.heap.objs.size, ⟨⟨.none, by simpa using he⟩, ⟨_, hit, rfl, rfl⟩, Nat.succ_ne_self _, Nat.ne_of_lt hal, Nat.ne_of_lt (Nat.lt_succ_of_lt hal)⟩, fun b hb => ?_, q⟩
    have e' : b = s2.heap.objs.size + 1 ∨ b = s2.heap.objs.size := by simpa using hb
    have hle : s2.heap.objs.size ≤ b := by
      rcases e' with z | z
      · rw [z]; exact Nat.le_add_right _ _
      · rw [z]; exact Nat.le_refl _
    exact I2.fpOk hle (I2.hok.fresh hle)
section
variable {Γ : Tb} {X : Cx} {ew : WX}
def enLK (k : Int) (l : List D) : List D := l.zipIdx.map fun di => D.tup [.int (k + ((di.2 : Nat) : Int)), di.1]
theorem enLK_len (k : Int) (l : List D) : (enLK k l).length = l.length := by unfold enLK; rw [List.length_map, List.length_zipIdx]
theorem enLK_get {k : Int} {l : List D} {i : Nat} {d : D} (h : l[i]? = some d) : (enLK k l)[i]? = some (.tup [.int (k + ((i : Nat) : Int)), d]) := by
  unfold enLK
  rw [List.getElem?_map, List.getElem?_zipIdx, h]
  simp
theorem it_enumK {K : PySem.W.Frag} {B G1 : Hp} {k : Int} {p : Addr} {vs : List V} {l : List D} (st : Stay K B G1 p vs) (pr : PR G1 vs (reps Γ l)) : ItOk Γ B G1 (IteK K k p) (enLK k l) := by
  have hl : vs.length = l.length := by rw [pr.len, reps_len]
  refine ⟨fun i G H hi g1 gh bh => ?_, fun G H g1 gh bh => ⟨vs, st G H g1 gh bh, by rw [enLK_len, hl]⟩, fun i G H x H' hi g1 gh bh y => ?_⟩
  · rw [enLK_len, ← hl] at hi
    exact ⟨vs, vs[i], st G H g1 gh bh, List.getElem?_eq_getElem hi⟩
  · rw [enLK_len] at hi
    obtain ⟨T, b, rfl, hT, rfl, hb⟩ := y
    have hb := hb vs (st G H g1 gh bh)
    obtain ⟨r, hr, rv⟩ := PR.get' (pr.mono g1) hb
    rw [reps_get (List.getElem?_eq_getElem hi)] at hr
    cases hr
    obtain ⟨e, rt⟩ := pair_new (Γ := Γ) (a := .int (k + ((i : Nat) : Int))) (b := l[i]) gh hT (rp_int.mpr rfl) rv
    exact ⟨_, _, e, enLK_get (List.getElem?_eq_getElem hi), rt⟩
def evEnK (ea ek : EvE) : EvI := fun E => (ea E).bind fun r => (lift (lstS r.arg)).bind fun l => (ek E).bind fun q => match inS q.arg with
  | some k => if -1000000 ≤ k ∧ k ≤ 1000000 then .ok (enLK k l) else .no
  | none => .no
theorem i_enumK {e e2 : Expr} {ea ek : EvE} {p pos tpos kp : Pos} {elts : List Expr} {kk : Nat} (hg : Gl X "enumerate") (hm : X.mg "enumerate" = none) (ha : PE X e (T X.K Γ ew ea)) (hk : PE X e2 (T X.K Γ ew ek))
    (hs : starEach [e] X.env = [(false, eval e X.env)] := by rfl)
    (he : backTo pos (starEach [e] X.env) = (false, eval e X.env) :: backTo pos (starEach [] X.env) := by rfl) (hpl : (backTo pos (starEach [e] X.env)).any (·.1) = false := by rfl)
    (hall : (backToKw pos (keywordEach [⟨some "start", e2, kp⟩] X.env)).all (·.1.isSome) = true := by rfl) (hnone : (backToKw pos (keywordEach [⟨some "start", e2, kp⟩] X.env)).any (·.1.isNone) = false := by rfl) (hks : (backToKw pos (keywordEach [⟨some "start", e2, kp⟩] X.env)).filterMap (·.1) = [Str.ofString "start"] := by rfl) :
    PI X (.Tuple elts kk tpos) (.Call (.Name "enumerate" p) [e] [⟨some "start", e2, kp⟩] pos) (TI' X.K Γ ew (evEnK ea ek)) :=
  pi_imp (pi_enumK hg hm (pa_cons ha pa_nil hs) (pk_cons hk pk_nil) he hpl hall hnone hks) fun σ H Q ⟨B, G0, G, E, Es, hE, k, h⟩ => by
    unfold evEnK at h
    refine T.atA hE k (fun r e v G1 H1 x1 ra => ?_) (fun c e => ?_) (fun e => ?_) <;> rw [e] at h <;> dsimp only [bind_ok, bind_ex, bind_no] at h
    · cases hi : lstS r.arg with
      | none => rw [hi] at h; exact h.elim
      | some l =>
        rw [hi] at h
        dsimp only [lift, bind_ok] at h
        obtain ⟨p, vs, e1, g, pr⟩ := ra_lst hi ra
        refine T.atA hE (k.ext x1) (fun r' e' w G2 H2 x2 rb => ?_) (fun c e' => ?_) (fun e' => ?_) <;> rw [e'] at h <;> dsimp only [bind_ok, bind_ex, bind_no] at h
        · cases hk : inS r'.arg with
          | none => rw [hk] at h; exact h.elim
          | some kk =>
            rw [hk] at h
            dsimp only at h
            by_cases hb : -1000000 ≤ kk ∧ kk ≤ 1000000
            · rw [if_pos hb] at h
              exact ⟨p, vs, kk, by rw [e1], by rw [ra_in hk rb], by omega, by omega, SqL.of (x2.gh _ _ (x2.g _ _ g)), h _ G2 H2 (x1.trans x2) (it_enumK (stay_of (x2.g _ _ g)) (pr.mono x2.g))⟩
            · rw [if_neg hb] at h; exact h.elim
        · exact fun G2 H2 x2 => h G2 H2 (x1.trans x2)
    · exact h
end
end Ev
namespace Sh
open PySem PySem.Spec PyProof.Rows L2 Ab Ev
variable [Ab.Tabl]
def iEnK (a b : Res R) : Res (List D) := a.bind fun r => (lift (lstS r.arg)).bind fun l => b.bind fun q => match inS q.arg with
  | some k => if -1000000 ≤ k ∧ k ≤ 1000000 then .ok (enLK k l) else .no
  | none => .no
end Sh
set_option maxHeartbeats 2000000
namespace Ev
variable [Ab.Tabl]
open PySem PySem.Spec PyProof.Rows L2 Ab
section
variable {K : PySem.W.Frag} {Γ : Tb} {ew : WX}
theorem keys_pr {G : Hp} : ∀ {ws : List (Key × V)} {kvs : List (Key × D)}, PK G ws (repk Γ kvs) → PR G (ws.map fun kv => kV kv.1) (reps Γ (dkL kvs))
  | [], [], _ => .nil
  | [], _ :: _, h => by rw [repk] at h; cases h
  | w :: ws, [], h => by rw [repk] at h; cases h
  | w :: ws, (k, d) :: kvs, h => by
    rw [repk] at h
    cases h with
    | cons a t =>
      show PR G (kV w.1 :: _) (reps Γ (keyD k :: dkL kvs))
      rw [reps]
      have e : w.1 = k := a.1
      rw [e]
      exact .cons keyD_rep (keys_pr t)
def fListK : List Sl → Option R
  | [x] => match dcS x with
    | some kvs => some (.fr (dkL kvs))
    | none => none
  | _ => none
theorem s_listK : SLs K Γ (fun xs H Q => ∃ (a : Addr) (kvs : List (Key × V)), xs = [.ref a] ∧ L2.Rd H a (.dK kvs) ∧ ∀ p, H p = none → Q (.ref p) (upd H p (.lst (kvs.map fun kv => kV kv.1)))) fListK := fun xs r e vs G H Q gh rx q => by
  unfold fListK at e
  split at e
  · rename_i x
    obtain ⟨v, ev, r1⟩ := one rx; clear rx; have rx := r1; clear r1; subst ev
    split at e
    · rename_i kvs hk
      cases e
      obtain ⟨p, ws, e1, g, pk⟩ := ra_dc hk gh rx
      subst e1
      exact ⟨p, ws, rfl, g, fun z hz => q _ G _ (Ext.newO gh hz) (RR.new gh hz (keys_pr pk))⟩
    · cases e
  · cases e
end
section
variable {X : Cx} {Γ : Tb} {ew : WX} {e : Expr} {es : List Expr} {eas : EvA} {p pos : Pos}
theorem q_listK (hcalm : X.calm = true) (hg : Gl X "list") (hm : X.mg "list" = none) (ha : PA X (e :: es) (TA' X.K Γ ew eas)) (he : starEach (e :: es) X.env = (false, eval e X.env) :: starEach es X.env := by rfl) (hpl : (backTo pos (starEach es X.env)).any (·.1) = false := by rfl) : PE X (.Call (.Name "list" p) (e :: es) [] pos) (T X.K Γ ew (evCB fListK eas)) := q_cty (call_listD hcalm) s_listK hg hm bt_list ha (by decide) (by decide) he hpl
end
end Ev
set_option maxHeartbeats 2000000
namespace Ev
open PySem PySem.Spec PyProof.Rows L2 Ab LamX PySem.W LamK
theorem walkW {l : PySem.W.OpenLaw} {k : Nat} {q : Program} {loose : List Str} {XP : (Str → Option Value) → Heap → Prop} {YP : World → Heap → Prop} {d : DefRec} (tb : List (Addr × Str)) (hn : l.most = some 63) (hdf : d.params.defaults = []) (hr : Room k callerA)
    (F : ∀ (w : World) (mg : Str → Option Value) (fa : Addr) (h : Heap), YP w h → h.Ns mainGlobals mg → mg d.name = some (.ref fa) →
      ∃ K : PySem.W.Frag, K.In h ∧ ∃ (fd : FuncData) (cs : List (Addr × Addr)), (∀ p ∈ cs, h.get? p.2 = some { cls := .none, data := .fields #[] }) ∧ (∀ p ∈ cs, K.lookup p.2 = none) ∧ (∀ p ∈ cs, codeHdIn K p.1 p.2 = true) ∧ (∀ p ∈ tb, p.1 ∈ cs.map (·.2)) ∧ (∀ (s : Shared) (u : Value), BindsTo s fd ⟨[u], []⟩ [("script", u)]) ∧
        ∀ base : Heap, K.In base → base.Ns mainGlobals mg → (∀ p ∈ cs, TabB base mg p.1 p.2) → FnOk l.prog w K mg base CX0 k fa fd ["script"] (@sp_law { tb := tb, wd := some w } K)) :
    PySem.W.WalkO q loose XP YP l.row.toRowW d [] (fun f vs => PySem.call f vs) :=
  LamX.walk_ofTsE (n := 63) (x := "script") (CX := fun _ => CX0) hn (by decide) hdf hr (fun w mg fa h Y G hm => by
    letI : Ab.Tabl := { tb := tb, wd := some w }
    obtain ⟨K, KX, fd, cs, h1, h2, h3, h4, hb, hf⟩ := F w mg fa h Y G hm
    refine ⟨K, KX, fd, cs, sp_law K, h1, h2, fun p hp => codeHd_of_K KX (h3 p hp), hb, fun H a ns hl _ hT hS => ?_, hf⟩
    classical
    let G : Hp := fun b => if b ∈ cs.map (·.2) then none else H b
    have gh : Same G H := fun b u e => by
      by_cases z : b ∈ cs.map (·.2)
      · rw [show G b = none from if_pos z] at e; cases e
      · rw [show G b = H b from if_neg z] at e; exact e
    refine ⟨ns, G, hl, ⟨gh, fun p hp => ?_⟩, .cons ⟨a, rfl, hS⟩ .nil, fun v G' H' _ hv => hv⟩
    have hp2 := h4 p hp
    obtain ⟨q, hq, eq⟩ := List.mem_map.mp hp2
    exact ⟨TabS.nil (by rw [← eq]; exact hT q hq), if_pos hp2⟩) fun _ _ _ _ _ z => z
end Ev
set_option maxHeartbeats 2000000
namespace Ev
variable [Ab.Tabl]
open PySem PySem.Spec PyProof.Rows L2 Ab
section
variable {K : PySem.W.Frag} {Γ : Tb} {ew : WX} {w : World}
def evSetS (i : Nat) : EvS := fun E => .nx (E.set i (.thg .own (.set [])))
theorem s_setS {X : Cx} {st : Stmt} {i : Nat} (hw : Ab.Tabl.wd = some w) (h : PS X st (tAsg (tCB (rSet0 w) tNil) (gName i))) : PS X st (TS' K Γ ew (evSetS i)) := s_of h fun E Es hE hn => fun B G0 σ G H D k S => by
  refine ⟨rfl, fun p hp => ?_⟩
  have e : (fun _ : Int => false) = inSb [] := by funext j; simp [inSb]
  have k1 := k.ext (Ext.newO (G := G) (p := p) (o := SetO w p (fun _ => false) 0) k.gh hp)
  exact S.nx _ _ G _ (ER.set (s := .thg .own (.set [])) (t := .thg none ((Bw.set []).tr Γ)) hE i rfl) (k1.setM i (s := .thg none ((Bw.set []).tr Γ)) ⟨p, SetO w p (fun _ => false) 0, rfl, k.bh.free hp, k.gh.free hp, upd_same, ⟨w, hw, by rw [← e]; rfl⟩, fun _ z => (nomatch z)⟩ fun j s' hj e' m => k.fresh hp e' m)
def fInSet (neg : Bool) (x y : Sl) : Option R := match x, y with
  | .val (.int n), .thg .own (.set ns) => some (vB (if neg then !inSb ns n else inSb ns n))
  | _, _ => none
theorem s2_inSet (hw : Ab.Tabl.wd = some w) : S2 K Γ (rSIn w) (fInSet false) := fun x y r e v u G H Q gh rx ry q => by
  unfold fInSet at e
  split at e
  · rename_i n ns
    cases e
    obtain ⟨p, o, e1, hh, w', hw', e2⟩ := ry
    rw [hw] at hw'
    cases hw'
    subst e1 e2
    exact ⟨n, p, _, _, rp_int.mp rx, rfl, hh, q _ G H (Ext.refl gh) (rp_bl.mpr rfl)⟩
  · cases e
def addI (ns : List Int) (n : Int) : List Int := if inSb ns n = true then ns else ns ++ [n]
theorem addI_S (ns : List Int) (n : Int) : (fun j => inSb ns j || decide (j = n)) = inSb (addI ns n) := by
  funext j
  unfold addI
  by_cases h : inSb ns n = true
  · rw [if_pos h]
    by_cases e : j = n
    · rw [e, h]; rfl
    · rw [decide_eq_false e, Bool.or_false]
  · rw [if_neg h]
    unfold inSb
    rw [Bool.eq_iff_iff, Bool.or_eq_true, decide_eq_true_iff, decide_eq_true_iff, decide_eq_true_iff, List.mem_append, List.mem_singleton]
theorem addI_n (ns : List Int) (n : Int) : (if inSb ns n = true then ns.length else ns.length + 1) = (addI ns n).length := by
  unfold addI
  split
  · rfl
  · rw [List.length_append]; rfl
def evSAdd (i : Nat) (ea : EvE) : EvS := fun E => match E[i]?, ea E with
  | some (.thg .own (.set ns)), .ok r => match inS r.arg with
    | some n => if ns.length < 1000 then .nx (E.set i (.thg .own (.set (addI ns n)))) else .no
    | none => .no
  | _, _ => .no
theorem s_sadd {X : Cx} {st : Stmt} {i : Nat} {ea : EvE} (hw : Ab.Tabl.wd = some w) (h : PS X st (tDrop (tSAdd w (tVar i) (tCons (T K Γ ew ea) tNil)))) : PS X st (TS' K Γ ew (evSAdd i ea)) := s_of h fun E Es hE hn => by
  unfold evSAdd at hn ⊢
  split at hn
  · rename_i ns r e1 e2
    split at hn
    · rename_i n hr
      by_cases hc : ns.length < 1000
      · rw [if_pos hc]
        intro B G0 σ G H D k S
        obtain ⟨s2, hy, rs⟩ := P_get hE e1
        cases rs
        obtain ⟨o2, e7, p2, u2, e8, b2, g2, h2, ⟨w', hw', eu⟩, f2⟩ := P_get k.sl hy
        subst e8
        rw [hw] at hw'
        cases hw'
        subst eu
        refine ⟨.ref p2, e7, ⟨p2, _, _, rfl, h2⟩, ?_⟩
        refine T.atA hE k (fun r' e v G1 H1 x1 ra => ?_) (fun c e => by rw [e2] at e; cases e) (by rw [e2]; exact fun z => nomatch z)
        rw [e2] at e; cases e
        have k1 := k.ext x1
        have hp1 := x1.h.at _ _ h2 set_pl.1
        have gp1 : G1 p2 = none := x1.n p2 (fx h2 set_nt) g2
        refine ⟨p2, n, _, _, rfl, by rw [ra_in hr ra], hp1, by show ns.length + 1 < 4096; omega, ?_⟩
        rw [addI_S, addI_n]
        have k3 := k1.updM (u := SetO w p2 (inSb (addI ns n)) (addI ns n).length) (s' := .thg none ((Bw.set (addI ns n)).tr Γ)) hy rfl e7 ⟨p2, _, rfl, b2, gp1, upd_same, ⟨w, hw, rfl⟩, f2⟩
        exact S.nx _ _ G1 _ (ER.set (s := .thg .own (.set (addI ns n))) (t := .thg none ((Bw.set (addI ns n)).tr Γ)) hE i rfl) k3
      · rw [if_neg hc] at hn; exact absurd rfl hn
    · exact absurd rfl hn
  · exact absurd rfl hn
end
section
variable {X : Cx} {Γ : Tb} {ew : WX} {a b : Expr} {ea eb : EvE} {pos : Pos}
theorem t_inSet (hw : Ab.Tabl.wd = some X.w) (ha : PE X a (T X.K Γ ew ea)) (hb : PE X b (T X.K Γ ew eb)) (hm : behindInMarks .In b = false := by rfl) : PT X (.Compare a [.In] [b] pos) (TT' X.K Γ ew (evTB (evBin (fInSet false) ea eb))) :=
  pt_imp (pt_cmpR or_sin ha hb hm) fun _ _ _ h => bin_run (P := rSIn X.w) (s2_inSet hw) (tb_run h)
theorem bt_set : bootBuiltins "set" = some (.type "set") := by decide +kernel
end
end Ev
namespace Sh
open PySem PySem.Spec PyProof.Rows L2 Ab Ev
variable [Ab.Tabl]
section
variable {α β : Type} {N : α → En → Prop} {L : β → En → Prop} {E : En} {c : EvS}
theorem j_setS {i : Nat} {g : Oc α β} (h : J N L (c (E.set i (.thg .own (.set [])))) g) : J N L (evSeq (evSetS i) c E) g := h
def sAdd (ns : List Int) (e : Res R) (k : List Int → Oc α β) : Oc α β := match e with
  | .ok r => (match inS r.arg with
    | some n => if ns.length < 1000 then k (addI ns n) else .no
    | none => .no)
  | _ => .no
theorem j_sadd {i : Nat} {ea : EvE} {ns : List Int} {e0 : Res R} {k : List Int → Oc α β} (hx : E[i]? = some (.thg .own (.set ns))) (h0 : ea E = e0) (h : ∀ l, J N L (c (E.set i (.thg .own (.set l)))) (k l)) : J N L (evSeq (evSAdd i ea) c E) (sAdd ns e0 k) := by
  subst h0
  unfold evSeq evSAdd sAdd
  rw [hx]
  cases ea E with
  | ok r =>
    dsimp only
    cases inS r.arg with
    | none => trivial
    | some n =>
      dsimp only
      by_cases hl : ns.length < 1000
      · rw [if_pos hl, if_pos hl]; exact h _
      · rw [if_neg hl, if_neg hl]; trivial
  | _ => trivial
end
end Sh
set_option maxHeartbeats 4000000
namespace K05e
open PySem PySem.Spec PyProof.Rows L2 Ab Ev
local macro_rules | `(tactic| walk_at "blk_nest") => `(tactic| (dsimp only [Cx.blk, Cx.nox, Cx.wish, cxOf, compEnvC]; exact blkOk_by (by first | decide +kernel | rfl)))
variable [Ab.Tabl]
open Sh Sha
def topS (i : Nat) : Stmt := PySem.Challenge.pw_nearby_k05_network_texts.main.body.getD i (.Pass ⟨0, 0, 0, 0⟩)
structure Bl (mg : Str → Option Value) : Prop where
  triv : True
  abs : mg "abs" = none
  all : mg "all" = none
  bool : mg "bool" = none
  enumerate : mg "enumerate" = none
  int : mg "int" = none
  isinstance : mg "isinstance" = none
  len : mg "len" = none
  list : mg "list" = none
  min : mg "min" = none
  range : mg "range" = none
  set : mg "set" = none
  str : mg "str" = none
  tuple : mg "tuple" = none
abbrev FTb : List (Str × Str) := [("Network", "_names"), ("Network", "_neighbors"), ("Network", "_ports")]
structure Tx (K : PySem.W.Frag) (mg : Str → Option Value) (cls : Str → Addr) : Prop where
  tf : ∀ p0, TF K ⟨cls, p0⟩ FTb
  x_InvalidNetwork : Ab.ExcC K mg "InvalidNetwork" (cls "InvalidNetwork")
  cl_Network : Cls K (cls "Network")
  k_MOST_DIGITS : ∃ t, mg "MOST_DIGITS" = some (.int 9 t)
abbrev s__wall : Stmt := topS 0
abbrev n__wall : List Str := ["k"]
theorem sc__wall : FnScope n__wall ["k"] (defScope s__wall) := ⟨rfl, rfl, rfl, by decide +kernel, rfl, by decide +kernel, by decide +kernel⟩
abbrev ev__wall : EvS := Sha.ev__wall
abbrev F__wall : Fn := Sha.F__wall
theorem ok__wall {P : Program} {w : World} [Ev.WdOk w] {K : PySem.W.Frag} {mg : Str → Option Value} {base : Heap} {cls : Str → Addr} (T : Tx K mg cls) (M : Bl mg)   (d : DefAt K mg "_wall" s__wall ["k"]) : CalX P w K mg base 1 "_wall" (spF K cls 1 F__wall) :=
  calF (k := 0) d sc__wall (fun p0 f cdv A outer s H E hr => (s_one (s_while [] (ps_while (passes_of rfl) (t_val q_bl)
   (s_one (s_pass ps_pass))))))
abbrev s__check_names : Stmt := topS 7
abbrev n__check_names : List Str := ["names"]
theorem sc__check_names : FnScope n__check_names ["names"] (defScope s__check_names) := ⟨rfl, rfl, rfl, by decide +kernel, rfl, by decide +kernel, by decide +kernel⟩
abbrev ev__check_names : EvS := Com.ev__check_names
abbrev F__check_names : Fn := Com.F__check_names
theorem ok__check_names {P : Program} {w : World} [Ev.WdOk w] {K : PySem.W.Frag} {mg : Str → Option Value} {base : Heap} {cls : Str → Addr} (T : Tx K mg cls) (M : Bl mg)   (d : DefAt K mg "_check_names" s__check_names ["names"]) : CalX P w K mg base 1 "_check_names" (spF K cls 1 F__check_names) :=
  calF (k := 0) d sc__check_names (fun p0 f cdv A outer s H E hr => (s_cons (s_if (t_not (t_val (q_var (pv 0))))
   (s_one (s_raise (C := cls "InvalidNetwork") (ps_raise rfl (takes_of rfl rfl rfl rfl) (pmk_own PySem.F.excBase_ValueError T.x_InvalidNetwork.x T.x_InvalidNetwork.g T.x_InvalidNetwork.k (raises_own T.x_InvalidNetwork.b T.x_InvalidNetwork.t) (by rfl))) rfl))
   s_nil)
   (s_cons (s_if (t_cmp op_lt s2_lt (q_min rfl (by rfl) M.min (q_cons (q_var (pv 0)) q_nil)) q_int (nomark _))
   (s_one (s_raise (C := cls "InvalidNetwork") (ps_raise rfl (takes_of rfl rfl rfl rfl) (pmk_own PySem.F.excBase_ValueError T.x_InvalidNetwork.x T.x_InvalidNetwork.g T.x_InvalidNetwork.k (raises_own T.x_InvalidNetwork.b T.x_InvalidNetwork.t) (by rfl))) rfl))
   s_nil)
   (s_one (s_if (t_cmp (or_ne hr.units) s2_ne (q_lenSet (by rfl) M.len (by rfl) M.set (q_var (pv 0))) (q_len (by rfl) M.len (q_cons (q_var (pv 0)) q_nil)) (nomark _))
   (s_one (s_raise (C := cls "InvalidNetwork") (ps_raise rfl (takes_of rfl rfl rfl rfl) (pmk_own PySem.F.excBase_ValueError T.x_InvalidNetwork.x T.x_InvalidNetwork.g T.x_InvalidNetwork.k (raises_own T.x_InvalidNetwork.b T.x_InvalidNetwork.t) (by rfl))) rfl))
   s_nil)))))
abbrev s_Network__check_returns : Stmt := inClass (topS 6) 7
abbrev n_Network__check_returns : List Str := ["self", "node", "row", "other"]
theorem sc_Network__check_returns : FnScope n_Network__check_returns ["self"] (defScope s_Network__check_returns) := ⟨rfl, rfl, rfl, by decide +kernel, rfl, by decide +kernel, by decide +kernel⟩
abbrev ev_Network__check_returns : EvS := Com.ev_Network__check_returns
abbrev F_Network__check_returns : Fn := Com.F_Network__check_returns
theorem ok_Network__check_returns {P : Program} {w : World} [Ev.WdOk w] {K : PySem.W.Frag} {mg : Str → Option Value} {base : Heap} {cls : Str → Addr} (T : Tx K mg cls) (M : Bl mg)   (d : MetAt K (cls "Network") "_check_returns" "Network._check_returns" s_Network__check_returns ["self"]) : MetX P w K mg base 1 (cls "Network") "_check_returns" (spF K cls 1 F_Network__check_returns) :=
  metF (k := 0) d sc_Network__check_returns (fun p0 f cdv A outer s H E hr => (s_one (s_for [1, 2, 3] (ps_for (passes_of rfl) rfl (i_enum (by rfl) M.enumerate (q_fld (tf_sub (T.tf p0) (by decide)) (q_var (pv 0)))) (g_tup rfl (gl_cons (gl_cons gl_nil)) (g_cons (g_name (pg_name (i := 1) sc_Network__check_returns.nd rfl (Or.inl rfl))) (g_cons (g_name (pg_name (i := 2) sc_Network__check_returns.nd rfl (Or.inl rfl))) g_nil)))
   (s_one (s_for [3] (ps_for (passes_of rfl) rfl (i_var (pv 2)) (g_name (pg_name (i := 3) sc_Network__check_returns.nd rfl (Or.inl rfl)))
   (s_one (s_if (t_nin hr (q_var (pv 1)) (q_ix hr (q_fld (tf_sub (T.tf p0) (by decide)) (q_var (pv 0))) (q_var (pv 3)) (fun _ _ => rfl)))
   (s_one (s_raise (C := cls "InvalidNetwork") (ps_raise rfl (takes_of rfl rfl rfl rfl) (pmk_own PySem.F.excBase_ValueError T.x_InvalidNetwork.x T.x_InvalidNetwork.g T.x_InvalidNetwork.k (raises_own T.x_InvalidNetwork.b T.x_InvalidNetwork.t) (by rfl))) rfl))
   s_nil)))))))))
abbrev s__check_row : Stmt := topS 8
abbrev n__check_row : List Str := ["node", "row", "size", "other"]
theorem sc__check_row : FnScope n__check_row ["node", "row", "size"] (defScope s__check_row) := ⟨rfl, rfl, rfl, by decide +kernel, rfl, by decide +kernel, by decide +kernel⟩
abbrev ev__check_row : EvS := Com.ev__check_row
abbrev F__check_row : Fn := Com.F__check_row
theorem ok__check_row {P : Program} {w : World} [Ev.WdOk w] {K : PySem.W.Frag} {mg : Str → Option Value} {base : Heap} {cls : Str → Addr} (T : Tx K mg cls) (M : Bl mg)   (d : DefAt K mg "_check_row" s__check_row ["node", "row", "size"]) : CalX P w K mg base 1 "_check_row" (spF K cls 3 F__check_row) :=
  calF (k := 0) d sc__check_row (fun p0 f cdv A outer s H E hr => (s_cons (s_for [3] (ps_for (passes_of rfl) rfl (i_var (pv 1)) (g_name (pg_name (i := 3) sc__check_row.nd rfl (Or.inl rfl)))
   (s_cons (s_if (t_not (t_chain op_le op_lt s2_le s2_lt q_int (q_var (pv 3)) (q_var (pv 2))))
   (s_one (s_raise (C := cls "InvalidNetwork") (ps_raise rfl (takes_of rfl rfl rfl rfl) (pmk_own PySem.F.excBase_ValueError T.x_InvalidNetwork.x T.x_InvalidNetwork.g T.x_InvalidNetwork.k (raises_own T.x_InvalidNetwork.b T.x_InvalidNetwork.t) (by rfl))) rfl))
   s_nil)
   (s_one (s_if (t_cmp (or_eq hr.units) s2_eq (q_var (pv 3)) (q_var (pv 0)) (nomark _))
   (s_one (s_raise (C := cls "InvalidNetwork") (ps_raise rfl (takes_of rfl rfl rfl rfl) (pmk_own PySem.F.excBase_ValueError T.x_InvalidNetwork.x T.x_InvalidNetwork.g T.x_InvalidNetwork.k (raises_own T.x_InvalidNetwork.b T.x_InvalidNetwork.t) (by rfl))) rfl))
   s_nil)))))
   (s_one (s_if (t_cmp (or_ne hr.units) s2_ne (q_lenSet (by rfl) M.len (by rfl) M.set (q_var (pv 1))) (q_len (by rfl) M.len (q_cons (q_var (pv 1)) q_nil)) (nomark _))
   (s_one (s_raise (C := cls "InvalidNetwork") (ps_raise rfl (takes_of rfl rfl rfl rfl) (pmk_own PySem.F.excBase_ValueError T.x_InvalidNetwork.x T.x_InvalidNetwork.g T.x_InvalidNetwork.k (raises_own T.x_InvalidNetwork.b T.x_InvalidNetwork.t) (by rfl))) rfl))
   s_nil))))
abbrev s__ports_by_neighbor : Stmt := topS 9
abbrev n__ports_by_neighbor : List Str := ["row", "port", "other"]
theorem sc__ports_by_neighbor : FnScope n__ports_by_neighbor ["row"] (defScope s__ports_by_neighbor) := ⟨rfl, rfl, rfl, by decide +kernel, rfl, by decide +kernel, by decide +kernel⟩
abbrev ev__ports_by_neighbor : EvS := Com.ev__ports_by_neighbor
abbrev F__ports_by_neighbor : Fn := Com.F__ports_by_neighbor
theorem ok__ports_by_neighbor {P : Program} {w : World} [Ev.WdOk w] {K : PySem.W.Frag} {mg : Str → Option Value} {base : Heap} {cls : Str → Addr} (T : Tx K mg cls) (M : Bl mg)   (d : DefAt K mg "_ports_by_neighbor" s__ports_by_neighbor ["row"]) : CalX P w K mg base 1 "_ports_by_neighbor" (spF K cls 1 F__ports_by_neighbor) :=
  calF (k := 0) d sc__ports_by_neighbor (fun p0 f cdv A outer s H E hr => (s_one (s_ret (q_dc (own := [("port", 1), ("other", 2)]) (ew1 := noW) rfl sc__ports_by_neighbor.nd (i_enumV (by rfl) M.enumerate (pv 0)) (blkOk_by (own := [("port", 1), ("other", 2)]) (N := n__ports_by_neighbor) (sc := defScope s__ports_by_neighbor) (by decide +kernel)) (fun _ _ _ _ _ => (g_tup rfl (gl_cons (gl_cons gl_nil)) (g_cons (g_name (pg_name (i := 1) sc__ports_by_neighbor.nd rfl (by first | exact Or.inl rfl | exact Or.inr rfl))) (g_cons (g_name (pg_name (i := 2) sc__ports_by_neighbor.nd rfl (by first | exact Or.inl rfl | exact Or.inr rfl))) g_nil)))) (fun _ _ _ _ _ => ts_nil) (fun _ _ _ _ _ => (q_var (pv 2))) (fun _ _ _ _ _ => (q_var (pv 1))) (by decide)))))
abbrev s_Network___init__ : Stmt := inClass (topS 6) 0
abbrev n_Network___init__ : List Str := ["self", "names", "neighbors", "node", "row"]
theorem sc_Network___init__ : FnScope n_Network___init__ ["self", "names", "neighbors"] (defScope s_Network___init__) := ⟨rfl, rfl, rfl, by decide +kernel, rfl, by decide +kernel, by decide +kernel⟩
abbrev ev_Network___init__ : EvS := Com.ev_Network___init__
abbrev I_Network : Fi := Com.I_Network
theorem ok_Network___init__ {P : Program} {w : World} [Ev.WdOk w] {K : PySem.W.Frag} {mg : Str → Option Value} {base : Heap} {cls : Str → Addr} (T : Tx K mg cls) (M : Bl mg)  (c__check_names : CalX P w K mg base 1 "_check_names" (spF K cls 1 F__check_names)) (c__check_row : CalX P w K mg base 1 "_check_row" (spF K cls 3 F__check_row)) (c__ports_by_neighbor : CalX P w K mg base 1 "_ports_by_neighbor" (spF K cls 1 F__ports_by_neighbor)) (m_Network__check_returns : MetX P w K mg base 1 (cls "Network") "_check_returns" (spF K cls 1 F_Network__check_returns)) (d : MakAt K mg (cls "Network") "Network" "Network.__init__" s_Network___init__ ["self", "names", "neighbors"]) : MakX P w K mg base 2 "Network" (cls "Network") (spM K cls "Network" 2 I_Network) :=
  makF (k := 1) d sc_Network___init__ (by decide) (fun p0 f cdv A outer s H E hr => (s_cons (s_drop (ps_expr (q_call c__check_names hr (by decide) (by rfl) (passes_call (takes_of rfl rfl rfl rfl) (fun _ _ _ _ h => h)) (q_cons (q_var (pv 1)) q_nil) (al_cons al_nil))))
   (s_cons (s_if (t_cmp (or_ne hr.units) s2_ne (q_len (by rfl) M.len (q_cons (q_var (pv 2)) q_nil)) (q_len (by rfl) M.len (q_cons (q_var (pv 1)) q_nil)) (nomark _))
   (s_one (s_raise (C := cls "InvalidNetwork") (ps_raise rfl (takes_of rfl rfl rfl rfl) (pmk_own PySem.F.excBase_ValueError T.x_InvalidNetwork.x T.x_InvalidNetwork.g T.x_InvalidNetwork.k (raises_own T.x_InvalidNetwork.b T.x_InvalidNetwork.t) (by rfl))) rfl))
   s_nil)
   (s_cons (s_for [3] (ps_for (passes_of rfl) rfl (i_enumV (by rfl) M.enumerate (pv 2)) (g_tup rfl (gl_cons (gl_cons gl_nil)) (g_cons (g_name (pg_name (i := 3) sc_Network___init__.nd rfl (Or.inl rfl))) (g_cons (g_name (pg_name (i := 4) sc_Network___init__.nd rfl (Or.inl rfl))) g_nil)))
   (s_one (s_drop (ps_expr (q_call c__check_row hr (by decide) (by rfl) (passes_call (takes_of rfl rfl rfl rfl) (fun _ _ _ _ h => h)) (q_cons (q_var (pv 3)) (q_cons (q_var (pv 4)) (q_cons (q_len (by rfl) M.len (q_cons (q_var (pv 1)) q_nil)) q_nil))) (al_cons (al_cons (al_cons al_nil)))))))))
   (s_cons (s_fldI (tf_sub (T.tf p0) (by decide)) (ps_fld (pv 0) (q_list (by rfl) M.list (q_cons (q_var (pv 1)) q_nil)) rfl))
   (s_cons (s_fldI (tf_sub (T.tf p0) (by decide)) (ps_fld (pv 0) (q_lc (own := [("row", 4)]) (ew1 := noW) rfl sc_Network___init__.nd (i_var (pv 2)) (blkOk_by (own := [("row", 4)]) (N := n_Network___init__) (sc := defScope s_Network___init__) (by decide +kernel)) (fun _ _ _ _ _ => (g_name (pg_name (i := 4) sc_Network___init__.nd rfl (Or.inl rfl)))) (fun _ _ _ _ _ => ts_nil) (fun _ _ _ _ _ => (q_list (by rfl) M.list (q_cons (q_var (pv 4)) q_nil))) (by decide)) rfl))
   (s_cons (s_fldI (tf_sub (T.tf p0) (by decide)) (ps_fld (pv 0) (q_lc (own := [("row", 4)]) (ew1 := noW) rfl sc_Network___init__.nd (i_var (pv 2)) (blkOk_by (own := [("row", 4)]) (N := n_Network___init__) (sc := defScope s_Network___init__) (by decide +kernel)) (fun _ _ _ _ _ => (g_name (pg_name (i := 4) sc_Network___init__.nd rfl (Or.inl rfl)))) (fun _ _ _ _ _ => ts_nil) (fun _ _ _ _ _ => (q_callN c__ports_by_neighbor hr (by decide) (by rfl) (q_cons (q_var (pv 4)) q_nil) (al_cons al_nil))) (by decide)) rfl))
   (s_cons (s_frz1 (i := 0) (s_drop (ps_expr (q_meth0 (tb_cons m_Network__check_returns (Nat.le_refl _) tb_nil) (by simp) hr (by decide) (passes_call (takes_of rfl rfl rfl rfl) (fun _ _ _ _ h => h)) (q_var (pv 0))))))
   (s_frz (i := 0) s_nil)))))))))
abbrev s_Network_size : Stmt := inClass (topS 6) 1
abbrev n_Network_size : List Str := ["self"]
theorem sc_Network_size : FnScope n_Network_size ["self"] (defScope s_Network_size) := ⟨rfl, rfl, rfl, by decide +kernel, rfl, by decide +kernel, by decide +kernel⟩
abbrev ev_Network_size : EvS := Com.ev_Network_size
abbrev F_Network_size : Fn := Com.F_Network_size
theorem ok_Network_size {P : Program} {w : World} [Ev.WdOk w] {K : PySem.W.Frag} {mg : Str → Option Value} {base : Heap} {cls : Str → Addr} (T : Tx K mg cls) (M : Bl mg)   (d : MetAt K (cls "Network") "size" "Network.size" s_Network_size ["self"]) : MetX P w K mg base 1 (cls "Network") "size" (spF K cls 1 F_Network_size) :=
  metF (k := 0) d sc_Network_size (fun p0 f cdv A outer s H E hr => (s_one (s_ret (q_len (by rfl) M.len (q_cons (q_fld (tf_sub (T.tf p0) (by decide)) (q_var (pv 0))) q_nil)))))
abbrev s_Network_names : Stmt := inClass (topS 6) 2
abbrev n_Network_names : List Str := ["self"]
theorem sc_Network_names : FnScope n_Network_names ["self"] (defScope s_Network_names) := ⟨rfl, rfl, rfl, by decide +kernel, rfl, by decide +kernel, by decide +kernel⟩
abbrev ev_Network_names : EvS := Com.ev_Network_names
abbrev F_Network_names : Fn := Com.F_Network_names
theorem ok_Network_names {P : Program} {w : World} [Ev.WdOk w] {K : PySem.W.Frag} {mg : Str → Option Value} {base : Heap} {cls : Str → Addr} (T : Tx K mg cls) (M : Bl mg)   (d : MetAt K (cls "Network") "names" "Network.names" s_Network_names ["self"]) : MetX P w K mg base 1 (cls "Network") "names" (spF K cls 1 F_Network_names) :=
  metF (k := 0) d sc_Network_names (fun p0 f cdv A outer s H E hr => (s_one (s_ret (q_list (by rfl) M.list (q_cons (q_fld (tf_sub (T.tf p0) (by decide)) (q_var (pv 0))) q_nil)))))
abbrev s_Network_neighbors : Stmt := inClass (topS 6) 3
abbrev n_Network_neighbors : List Str := ["self", "node"]
theorem sc_Network_neighbors : FnScope n_Network_neighbors ["self", "node"] (defScope s_Network_neighbors) := ⟨rfl, rfl, rfl, by decide +kernel, rfl, by decide +kernel, by decide +kernel⟩
abbrev ev_Network_neighbors : EvS := Com.ev_Network_neighbors
abbrev F_Network_neighbors : Fn := Com.F_Network_neighbors
theorem ok_Network_neighbors {P : Program} {w : World} [Ev.WdOk w] {K : PySem.W.Frag} {mg : Str → Option Value} {base : Heap} {cls : Str → Addr} (T : Tx K mg cls) (M : Bl mg)   (d : MetAt K (cls "Network") "neighbors" "Network.neighbors" s_Network_neighbors ["self", "node"]) : MetX P w K mg base 1 (cls "Network") "neighbors" (spF K cls 2 F_Network_neighbors) :=
  metF (k := 0) d sc_Network_neighbors (fun p0 f cdv A outer s H E hr => (s_one (s_ret (q_list (by rfl) M.list (q_cons (q_ix hr (q_fld (tf_sub (T.tf p0) (by decide)) (q_var (pv 0))) (q_var (pv 1)) (fun _ _ => rfl)) q_nil)))))
abbrev s_Network_degree : Stmt := inClass (topS 6) 4
abbrev n_Network_degree : List Str := ["self", "node"]
theorem sc_Network_degree : FnScope n_Network_degree ["self", "node"] (defScope s_Network_degree) := ⟨rfl, rfl, rfl, by decide +kernel, rfl, by decide +kernel, by decide +kernel⟩
abbrev ev_Network_degree : EvS := Com.ev_Network_degree
abbrev F_Network_degree : Fn := Com.F_Network_degree
theorem ok_Network_degree {P : Program} {w : World} [Ev.WdOk w] {K : PySem.W.Frag} {mg : Str → Option Value} {base : Heap} {cls : Str → Addr} (T : Tx K mg cls) (M : Bl mg)   (d : MetAt K (cls "Network") "degree" "Network.degree" s_Network_degree ["self", "node"]) : MetX P w K mg base 1 (cls "Network") "degree" (spF K cls 2 F_Network_degree) :=
  metF (k := 0) d sc_Network_degree (fun p0 f cdv A outer s H E hr => (s_one (s_ret (q_len (by rfl) M.len (q_cons (q_ix hr (q_fld (tf_sub (T.tf p0) (by decide)) (q_var (pv 0))) (q_var (pv 1)) (fun _ _ => rfl)) q_nil)))))
abbrev s_Network_far_port : Stmt := inClass (topS 6) 5
abbrev n_Network_far_port : List Str := ["self", "node", "port"]
theorem sc_Network_far_port : FnScope n_Network_far_port ["self", "node", "port"] (defScope s_Network_far_port) := ⟨rfl, rfl, rfl, by decide +kernel, rfl, by decide +kernel, by decide +kernel⟩
def ev_Network_far_port : EvS := evDrop (evCallN F__wall (evCons (evC (.int 0)) (evNil)))
def F_Network_far_port : Fn := runF 0 (ev_Network_far_port)
theorem ok_Network_far_port {P : Program} {w : World} [Ev.WdOk w] {K : PySem.W.Frag} {mg : Str → Option Value} {base : Heap} {cls : Str → Addr} (T : Tx K mg cls) (M : Bl mg)  (c__wall : CalX P w K mg base 1 "_wall" (spF K cls 1 F__wall)) (d : MetAt K (cls "Network") "far_port" "Network.far_port" s_Network_far_port ["self", "node", "port"]) : MetX P w K mg base 2 (cls "Network") "far_port" (spF K cls 3 F_Network_far_port) :=
  metF (k := 1) d sc_Network_far_port (fun p0 f cdv A outer s H E hr => (s_one (s_drop (ps_expr (q_callN c__wall hr (by decide) (by rfl) (q_cons q_int q_nil) (al_cons al_nil))))))
abbrev s_Network_links : Stmt := inClass (topS 6) 6
abbrev n_Network_links : List Str := ["self"]
theorem sc_Network_links : FnScope n_Network_links ["self"] (defScope s_Network_links) := ⟨rfl, rfl, rfl, by decide +kernel, rfl, by decide +kernel, by decide +kernel⟩
def ev_Network_links : EvS := evDrop (evCallN F__wall (evCons (evC (.int 1)) (evNil)))
def F_Network_links : Fn := runF 0 (ev_Network_links)
theorem ok_Network_links {P : Program} {w : World} [Ev.WdOk w] {K : PySem.W.Frag} {mg : Str → Option Value} {base : Heap} {cls : Str → Addr} (T : Tx K mg cls) (M : Bl mg)  (c__wall : CalX P w K mg base 1 "_wall" (spF K cls 1 F__wall)) (d : MetAt K (cls "Network") "links" "Network.links" s_Network_links ["self"]) : MetX P w K mg base 2 (cls "Network") "links" (spF K cls 1 F_Network_links) :=
  metF (k := 1) d sc_Network_links (fun p0 f cdv A outer s H E hr => (s_one (s_drop (ps_expr (q_callN c__wall hr (by decide) (by rfl) (q_cons q_int q_nil) (al_cons al_nil))))))
abbrev s_network_text : Stmt := topS 12
abbrev n_network_text : List Str := ["network", "names", "lines", "node", "told", "other", "name"]
theorem sc_network_text : FnScope n_network_text ["network"] (defScope s_network_text) := ⟨rfl, rfl, rfl, by decide +kernel, rfl, by decide +kernel, by decide +kernel⟩
def ev_network_text : EvS := evSeq (evSet 1 (evMethN "names" [("Network", F_Network_names)] (evVar 0) evNil))
    (evFrz 1 (evSeq (evSet 2 (evCB fLst (evNil)))
    (evSeq (evFor (evRng1 (evMethN "size" [("Network", F_Network_size)] (evVar 0) evNil)) (gvName 3) (evSeq (evSet 4 (evBin fAdd (evCB fLst (evCons (evBin fSub (evVar 1) (evVar 3)) (evNil))) (evLc (evIt (evMethN "neighbors" [("Network", F_Network_neighbors)] (evVar 0) (evCons (evVar 3) (evNil)))) (gvName 5) (evYes) (evBin fSub (evVar 1) (evVar 5)) [5])))
    (evFrz 4 (evApp 2 (evBin fAdd (evBM isStr fJoin (evC (.str " ")) (evBin fAdd (evCB fLst (evCons (evC (.str "node")) (evNil))) (evLc (evItV 4) (gvName 6) (evYes) (evCB fStr (evCons (evVar 6) (evNil))) [6]))) (evC (.str "
")))))) [3, 4])
    (evFrz 2 (evRet (evBM isStr fJoin (evC (.str "")) (evVar 2)))))))
def F_network_text : Fn := runF 6 (ev_network_text)
def G_network_text_1 (names_ : D) (other_ : D) : Option (List D) :=
  lcS tYes (hBin fSub (hv names_) (hv other_))
def G_network_text_2 (name_ : D) : Option (List D) :=
  lcS tYes (hCB fStr (hCons (hv name_) hNil))
def G_network_text_3 (lines_ : List D) (s3_ : List D) (told_ : D) : Oc (List D) (List D) :=
  appO s3_ (hBin fAdd (hBM isStr fJoin (hv (.str " ")) (hBin fAdd (hCB fLst (hCons (hv (.str "node")) hNil)) (hLc (iIt (hv told_)) (G_network_text_2)))) (hv (.str "
"))) (fun lines_ => .nx lines_)
def G_network_text_4 (network_ : D) (names_ : D) (lines_ : List D) (node_ : D) (s3_ : List D) : Oc (List D) (List D) :=
  bnd (hBin fAdd (hCB fLst (hCons (hBin fSub (hv names_) (hv node_)) hNil)) (hLc (iIt (hMethN "neighbors" [("Network", F_Network_neighbors)] (hv network_) (hCons (hv node_) hNil))) (G_network_text_1 names_))) (G_network_text_3 lines_ s3_)
def G_network_text_5 (s4_ : List D) : Oc Unit Empty :=
  ret (hBM isStr fJoin (hv (.str "")) (hv (.lst s4_)))
def G_network_text_6 (network_ : D) (names_ : D) (lines_ : List D) : Oc Unit Empty :=
  bndI (iRng1 (hMethN "size" [("Network", F_Network_size)] (hv network_) hNil)) fun l_ => (forG (G_network_text_4 network_ names_ lines_) l_ lines_).bind (G_network_text_5)
def G_network_text_7 (network_ : D) (names_ : D) : Oc Unit Empty :=
  bndO (hCB fLst hNil) (G_network_text_6 network_ names_)
def G_network_text (network_ : D) : Res R := run (
  bnd (hMethN "names" [("Network", F_Network_names)] (hv network_) hNil) (G_network_text_7 network_))
theorem le_network_text (network_ : D) : Le (G_network_text network_) (apF (F_network_text) [.val network_]) := le_of (j_end (j_assoc (j_setV rfl fun names_ => (j_assoc (j_setO rfl fun lines_ => (j_assoc (j_for (fun (s3_ : List D) => [.val network_, .val names_, .own s3_, .un, .un, .un, .un]) lines_ rfl rfl (fun node_ s3_ => pj_name (j_end (j_assoc (j_setV (x_bin rfl (x_lc rfl (fun other_ => pj_name rfl))) fun told_ => (j_app rfl (x_bin (x_bm rfl (x_bin rfl (x_lc rfl (fun name_ => pj_name rfl)))) rfl) fun lines_ => (j_nx rfl)))))) fun s4_ => (j_frz (j_ret rfl))))))))) rfl
theorem ok_network_text {P : Program} {w : World} [Ev.WdOk w] {K : PySem.W.Frag} {mg : Str → Option Value} {base : Heap} {cls : Str → Addr} (T : Tx K mg cls) (M : Bl mg)  (m_Network_size : MetX P w K mg base 1 (cls "Network") "size" (spF K cls 1 F_Network_size)) (m_Network_neighbors : MetX P w K mg base 1 (cls "Network") "neighbors" (spF K cls 2 F_Network_neighbors)) (m_Network_names : MetX P w K mg base 1 (cls "Network") "names" (spF K cls 1 F_Network_names)) (d : DefAt K mg "network_text" s_network_text ["network"]) : CalX P w K mg base 2 "network_text" (spF K cls 1 F_network_text) :=
  calF (k := 1) d sc_network_text (fun p0 f cdv A outer s H E hr => (s_cons (s_set (ps_set (i := 1) sc_network_text.nd rfl (Or.inr rfl) (q_methN0 (tb_cons m_Network_names (Nat.le_refl _) tb_nil) (by simp) hr (by decide) (q_var (pv 0)))))
   (s_frz (i := 1) (s_cons (s_set (ps_set (i := 2) sc_network_text.nd rfl (Or.inl rfl) (q_lst q_nil)))
   (s_cons (s_for [3, 4] (ps_for (passes_of rfl) rfl (i_rng1 (by rfl) M.range (q_methN0 (tb_cons m_Network_size (Nat.le_refl _) tb_nil) (by simp) hr (by decide) (q_var (pv 0)))) (g_name (pg_name (i := 3) sc_network_text.nd rfl (Or.inl rfl)))
   (s_cons (s_set (ps_set (i := 4) sc_network_text.nd rfl (Or.inl rfl) (q_add (q_lst (q_cons (q_ix hr (q_var (pv 1)) (q_var (pv 3)) (fun _ _ => rfl)) q_nil)) (q_lc (own := [("other", 5)]) (ew1 := noW) rfl sc_network_text.nd (i_seq (q_methN (tb_cons m_Network_neighbors (Nat.le_refl _) tb_nil) (by simp) hr (by decide) (q_var (pv 0)) (q_cons (q_var (pv 3)) q_nil) (fun E as h => congrArg (· + 1) ((al_cons al_nil) E as h)))) (blkOk_by (own := [("other", 5)]) (N := n_network_text) (sc := defScope s_network_text) (by decide +kernel)) (fun _ _ _ _ _ => (g_name (pg_name (i := 5) sc_network_text.nd rfl (by first | exact Or.inl rfl | exact Or.inr rfl)))) (fun _ _ _ _ _ => ts_nil) (fun _ _ _ _ _ => (q_ix hr (q_var (pv 1)) (q_var (pv 5)) (fun _ _ => rfl))) (by decide)))))
   (s_frz (i := 4) (s_one (s_app (ps_expr (pe_bm PySem.F.plainAttrs_list PySem.F.slot_list_append PySem.F.type_list_append mt_append (pv 2) (pa_cons (q_add (q_join (pe_bm PySem.F.plainAttrs_str PySem.F.slot_str_join PySem.F.type_str_join mt_joinS q_str (pa_cons (q_add (q_lst (q_cons q_str q_nil)) (q_lc (own := [("name", 6)]) (ew1 := noW) rfl sc_network_text.nd (i_var (pv 4)) (blkOk_by (own := [("name", 6)]) (N := n_network_text) (sc := defScope s_network_text) (by decide +kernel)) (fun _ _ _ _ _ => (g_name (pg_name (i := 6) sc_network_text.nd rfl (by first | exact Or.inl rfl | exact Or.inr rfl)))) (fun _ _ _ _ _ => ts_nil) (fun _ _ _ _ _ => (q_str1 (by rfl) M.str (q_cons (q_var (pv 6)) q_nil))) (by decide))) pa_nil))) q_str) pa_nil)))))))))
   (s_frz (i := 2) (s_one (s_ret (q_join (pe_bm PySem.F.plainAttrs_str PySem.F.slot_str_join PySem.F.type_str_join mt_joinS q_str (pa_cons (q_var (pv 2)) pa_nil)))))))))))
abbrev s__lines_of : Stmt := topS 14
abbrev n__lines_of : List Str := ["text", "lines"]
theorem sc__lines_of : FnScope n__lines_of ["text"] (defScope s__lines_of) := ⟨rfl, rfl, rfl, by decide +kernel, rfl, by decide +kernel, by decide +kernel⟩
def ev__lines_of : EvS := evSeq (evSet 1 (evBM isStr fSplit (evVar 0) (evC (.str "
"))))
    (evSeq (evIfS (evTB (evBin fEq (evBin fSub (evVar 1) (evUn fNeg (evC (.int 1)))) (evC (.str "")))) (evPop 1) (evNext))
    (evRetV 1))
def F__lines_of : Fn := runF 1 (ev__lines_of)
def G__lines_of_1 (lines_ : List D) (_ : Unit) : Oc Unit Empty :=
  popO lines_ (fun lines_ => .rt (.fr lines_))
def G__lines_of_2 (lines_ : List D) : Oc Unit Empty :=
  iteC (tTB (hBin fEq (hBin fSub (hr lines_) (hUn fNeg (hv (.int 1)))) (hv (.str "")))) (G__lines_of_1 lines_) (fun _ => .rt (.fr lines_))
def G__lines_of (text_ : D) : Res R := run (
  bndO (hBM isStr fSplit (hv text_) (hv (.str "
"))) (G__lines_of_2))
theorem le__lines_of (text_ : D) : Le (G__lines_of text_) (apF (F__lines_of) [.val text_]) := le_of (j_end (j_assoc (j_setO rfl fun lines_ => (j_assoc (j_if rfl (j_pop rfl fun lines_ => (j_retVO rfl)) (j_skip (j_retVO rfl))))))) rfl
theorem ok__lines_of {P : Program} {w : World} [Ev.WdOk w] {K : PySem.W.Frag} {mg : Str → Option Value} {base : Heap} {cls : Str → Addr} (T : Tx K mg cls) (M : Bl mg)   (d : DefAt K mg "_lines_of" s__lines_of ["text"]) : CalX P w K mg base 1 "_lines_of" (spF K cls 1 F__lines_of) :=
  calF (k := 0) d sc__lines_of (fun p0 f cdv A outer s H E hr => (s_cons (s_set (ps_set (i := 1) sc__lines_of.nd rfl (Or.inl rfl) (q_split (pe_bm PySem.F.plainAttrs_str PySem.F.slot_str_split PySem.F.type_str_split mt_splitS (q_var (pv 0)) (pa_cons q_str pa_nil)))))
   (s_cons (s_if (t_cmp (or_eq hr.units) s2_eq (q_ix hr (q_var (pv 1)) (q_neg q_int) (fun _ _ => rfl)) q_str (nomark _))
   (s_one (s_pop (ps_expr (pe_bm0 PySem.F.plainAttrs_list PySem.F.slot_list_pop PySem.F.type_list_pop mt_pop (pv 1)))))
   s_nil)
   (s_one (s_retV (pv 1))))))
abbrev s_is_number : Stmt := topS 17
abbrev n_is_number : List Str := ["word"]
theorem sc_is_number : FnScope n_is_number ["word"] (defScope s_is_number) := ⟨rfl, rfl, rfl, by decide +kernel, rfl, by decide +kernel, by decide +kernel⟩
def ev_is_number : EvS := evSeq (evIfS (evTNot (evTAnd (evTru (evBM0 isStr fIsascii (evVar 0))) (evTru (evBM0 isStr fIsdigit (evVar 0))))) (evRet (evC (.bl false))) (evNext))
    (evRet (evAnd (evBin oLe (evCB fLen (evCons (evVar 0) (evNil))) (evC (.int 9))) (evOr (evBin fEq (evVar 0) (evC (.str "0"))) (evNot (evBM isStr fStartsw (evVar 0) (evC (.str "0")))))))
def F_is_number : Fn := runF 0 (ev_is_number)
def G_is_number_1 (word_ : D) (_ : Unit) : Oc Unit Empty :=
  ret (hAnd (hBin oLe (hCB fLen (hCons (hv word_) hNil)) (hv (.int 9))) (hOr (hBin fEq (hv word_) (hv (.str "0"))) (hNot (hBM isStr fStartsw (hv word_) (hv (.str "0"))))))
def G_is_number (word_ : D) : Res R := run (
  iteC (tNot (tAnd (tTru (hBM0 isStr fIsascii (hv word_))) (tTru (hBM0 isStr fIsdigit (hv word_))))) (fun _ => ret (hv (.bl false))) (G_is_number_1 word_))
theorem le_is_number (word_ : D) : Le (G_is_number word_) (apF (F_is_number) [.val word_]) := le_of (j_end (j_assoc (j_if rfl (j_ret rfl) (j_skip (j_ret rfl))))) rfl
theorem ok_is_number {P : Program} {w : World} [Ev.WdOk w] {K : PySem.W.Frag} {mg : Str → Option Value} {base : Heap} {cls : Str → Addr} (T : Tx K mg cls) (M : Bl mg)   (d : DefAt K mg "is_number" s_is_number ["word"]) : CalX P w K mg base 1 "is_number" (spF K cls 1 F_is_number) :=
  calF (k := 0) d sc_is_number (fun p0 f cdv A outer s H E hr => (s_cons (s_if (t_not (PW.pt (w_and (t_val (q_isascii (pe_bm0 PySem.F.plainAttrs_str PySem.F.slot_str_isascii PySem.F.type_str_isascii mt_isasciiS (q_var (pv 0))))) (pw_and1 (t_val (q_isdigit (pe_bm0 PySem.F.plainAttrs_str PySem.F.slot_str_isdigit PySem.F.type_str_isdigit mt_isdigitS (q_var (pv 0)))))))))
   (s_one (s_ret q_bl))
   s_nil)
   (s_one (s_ret (q_and (q_cmp op_le s2_le (q_len (by rfl) M.len (q_cons (q_var (pv 0)) q_nil)) (q_c (pe_glob (v := .int 9) (by rfl) T.k_MOST_DIGITS.choose_spec ⟨_, rfl⟩) fun G => rp_int.mpr rfl) (nomark _)) (pe_one (q_or (q_cmp (or_eq hr.units) s2_eq (q_var (pv 0)) q_str (nomark _)) (pe_one (q_not (q_starts (pe_bm PySem.F.plainAttrs_str PySem.F.slot_str_startswith PySem.F.type_str_startswith mt_startS (q_var (pv 0)) (pa_cons q_str pa_nil))))))))))))
abbrev s__names_in : Stmt := topS 16
abbrev n__names_in : List Str := ["line", "words", "word"]
theorem sc__names_in : FnScope n__names_in ["line"] (defScope s__names_in) := ⟨rfl, rfl, rfl, by decide +kernel, rfl, by decide +kernel, by decide +kernel⟩
def ev__names_in : EvS := evSeq (evSet 1 (evBM isStr fSplit (evVar 0) (evC (.str " "))))
    (evFrz 1 (evSeq (evIfS (evTOr (evTB (evBin fNe (evBin fSub (evVar 1) (evC (.int 0))) (evC (.str "node")))) (evTB (evBin oLt (evCB fLen (evCons (evVar 1) (evNil))) (evC (.int 2))))) (evRet (evC .non)) (evNext))
    (evSeq (evIfS (evTNot (evTru (evCB fAll (evCons (evLc (evIt (evSl (evVar 1) (evO (evC (.int 1))) (evONo))) (gvName 2) (evYes) (evCallN F_is_number (evCons (evVar 2) (evNil))) [2]) (evNil))))) (evRet (evC .non)) (evNext))
    (evRet (evLc (evIt (evSl (evVar 1) (evO (evC (.int 1))) (evONo))) (gvName 2) (evYes) (evCB fIntX (evCons (evVar 2) (evNil))) [2])))))
def F__names_in : Fn := runF 2 (ev__names_in)
def G__names_in_1 (word_ : D) : Option (List D) :=
  lcS tYes (hCallN F_is_number (hCons (hv word_) hNil))
def G__names_in_2 (word_ : D) : Option (List D) :=
  lcS tYes (hCB fIntX (hCons (hv word_) hNil))
def G__names_in_3 (words_ : D) (_ : Unit) : Oc Unit Empty :=
  ret (hLc (iIt (hSl (hv words_) (hO (hv (.int 1))) hONo)) (G__names_in_2))
def G__names_in_4 (words_ : D) (_ : Unit) : Oc Unit Empty :=
  iteC (tNot (tTru (hCB fAll (hCons (hLc (iIt (hSl (hv words_) (hO (hv (.int 1))) hONo)) (G__names_in_1)) hNil)))) (fun _ => ret (hv .non)) (G__names_in_3 words_)
def G__names_in_5 (words_ : D) : Oc Unit Empty :=
  iteC (tOr (tTB (hBin fNe (hBin fSub (hv words_) (hv (.int 0))) (hv (.str "node")))) (tTB (hBin oLt (hCB fLen (hCons (hv words_) hNil)) (hv (.int 2))))) (fun _ => ret (hv .non)) (G__names_in_4 words_)
def G__names_in (line_ : D) : Res R := run (
  bnd (hBM isStr fSplit (hv line_) (hv (.str " "))) (G__names_in_5))
theorem le__names_in (line_ : D) : Le (G__names_in line_) (apF (F__names_in) [.val line_]) := le_of (j_end (j_assoc (j_setV rfl fun words_ => (j_assoc (j_if rfl (j_ret rfl) (j_skip (j_assoc (j_if (x_tnot (x_tru (x_cb (x_cons (x_lc rfl (fun word_ => pj_name rfl)) rfl)))) (j_ret rfl) (j_skip (j_ret (x_lc rfl (fun word_ => pj_name rfl)))))))))))) rfl
theorem ok__names_in {P : Program} {w : World} [Ev.WdOk w] {K : PySem.W.Frag} {mg : Str → Option Value} {base : Heap} {cls : Str → Addr} (T : Tx K mg cls) (M : Bl mg)  (c_is_number : CalX P w K mg base 1 "is_number" (spF K cls 1 F_is_number)) (d : DefAt K mg "_names_in" s__names_in ["line"]) : CalX P w K mg base 2 "_names_in" (spF K cls 1 F__names_in) :=
  calF (k := 1) d sc__names_in (fun p0 f cdv A outer s H E hr => (s_cons (s_set (ps_set (i := 1) sc__names_in.nd rfl (Or.inl rfl) (q_split (pe_bm PySem.F.plainAttrs_str PySem.F.slot_str_split PySem.F.type_str_split mt_splitS (q_var (pv 0)) (pa_cons q_str pa_nil)))))
   (s_frz (i := 1) (s_cons (s_if (PW.pt (w_or (t_cmp (or_ne hr.units) s2_ne (q_ix hr (q_var (pv 1)) q_int (fun _ _ => rfl)) q_str (nomark _)) (pw_or1 (t_cmp op_lt s2_lt (q_len (by rfl) M.len (q_cons (q_var (pv 1)) q_nil)) q_int (nomark _)))))
   (s_one (s_ret q_non))
   s_nil)
   (s_cons (s_if (t_not (t_val (q_all rfl (by rfl) M.all (q_cons (q_lc (own := [("word", 2)]) (ew1 := noW) rfl sc__names_in.nd (i_seq (q_sl (q_var (pv 1)) (q_o q_int) q_ono)) (blkOk_by (own := [("word", 2)]) (N := n__names_in) (sc := defScope s__names_in) (by decide +kernel)) (fun _ _ _ _ _ => (g_name (pg_name (i := 2) sc__names_in.nd rfl (by first | exact Or.inl rfl | exact Or.inr rfl)))) (fun _ _ _ _ _ => ts_nil) (fun _ _ _ _ _ => (q_callN c_is_number hr (by decide) (by rfl) (q_cons (q_var (pv 2)) q_nil) (al_cons al_nil))) (by decide)) q_nil))))
   (s_one (s_ret q_non))
   s_nil)
   (s_one (s_ret (q_lc (own := [("word", 2)]) (ew1 := noW) rfl sc__names_in.nd (i_seq (q_sl (q_var (pv 1)) (q_o q_int) q_ono)) (blkOk_by (own := [("word", 2)]) (N := n__names_in) (sc := defScope s__names_in) (by decide +kernel)) (fun _ _ _ _ _ => (g_name (pg_name (i := 2) sc__names_in.nd rfl (by first | exact Or.inl rfl | exact Or.inr rfl)))) (fun _ _ _ _ _ => ts_nil) (fun _ _ _ _ _ => (q_intX (by rfl) M.int (q_cons (q_var (pv 2)) q_nil))) (by decide)))))))))
abbrev s__read_rows : Stmt := topS 15
abbrev n__read_rows : List Str := ["lines", "rows", "seen", "number", "line", "told"]
theorem sc__read_rows : FnScope n__read_rows ["lines"] (defScope s__read_rows) := ⟨rfl, rfl, rfl, by decide +kernel, rfl, by decide +kernel, by decide +kernel⟩
def ev__read_rows : EvS := evSeq (evSet 1 (evCB fLst (evNil)))
    (evSeq (evSetS 2)
    (evSeq (evFor (evEnK (evVar 0) (evC (.int 1))) (gvTup (gvCons (gvName 3) (gvCons (gvName 4) (gvNil)))) (evSeq (evIfS (evTOr (evTB (evBin fEq (evVar 4) (evC (.str "")))) (evTru (evBM isStr fStartsw (evVar 4) (evC (.str "#"))))) (evCont) (evNext))
    (evSeq (evSet 5 (evCallN F__names_in (evCons (evVar 4) (evNil))))
    (evFrz 5 (evSeq (evIfS (evTOr (evTB (evUn (fIsN false) (evVar 5))) (evTOr (evTB (evBin (fInSet false) (evBin fSub (evVar 5) (evC (.int 0))) (evVar 2))) (evTB (evBin fNe (evUn fLenSet (evVar 5)) (evCB fLen (evCons (evVar 5) (evNil))))))) (evNever) (evNext))
    (evSeq (evSAdd 2 (evBin fSub (evVar 5) (evC (.int 0))))
    (evApp 1 (evCB fTup (evCons (evVar 3) (evCons (evVar 5) (evNil)))))))))) [3, 4, 5])
    (evFrz 2 (evRetV 1))))
def F__read_rows : Fn := runF 5 (ev__read_rows)
def G__read_rows_1 (rows_ : List D) (s3_ : (List D) × (List Int)) (number_ : D) (told_ : D) (seen_ : List Int) : Oc ((List D) × (List Int)) ((List D) × (List Int)) :=
  appO s3_.1 (hCB fTup (hCons (hv number_) (hCons (hv told_) hNil))) (fun rows_ => .nx (rows_, seen_))
def G__read_rows_2 (rows_ : List D) (s3_ : (List D) × (List Int)) (number_ : D) (told_ : D) (_ : Unit) : Oc ((List D) × (List Int)) ((List D) × (List Int)) :=
  sAdd s3_.2 (hBin fSub (hv told_) (hv (.int 0))) (G__read_rows_1 rows_ s3_ number_ told_)
def G__read_rows_3 (rows_ : List D) (s3_ : (List D) × (List Int)) (number_ : D) (told_ : D) : Oc ((List D) × (List Int)) ((List D) × (List Int)) :=
  iteC (tOr (tTB (hUn (fIsN false) (hv told_))) (tOr (tTB (hBin (fInSet false) (hBin fSub (hv told_) (hv (.int 0))) (hw (.thg .own (.set s3_.2))))) (tTB (hBin fNe (hUn fLenSet (hv told_)) (hCB fLen (hCons (hv told_) hNil)))))) (fun _ => .no) (G__read_rows_2 rows_ s3_ number_ told_)
def G__read_rows_4 (rows_ : List D) (s3_ : (List D) × (List Int)) (number_ : D) (line_ : D) (_ : Unit) : Oc ((List D) × (List Int)) ((List D) × (List Int)) :=
  bnd (hCallN F__names_in (hCons (hv line_) hNil)) (G__read_rows_3 rows_ s3_ number_)
def G__read_rows_5 (rows_ : List D) (s3_ : (List D) × (List Int)) (number_ : D) (line_ : D) : Oc ((List D) × (List Int)) ((List D) × (List Int)) :=
  iteC (tOr (tTB (hBin fEq (hv line_) (hv (.str "")))) (tTru (hBM isStr fStartsw (hv line_) (hv (.str "#"))))) (fun _ => .ct (s3_.1, s3_.2)) (G__read_rows_4 rows_ s3_ number_ line_)
def G__read_rows_6 (rows_ : List D) (d_ : D) (s3_ : (List D) × (List Int)) : Oc ((List D) × (List Int)) ((List D) × (List Int)) :=
  q2 .no d_ (G__read_rows_5 rows_ s3_)
def G__read_rows_7 (lines_ : D) (rows_ : List D) : Oc Unit Empty :=
  bndI (iEnK (hv lines_) (hv (.int 1))) fun l_ => (forG (G__read_rows_6 rows_) l_ (rows_, ([] : List Int))).bind (fun s4_ => .rt (.fr s4_.1))
def G__read_rows (lines_ : D) : Res R := run (
  bndO (hCB fLst hNil) (G__read_rows_7 lines_))
theorem le__read_rows (lines_ : D) : Le (G__read_rows lines_) (apF (F__read_rows) [.val lines_]) := le_of (j_end (j_assoc (j_setO rfl fun rows_ => (j_assoc (j_setS (j_assoc (j_for (fun (s3_ : (List D) × (List Int)) => [.val lines_, .own s3_.1, .thg .own (.set s3_.2), .un, .un, .un]) (rows_, ([] : List Int)) rfl rfl (fun d_ s3_ => (pj_2 fun number_ line_ => (pj_name (pj_name (j_end (j_assoc (j_if rfl (j_cont rfl) (j_skip (j_assoc (j_setV rfl fun told_ => (j_assoc (j_if rfl j_never (j_skip (j_assoc (j_sadd rfl rfl fun seen_ => (j_app rfl rfl fun rows_ => (j_nx rfl))))))))))))))))) fun s4_ => (j_frz (j_retVO rfl))))))))) rfl
theorem ok__read_rows {P : Program} {w : World} [Ev.WdOk w] {K : PySem.W.Frag} {mg : Str → Option Value} {base : Heap} {cls : Str → Addr} (T : Tx K mg cls) (M : Bl mg)  (c__names_in : CalX P w K mg base 2 "_names_in" (spF K cls 1 F__names_in)) (d : DefAt K mg "_read_rows" s__read_rows ["lines"]) : CalX P w K mg base 3 "_read_rows" (spF K cls 1 F__read_rows) :=
  calF (k := 2) d sc__read_rows (fun p0 f cdv A outer s H E hr => (s_cons (s_set (ps_set (i := 1) sc__read_rows.nd rfl (Or.inl rfl) (q_lst q_nil)))
   (s_cons (s_setS (wd_ok (w := w)) (ps_set (i := 2) sc__read_rows.nd rfl (Or.inl rfl) (pe_callTy0 cr_set0 (by rfl) M.set bt_set)))
   (s_cons (s_for [3, 4, 5] (ps_for (passes_of rfl) rfl (i_enumK (by rfl) M.enumerate (q_var (pv 0)) q_int) (g_tup rfl (gl_cons (gl_cons gl_nil)) (g_cons (g_name (pg_name (i := 3) sc__read_rows.nd rfl (Or.inl rfl))) (g_cons (g_name (pg_name (i := 4) sc__read_rows.nd rfl (Or.inl rfl))) g_nil)))
   (s_cons (s_if (PW.pt (w_or (t_cmp (or_eq hr.units) s2_eq (q_var (pv 4)) q_str (nomark _)) (pw_or1 (t_val (q_starts (pe_bm PySem.F.plainAttrs_str PySem.F.slot_str_startswith PySem.F.type_str_startswith mt_startS (q_var (pv 4)) (pa_cons q_str pa_nil)))))))
   (s_one (s_cont ps_continue))
   s_nil)
   (s_cons (s_set (ps_set (i := 5) sc__read_rows.nd rfl (Or.inl rfl) (q_callN c__names_in hr (by decide) (by rfl) (q_cons (q_var (pv 4)) q_nil) (al_cons al_nil))))
   (s_frz (i := 5) (s_cons (s_if (PW.pt (w_or (t_isN (q_var (pv 5))) (w_or (t_inSet (wd_ok (w := w)) (q_ix hr (q_var (pv 5)) q_int (fun _ _ => rfl)) (q_var (pv 2))) (pw_or1 (t_cmp (or_ne hr.units) s2_ne (q_lenSet (by rfl) M.len (by rfl) M.set (q_var (pv 5))) (q_len (by rfl) M.len (q_cons (q_var (pv 5)) q_nil)) (nomark _))))))
   (s_one s_never)
   s_nil)
   (s_cons (s_sadd (wd_ok (w := w)) (ps_expr (pe_sadd (pv 2) (pa_cons (q_ix hr (q_var (pv 5)) q_int (fun _ _ => rfl)) pa_nil))))
   (s_one (s_app (ps_expr (pe_bm PySem.F.plainAttrs_list PySem.F.slot_list_append PySem.F.type_list_append mt_append (pv 1) (pa_cons (q_tup (q_cons (q_var (pv 3)) (q_cons (q_var (pv 5)) q_nil))) pa_nil))))))))))))
   (s_frz (i := 2) (s_one (s_retV (pv 1))))))))
abbrev s__check_others : Stmt := topS 18
abbrev n__check_others : List Str := ["rows", "told", "told_by", "number", "name", "_"]
theorem sc__check_others : FnScope n__check_others ["rows"] (defScope s__check_others) := ⟨rfl, rfl, rfl, by decide +kernel, rfl, by decide +kernel, by decide +kernel⟩
def ev__check_others : EvS := evSeq (evSet 2 (evDc (evItV 0) (gvTup (gvCons (gvName 5) (gvCons (gvName 1) (gvNil)))) (evYes) (evBin fSub (evVar 1) (evC (.int 0))) (evVar 1) [5, 1]))
    (evFrz 2 (evFor (evItV 0) (gvTup (gvCons (gvName 3) (gvCons (gvName 1) (gvNil)))) (evFor (evIt (evSl (evVar 1) (evO (evC (.int 1))) (evONo))) (gvName 4) (evIfS (evTOr (evTB (evBin (fInA true) (evVar 4) (evVar 2))) (evTB (evBin (fInA true) (evBin fSub (evVar 1) (evC (.int 0))) (evBin fSub (evVar 2) (evVar 4))))) (evNever) (evNext)) [4]) [1, 3, 4]))
def F__check_others : Fn := runF 5 (ev__check_others)
def G__check_others_1 (u_ : D) (told_ : D) : Option (Option (Key × D)) :=
  dcS tYes (hBin fSub (hv told_) (hv (.int 0))) (hv told_)
def G__check_others_2 (d_ : D) : Option (Option (Key × D)) :=
  q2 none d_ (G__check_others_1)
def G__check_others_3 (told_by_ : D) (told_ : D) (name_ : D) (s7_ : Unit) : Oc Unit Unit :=
  iteC (tOr (tTB (hBin (fInA true) (hv name_) (hv told_by_))) (tTB (hBin (fInA true) (hBin fSub (hv told_) (hv (.int 0))) (hBin fSub (hv told_by_) (hv name_))))) (fun _ => .no) (fun _ => .nx ())
def G__check_others_4 (told_by_ : D) (number_ : D) (told_ : D) : Oc Unit Unit :=
  bndI (iIt (hSl (hv told_) (hO (hv (.int 1))) hONo)) fun l_ => (forG (G__check_others_3 told_by_ told_) l_ ()).bind (fun s8_ => .nx ())
def G__check_others_5 (told_by_ : D) (d_ : D) (s5_ : Unit) : Oc Unit Unit :=
  q2 .no d_ (G__check_others_4 told_by_)
def G__check_others_6 (rows_ : D) (told_by_ : D) : Oc Unit Empty :=
  bndI (iIt (hv rows_)) fun l_ => (forG (G__check_others_5 told_by_) l_ ()).bind (fun s9_ => .nx ())
def G__check_others (rows_ : D) : Res R := run (
  bnd (hDc (iIt (hv rows_)) (G__check_others_2)) (G__check_others_6 rows_))
theorem le__check_others (rows_ : D) : Le (G__check_others rows_) (apF (F__check_others) [.val rows_]) := le_of (j_end (j_assoc (j_setV (x_dc rfl (fun d_ => (pj_2 fun u_ told_ => (pj_name (pj_name rfl))))) fun told_by_ => (j_for (fun (s5_ : Unit) => [.val rows_, .un, .val told_by_, .un, .un, .un]) () rfl rfl (fun d_ s5_ => (pj_2 fun number_ told_ => (pj_name (pj_name (j_end (j_for (fun (s7_ : Unit) => [.val rows_, .val told_, .val told_by_, .val number_, .un, .un]) () rfl rfl (fun name_ s7_ => pj_name (j_end (j_if rfl j_never (j_skip (j_nx rfl))))) fun s8_ => (j_nx rfl))))))) fun s9_ => (j_nx trivial))))) rfl
theorem ok__check_others {P : Program} {w : World} [Ev.WdOk w] {K : PySem.W.Frag} {mg : Str → Option Value} {base : Heap} {cls : Str → Addr} (T : Tx K mg cls) (M : Bl mg)   (d : DefAt K mg "_check_others" s__check_others ["rows"]) : CalX P w K mg base 1 "_check_others" (spF K cls 1 F__check_others) :=
  calF (k := 0) d sc__check_others (fun p0 f cdv A outer s H E hr => (s_cons (s_setDc (own := [("_", 5), ("told", 1)]) (ew1 := noW) (ps_setDc (i := 2) (own := [("_", 5), ("told", 1)]) rfl sc__check_others.nd rfl rfl (sw_trueD rfl rfl rfl (by decide +kernel)) (i_var (pv 0)) (blkOk_by (own := [("_", 5), ("told", 1)]) (N := n__check_others) (sc := defScope s__check_others) (by decide +kernel)) (fun _ _ _ _ _ => (g_tup rfl (gl_cons (gl_cons gl_nil)) (g_cons (g_name (pg_name (i := 5) sc__check_others.nd rfl (by first | exact Or.inl rfl | exact Or.inr rfl))) (g_cons (g_name (pg_name (i := 1) sc__check_others.nd rfl (Or.inl rfl))) g_nil)))) (fun _ _ _ _ _ => ts_nil) (fun _ _ _ _ _ => (q_ix hr (q_var (pv 1)) q_int (fun _ _ => rfl))) (fun _ _ _ _ _ => (q_var (pv 1)))) (by decide))
   (s_frz (i := 2) (s_one (s_for [1, 3, 4] (ps_for (passes_of rfl) rfl (i_var (pv 0)) (g_tup rfl (gl_cons (gl_cons gl_nil)) (g_cons (g_name (pg_name (i := 3) sc__check_others.nd rfl (Or.inl rfl))) (g_cons (g_name (pg_name (i := 1) sc__check_others.nd rfl (Or.inl rfl))) g_nil)))
   (s_one (s_for [4] (ps_for (passes_of rfl) rfl (i_seq (q_sl (q_var (pv 1)) (q_o q_int) q_ono)) (g_name (pg_name (i := 4) sc__check_others.nd rfl (Or.inl rfl)))
   (s_one (s_if (PW.pt (w_or (t_nin hr (q_var (pv 4)) (q_var (pv 2))) (pw_or1 (t_nin hr (q_ix hr (q_var (pv 1)) q_int (fun _ _ => rfl)) (q_ix hr (q_var (pv 2)) (q_var (pv 4)) (fun _ _ => rfl))))))
   (s_one s_never)
   s_nil)))))))))))
abbrev s_read_network : Stmt := topS 13
abbrev n_read_network : List Str := ["text", "lines", "rows", "nodes", "node", "_", "told", "name"]
theorem sc_read_network : FnScope n_read_network ["text"] (defScope s_read_network) := ⟨rfl, rfl, rfl, by decide +kernel, rfl, by decide +kernel, by decide +kernel⟩
def ev_read_network : EvS := evSeq (evSet 1 (evCallN F__lines_of (evCons (evVar 0) (evNil))))
    (evFrz 1 (evSeq (evSet 2 (evCall F__read_rows (evCons (evVar 1) (evNil))))
    (evFrz 2 (evSeq (evIfS (evTNot (evTru (evVar 2))) (evNever) (evNext))
    (evSeq (evDrop (evCall F__check_others (evCons (evVar 2) (evNil))))
    (evSeq (evSet 3 (evDc (evEnV 2) (gvTup (gvCons (gvName 4) (gvCons (gvTup (gvCons (gvName 5) (gvCons (gvName 6) (gvNil)))) (gvNil)))) (evYes) (evBin fSub (evVar 6) (evC (.int 0))) (evVar 4) [4, 5, 6]))
    (evFrz 3 (evRet (evMake "Network" I_Network (evCons (evCB fListK (evCons (evVar 3) (evNil))) (evCons (evLc (evItV 2) (gvTup (gvCons (gvName 5) (gvCons (gvName 6) (gvNil)))) (evYes) (evLc (evIt (evSl (evVar 6) (evO (evC (.int 1))) (evONo))) (gvName 7) (evYes) (evBin fSub (evVar 3) (evVar 7)) [7]) [5, 6]) (evNil))))))))))))
def F_read_network : Fn := runF 7 (ev_read_network)
def G_read_network_1 (node_ : D) (u_ : D) (told_ : D) : Option (Option (Key × D)) :=
  dcS tYes (hBin fSub (hv told_) (hv (.int 0))) (hv node_)
def G_read_network_2 (node_ : D) (d1_ : D) : Option (Option (Key × D)) :=
  q2 none d1_ (G_read_network_1 node_)
def G_read_network_3 (d_ : D) : Option (Option (Key × D)) :=
  q2 none d_ (G_read_network_2)
def G_read_network_4 (nodes_ : D) (name_ : D) : Option (List D) :=
  lcS tYes (hBin fSub (hv nodes_) (hv name_))
def G_read_network_5 (nodes_ : D) (u_ : D) (told_ : D) : Option (List D) :=
  lcS tYes (hLc (iIt (hSl (hv told_) (hO (hv (.int 1))) hONo)) (G_read_network_4 nodes_))
def G_read_network_6 (nodes_ : D) (d_ : D) : Option (List D) :=
  q2 none d_ (G_read_network_5 nodes_)
def G_read_network_7 (rows_ : D) (nodes_ : D) : Oc Unit Empty :=
  ret (hMake "Network" I_Network (hCons (hCB fListK (hCons (hv nodes_) hNil)) (hCons (hLc (iIt (hv rows_)) (G_read_network_6 nodes_)) hNil)))
def G_read_network_8 (rows_ : D) (_ : Unit) : Oc Unit Empty :=
  drp (hCall F__check_others (hCons (hv rows_) hNil)) (bnd (hDc (iEn (hv rows_)) (G_read_network_3)) (G_read_network_7 rows_))
def G_read_network_9 (rows_ : D) : Oc Unit Empty :=
  iteC (tNot (tTru (hv rows_))) (fun _ => .no) (G_read_network_8 rows_)
def G_read_network_10 (lines_ : D) : Oc Unit Empty :=
  bnd (hCall F__read_rows (hCons (hv lines_) hNil)) (G_read_network_9)
def G_read_network (text_ : D) : Res R := run (
  bnd (hCallN F__lines_of (hCons (hv text_) hNil)) (G_read_network_10))
theorem le_read_network (text_ : D) : Le (G_read_network text_) (apF (F_read_network) [.val text_]) := le_of (j_end (j_assoc (j_setV rfl fun lines_ => (j_assoc (j_setV rfl fun rows_ => (j_assoc (j_if rfl j_never (j_skip (j_assoc (j_drop rfl (j_assoc (j_setV (x_dc rfl (fun d_ => (pj_2 fun node_ d1_ => (pj_name (pj_2 fun u_ told_ => (pj_name (pj_name rfl))))))) fun nodes_ => (j_ret (x_make (x_cons rfl (x_cons (x_lc rfl (fun d_ => (pj_2 fun u_ told_ => (pj_name (pj_name (x_lcS rfl (x_lc rfl (fun name_ => pj_name rfl)))))))) rfl)))))))))))))))) rfl
theorem ok_read_network {P : Program} {w : World} [Ev.WdOk w] {K : PySem.W.Frag} {mg : Str → Option Value} {base : Heap} {cls : Str → Addr} (T : Tx K mg cls) (M : Bl mg)  (k_Network : MakX P w K mg base 2 "Network" (cls "Network") (spM K cls "Network" 2 I_Network)) (c__check_others : CalX P w K mg base 1 "_check_others" (spF K cls 1 F__check_others)) (c__read_rows : CalX P w K mg base 3 "_read_rows" (spF K cls 1 F__read_rows)) (c__lines_of : CalX P w K mg base 1 "_lines_of" (spF K cls 1 F__lines_of)) (d : DefAt K mg "read_network" s_read_network ["text"]) : CalX P w K mg base 4 "read_network" (spF K cls 1 F_read_network) :=
  calF (k := 3) d sc_read_network (fun p0 f cdv A outer s H E hr => (s_cons (s_set (ps_set (i := 1) sc_read_network.nd rfl (Or.inl rfl) (q_callN c__lines_of hr (by decide) (by rfl) (q_cons (q_var (pv 0)) q_nil) (al_cons al_nil))))
   (s_frz (i := 1) (s_cons (s_set (ps_set (i := 2) sc_read_network.nd rfl (Or.inl rfl) (q_call c__read_rows hr (by decide) (by rfl) (passes_call (takes_of rfl rfl rfl rfl) (fun _ _ _ _ h => h)) (q_cons (q_var (pv 1)) q_nil) (al_cons al_nil))))
   (s_frz (i := 2) (s_cons (s_if (t_not (t_val (q_var (pv 2))))
   (s_one s_never)
   s_nil)
   (s_cons (s_drop (ps_expr (q_call c__check_others hr (by decide) (by rfl) (passes_call (takes_of rfl rfl rfl rfl) (fun _ _ _ _ h => h)) (q_cons (q_var (pv 2)) q_nil) (al_cons al_nil))))
   (s_cons (s_set (ps_set (i := 3) sc_read_network.nd rfl (Or.inr rfl) (q_dc (own := [("node", 4), ("_", 5), ("told", 6)]) (ew1 := noW) rfl sc_read_network.nd (i_enumV (by rfl) M.enumerate (pv 2)) (blkOk_by (own := [("node", 4), ("_", 5), ("told", 6)]) (N := n_read_network) (sc := defScope s_read_network) (by decide +kernel)) (fun _ _ _ _ _ => (g_tup rfl (gl_cons (gl_cons gl_nil)) (g_cons (g_name (pg_name (i := 4) sc_read_network.nd rfl (by first | exact Or.inl rfl | exact Or.inr rfl))) (g_cons (g_tup rfl (gl_cons (gl_cons gl_nil)) (g_cons (g_name (pg_name (i := 5) sc_read_network.nd rfl (by first | exact Or.inl rfl | exact Or.inr rfl))) (g_cons (g_name (pg_name (i := 6) sc_read_network.nd rfl (by first | exact Or.inl rfl | exact Or.inr rfl))) g_nil))) g_nil)))) (fun _ _ _ _ _ => ts_nil) (fun _ _ _ _ _ => (q_ix hr (q_var (pv 6)) q_int (fun _ _ => rfl))) (fun _ _ _ _ _ => (q_var (pv 4))) (by decide))))
   (s_frz (i := 3) (s_one (s_ret (q_make (c := "Network") k_Network hr (by decide) (by rfl) (passes_call (takes_of rfl rfl rfl rfl) (fun _ _ _ _ h => h)) (q_cons (q_listK rfl (by rfl) M.list (q_cons (q_var (pv 3)) q_nil)) (q_cons (q_lc (own := [("_", 5), ("told", 6)]) (ew1 := noW) rfl sc_read_network.nd (i_var (pv 2)) (blkOk_by (own := [("_", 5), ("told", 6)]) (N := n_read_network) (sc := defScope s_read_network) (by decide +kernel)) (fun _ _ _ _ _ => (g_tup rfl (gl_cons (gl_cons gl_nil)) (g_cons (g_name (pg_name (i := 5) sc_read_network.nd rfl (by first | exact Or.inl rfl | exact Or.inr rfl))) (g_cons (g_name (pg_name (i := 6) sc_read_network.nd rfl (by first | exact Or.inl rfl | exact Or.inr rfl))) g_nil)))) (fun _ _ _ _ _ => ts_nil) (fun _ _ _ _ _ => (q_lc (own := [("name", 7)]) (ew1 := noW) rfl sc_read_network.nd (i_seq (q_sl (q_var (pv 6)) (q_o q_int) q_ono)) (by walk_at "blk_nest") (fun _ _ _ _ _ => (g_name (pg_name (i := 7) sc_read_network.nd rfl (by first | exact Or.inl rfl | exact Or.inr rfl)))) (fun _ _ _ _ _ => ts_nil) (fun _ _ _ _ _ => (q_ix hr (q_var (pv 3)) (q_var (pv 7)) (fun _ _ => rfl))) (by decide))) (by decide)) q_nil)) (al_cons (al_cons al_nil))))))))))))))
abbrev s__law_cell : Stmt := topS 20
abbrev n__law_cell : List Str := ["script", "k"]
theorem sc__law_cell : FnScope n__law_cell ["script", "k"] (defScope s__law_cell) := ⟨rfl, rfl, rfl, by decide +kernel, rfl, by decide +kernel, by decide +kernel⟩
abbrev ev__law_cell : EvS := Com.ev__law_cell
abbrev F__law_cell : Fn := Com.F__law_cell
theorem ok__law_cell {P : Program} {w : World} [Ev.WdOk w] {K : PySem.W.Frag} {mg : Str → Option Value} {base : Heap} {cls : Str → Addr} (T : Tx K mg cls) (M : Bl mg)   (d : DefAt K mg "_law_cell" s__law_cell ["script", "k"]) : CalX P w K mg base 1 "_law_cell" (spF K cls 2 F__law_cell) :=
  calF (k := 0) d sc__law_cell (fun p0 f cdv A outer s H E hr => (s_cons (s_if (t_cmp op_lt s2_lt (q_var (pv 1)) (q_len (by rfl) M.len (q_cons (q_var (pv 0)) q_nil)) (nomark _))
   (s_one (s_ret (q_ix hr (q_var (pv 0)) (q_var (pv 1)) (fun _ _ => rfl))))
   s_nil)
   (s_one (s_ret q_int))))
abbrev s__law_draw_net : Stmt := topS 21
abbrev n__law_draw_net : List Str := ["number", "most", "degree", "count", "k", "lists", "first", "second", "names", "name", "j"]
theorem sc__law_draw_net : FnScope n__law_draw_net ["number", "most", "degree"] (defScope s__law_draw_net) := ⟨rfl, rfl, rfl, by decide +kernel, rfl, by decide +kernel, by decide +kernel⟩
abbrev ev__law_draw_net : EvS := Com.ev__law_draw_net
abbrev F__law_draw_net : Fn := Com.F__law_draw_net
theorem ok__law_draw_net {P : Program} {w : World} [Ev.WdOk w] {K : PySem.W.Frag} {mg : Str → Option Value} {base : Heap} {cls : Str → Addr} (T : Tx K mg cls) (M : Bl mg)   (d : DefAt K mg "_law_draw_net" s__law_draw_net ["number", "most", "degree"]) : CalX P w K mg base 1 "_law_draw_net" (spF K cls 3 F__law_draw_net) :=
  calF (k := 0) d sc__law_draw_net (fun p0 f cdv A outer s H E hr => (s_cons (s_set (ps_set (i := 3) sc__law_draw_net.nd rfl (Or.inl rfl) (q_add q_int (q_mod (q_int1 (by rfl) M.int (q_cons (q_var (pv 0)) q_nil)) (q_var (pv 1))))))
   (s_cons (s_set (ps_set (i := 0) sc__law_draw_net.nd rfl (Or.inl rfl) (q_fdiv (q_var (pv 0)) (q_var (pv 1)))))
   (s_cons (s_setN (j := 4) (ps_setLc (i := 5) (own := [("k", 4)]) rfl sc__law_draw_net.nd rfl rfl (sw_true rfl rfl rfl (by decide +kernel)) (pi_range1 (by rfl) M.range (pa_cons (q_var (pv 3)) pa_nil)) (blkOk_by (own := [("k", 4)]) (N := n__law_draw_net) (sc := defScope s__law_draw_net) (by decide +kernel)) (fun _ _ _ _ _ => (pg_name (i := 4) sc__law_draw_net.nd rfl (Or.inl rfl))) (fun _ _ _ _ _ => pts_nil) (fun _ _ _ _ _ => (pe_lst pa_nil))))
   (s_cons (s_for [6, 7] (ps_for (passes_of rfl) rfl (i_rng1 (by rfl) M.range (q_mul q_int (q_var (pv 3)))) (g_name (pg_name (i := 4) sc__law_draw_net.nd rfl (Or.inl rfl)))
   (s_cons (s_set (ps_set (i := 0) sc__law_draw_net.nd rfl (Or.inl rfl) (q_mod (q_int1 (by rfl) M.int (q_cons (q_add (q_add (q_mul (q_var (pv 0)) q_int) q_int) (q_mul (q_var (pv 4)) q_int)) q_nil)) q_int)))
   (s_cons (s_set (ps_set (i := 6) sc__law_draw_net.nd rfl (Or.inl rfl) (q_mod (q_int1 (by rfl) M.int (q_cons (q_fdiv (q_var (pv 0)) q_int) q_nil)) (q_var (pv 3)))))
   (s_cons (s_set (ps_set (i := 7) sc__law_draw_net.nd rfl (Or.inl rfl) (q_mod (q_int1 (by rfl) M.int (q_cons (q_fdiv (q_var (pv 0)) q_int) q_nil)) (q_var (pv 3)))))
   (s_one (s_if (PW.pt (w_and (t_cmp (or_ne hr.units) s2_ne (q_var (pv 6)) (q_var (pv 7)) (nomark _)) (w_and (t_nin hr (q_var (pv 7)) (q_ix hr (q_var (pv 5)) (q_var (pv 6)) (fun _ _ => rfl))) (w_and (t_cmp op_lt s2_lt (q_len (by rfl) M.len (q_cons (q_ix hr (q_var (pv 5)) (q_var (pv 6)) (fun _ _ => rfl)) q_nil)) (q_var (pv 2)) (nomark _)) (pw_and1 (t_cmp op_lt s2_lt (q_len (by rfl) M.len (q_cons (q_ix hr (q_var (pv 5)) (q_var (pv 7)) (fun _ _ => rfl)) q_nil)) (q_var (pv 2)) (nomark _)))))))
   (s_cons (s_frz1 (i := 7) (s_insN (ps_expr (pe_bm PySem.F.plainAttrs_list PySem.F.slot_list_insert PySem.F.type_list_insert mt_insert (pe_ix ix_list (pv 5) (q_var (pv 6)) (fun _ _ => rfl)) (pa_cons (q_mod (q_int1 (by rfl) M.int (q_cons (q_fdiv (q_var (pv 0)) q_int) q_nil)) (q_add (q_len (by rfl) M.len (q_cons (q_ix hr (q_var (pv 5)) (q_var (pv 6)) (fun _ _ => rfl)) q_nil)) q_int)) (pa_cons (q_var (pv 7)) pa_nil))))))
   (s_one (s_frz1 (i := 6) (s_insN (ps_expr (pe_bm PySem.F.plainAttrs_list PySem.F.slot_list_insert PySem.F.type_list_insert mt_insert (pe_ix ix_list (pv 5) (q_var (pv 7)) (fun _ _ => rfl)) (pa_cons (q_mod (q_int1 (by rfl) M.int (q_cons (q_fdiv (q_var (pv 0)) q_int) q_nil)) (q_add (q_len (by rfl) M.len (q_cons (q_ix hr (q_var (pv 5)) (q_var (pv 7)) (fun _ _ => rfl)) q_nil)) q_int)) (pa_cons (q_var (pv 6)) pa_nil))))))))
   s_nil)))))))
   (s_cons (s_set (ps_set (i := 8) sc__law_draw_net.nd rfl (Or.inl rfl) (q_lst q_nil)))
   (s_cons (s_for [9, 10] (ps_for (passes_of rfl) rfl (i_rng1 (by rfl) M.range (q_var (pv 3))) (g_name (pg_name (i := 4) sc__law_draw_net.nd rfl (Or.inl rfl)))
   (s_cons (s_set (ps_set (i := 0) sc__law_draw_net.nd rfl (Or.inl rfl) (q_mod (q_int1 (by rfl) M.int (q_cons (q_add (q_mul (q_var (pv 0)) q_int) q_int) q_nil)) q_int)))
   (s_cons (s_set (ps_set (i := 9) sc__law_draw_net.nd rfl (Or.inl rfl) (q_mod (q_int1 (by rfl) M.int (q_cons (q_fdiv (q_var (pv 0)) q_int) q_nil)) (q_add (q_add (q_var (pv 3)) q_int) (q_mod (q_int1 (by rfl) M.int (q_cons (q_fdiv (q_var (pv 0)) q_int) q_nil)) q_int)))))
   (s_cons (s_for [10] (ps_for (passes_of rfl) rfl (i_rng1 (by rfl) M.range (q_var (pv 3))) (g_name (pg_name (i := 10) sc__law_draw_net.nd rfl (Or.inl rfl)))
   (s_one (s_if (t_in hr (q_var (pv 9)) (q_var (pv 8)))
   (s_one (s_set (ps_set (i := 9) sc__law_draw_net.nd rfl (Or.inl rfl) (q_add (q_var (pv 9)) q_int))))
   s_nil))))
   (s_one (s_frz1 (i := 9) (s_app (ps_expr (pe_bm PySem.F.plainAttrs_list PySem.F.slot_list_append PySem.F.type_list_append mt_append (pv 8) (pa_cons (q_var (pv 9)) pa_nil)))))))))))
   (s_one (s_frz1 (i := 5) (s_frz1 (i := 8) (s_ret (q_tup (q_cons (q_var (pv 8)) (q_cons (q_var (pv 5)) q_nil))))))))))))))
abbrev s__law_shape_net : Stmt := topS 22
abbrev n__law_shape_net : List Str := ["number", "most", "way", "count", "lists", "k", "around", "j", "names"]
theorem sc__law_shape_net : FnScope n__law_shape_net ["number", "most"] (defScope s__law_shape_net) := ⟨rfl, rfl, rfl, by decide +kernel, rfl, by decide +kernel, by decide +kernel⟩
abbrev ev__law_shape_net : EvS := Com.ev__law_shape_net
abbrev F__law_shape_net : Fn := Com.F__law_shape_net
theorem ok__law_shape_net {P : Program} {w : World} [Ev.WdOk w] {K : PySem.W.Frag} {mg : Str → Option Value} {base : Heap} {cls : Str → Addr} (T : Tx K mg cls) (M : Bl mg)   (d : DefAt K mg "_law_shape_net" s__law_shape_net ["number", "most"]) : CalX P w K mg base 1 "_law_shape_net" (spF K cls 2 F__law_shape_net) :=
  calF (k := 0) d sc__law_shape_net (fun p0 f cdv A outer s H E hr => (s_cons (s_set (ps_set (i := 2) sc__law_shape_net.nd rfl (Or.inl rfl) (q_mod (q_int1 (by rfl) M.int (q_cons (q_var (pv 0)) q_nil)) q_int)))
   (s_cons (s_set (ps_set (i := 3) sc__law_shape_net.nd rfl (Or.inr rfl) (q_add q_int (q_mod (q_int1 (by rfl) M.int (q_cons (q_fdiv (q_var (pv 0)) q_int) q_nil)) (q_sub (q_var (pv 1)) q_int)))))
   (s_cons (s_set (ps_set (i := 4) sc__law_shape_net.nd rfl (Or.inl rfl) (q_lst q_nil)))
   (s_cons (s_for [6] (ps_for (passes_of rfl) rfl (i_rng1 (by rfl) M.range (q_var (pv 3))) (g_name (pg_name (i := 5) sc__law_shape_net.nd rfl (by first | exact Or.inl rfl | exact Or.inr rfl)))
   (s_cons (s_set (ps_set (i := 6) sc__law_shape_net.nd rfl (Or.inl rfl) (q_lst (q_cons (q_mod (q_int1 (by rfl) M.int (q_cons (q_sub (q_var (pv 5)) q_int) q_nil)) (q_var (pv 3))) (q_cons (q_mod (q_add (q_var (pv 5)) q_int) (q_var (pv 3))) q_nil)))))
   (s_cons (s_if (t_cmp (or_eq hr.units) s2_eq (q_var (pv 2)) q_int (nomark _))
   (s_one (s_setLc (ew1 := noW) (ps_setLc (i := 6) (own := [("j", 7)]) rfl sc__law_shape_net.nd rfl rfl (sw_true rfl rfl rfl (by decide +kernel)) (i_seq (q_tup (q_cons (q_sub (q_var (pv 5)) q_int) (q_cons (q_add (q_var (pv 5)) q_int) q_nil)))) (blkOk_by (own := [("j", 7)]) (N := n__law_shape_net) (sc := defScope s__law_shape_net) (by decide +kernel)) (fun _ _ _ _ _ => (g_name (pg_name (i := 7) sc__law_shape_net.nd rfl (Or.inl rfl)))) (fun _ _ _ _ _ => (ts_one (t_chain op_le op_lt s2_le s2_lt q_int (q_var (pv 7)) (q_var (pv 3))))) (fun _ _ _ _ _ => (q_var (pv 7)))) (by decide)))
   s_nil)
   (s_cons (s_if (t_cmp (or_eq hr.units) s2_eq (q_var (pv 2)) q_int (nomark _))
   (s_one (s_setLc (ew1 := noW) (ps_setLc (i := 6) (own := [("j", 7)]) rfl sc__law_shape_net.nd rfl rfl (sw_true rfl rfl rfl (by decide +kernel)) (i_seq (q_tup (q_cons (q_add (q_var (pv 5)) q_int) (q_cons (q_sub (q_var (pv 5)) q_int) (q_cons (q_add (q_var (pv 5)) q_int) (q_cons (q_sub (q_var (pv 5)) q_int) q_nil)))))) (blkOk_by (own := [("j", 7)]) (N := n__law_shape_net) (sc := defScope s__law_shape_net) (by decide +kernel)) (fun _ _ _ _ _ => (g_name (pg_name (i := 7) sc__law_shape_net.nd rfl (Or.inl rfl)))) (fun _ _ _ _ _ => (ts_one (PW.pt (w_and (t_chain op_le op_lt s2_le s2_lt q_int (q_var (pv 7)) (q_var (pv 3))) (w_and (t_cmp (or_ne hr.units) s2_ne (q_var (pv 7)) (q_var (pv 5)) (nomark _)) (pw_and1 (t_cmp op_lt s2_lt (q_abs (by rfl) M.abs (q_cons (q_sub (q_var (pv 7)) (q_var (pv 5))) q_nil)) q_int (nomark _)))))))) (fun _ _ _ _ _ => (q_var (pv 7)))) (by decide)))
   s_nil)
   (s_cons (s_if (t_cmp (or_eq hr.units) s2_eq (q_var (pv 2)) q_int (nomark _))
   (s_one (s_setLc (ew1 := noW) (ps_setLc (i := 6) (own := [("j", 7)]) rfl sc__law_shape_net.nd rfl rfl (sw_true rfl rfl rfl (by decide +kernel)) (i_seq (q_add (q_if (t_cmp op_gt s2_gt (q_var (pv 5)) q_int (nomark _)) (q_lst (q_cons (q_fdiv (q_sub (q_var (pv 5)) q_int) q_int) q_nil)) (q_lst q_nil)) (q_lst (q_cons (q_add (q_mul q_int (q_var (pv 5))) q_int) (q_cons (q_add (q_mul q_int (q_var (pv 5))) q_int) q_nil))))) (blkOk_by (own := [("j", 7)]) (N := n__law_shape_net) (sc := defScope s__law_shape_net) (by decide +kernel)) (fun _ _ _ _ _ => (g_name (pg_name (i := 7) sc__law_shape_net.nd rfl (Or.inl rfl)))) (fun _ _ _ _ _ => (ts_one (t_cmp op_lt s2_lt (q_var (pv 7)) (q_var (pv 3)) (nomark _)))) (fun _ _ _ _ _ => (q_var (pv 7)))) (by decide)))
   s_nil)
   (s_one (s_frz1 (i := 6) (s_app (ps_expr (pe_bm PySem.F.plainAttrs_list PySem.F.slot_list_append PySem.F.type_list_append mt_append (pv 4) (pa_cons (q_var (pv 6)) pa_nil))))))))))))
   (s_cons (s_set (ps_set (i := 8) sc__law_shape_net.nd rfl (Or.inl rfl) (q_lst q_nil)))
   (s_cons (s_for [] (ps_for (passes_of rfl) rfl (i_rng1 (by rfl) M.range (q_var (pv 3))) (g_name (pg_name (i := 5) sc__law_shape_net.nd rfl (by first | exact Or.inl rfl | exact Or.inr rfl)))
   (s_cons (s_app (ps_expr (pe_bm PySem.F.plainAttrs_list PySem.F.slot_list_append PySem.F.type_list_append mt_append (pv 8) (pa_cons (q_mod (q_int1 (by rfl) M.int (q_cons (q_mul (q_mul (q_add (q_var (pv 5)) q_int) (q_add q_int (q_fdiv (q_var (pv 0)) q_int))) q_int) q_nil)) q_int) pa_nil))))
   (s_one (s_for [] (ps_for (passes_of rfl) rfl (i_rng1 (by rfl) M.range (q_var (pv 3))) (g_name (pg_name (i := 7) sc__law_shape_net.nd rfl (Or.inl rfl)))
   (s_one (s_if (t_in hr (q_ix hr (q_var (pv 8)) (q_var (pv 5)) (fun _ _ => rfl)) (q_sl (q_var (pv 8)) q_ono (q_o (q_var (pv 5)))))
   (s_one (s_setI (ps_asg (q_add (q_ix hr (q_var (pv 8)) (q_var (pv 5)) (fun _ _ => rfl)) q_int) (pg_sub (pv 8) (q_var (pv 5)) set_list)) (ps_dput (units1 hr) (pv 8) (q_var (pv 5)) (q_add (q_ix hr (q_var (pv 8)) (q_var (pv 5)) (fun _ _ => rfl)) q_int) rfl)))
   s_nil))))))))
   (s_one (s_frz1 (i := 4) (s_frz1 (i := 8) (s_ret (q_tup (q_cons (q_var (pv 8)) (q_cons (q_var (pv 4)) q_nil))))))))))))))
abbrev s__law_net : Stmt := topS 23
abbrev n__law_net : List Str := ["number", "most"]
theorem sc__law_net : FnScope n__law_net ["number", "most"] (defScope s__law_net) := ⟨rfl, rfl, rfl, by decide +kernel, rfl, by decide +kernel, by decide +kernel⟩
abbrev ev__law_net : EvS := Com.ev__law_net
abbrev F__law_net : Fn := Com.F__law_net
theorem ok__law_net {P : Program} {w : World} [Ev.WdOk w] {K : PySem.W.Frag} {mg : Str → Option Value} {base : Heap} {cls : Str → Addr} (T : Tx K mg cls) (M : Bl mg)  (c__law_draw_net : CalX P w K mg base 1 "_law_draw_net" (spF K cls 3 F__law_draw_net)) (c__law_shape_net : CalX P w K mg base 1 "_law_shape_net" (spF K cls 2 F__law_shape_net)) (d : DefAt K mg "_law_net" s__law_net ["number", "most"]) : CalX P w K mg base 2 "_law_net" (spF K cls 2 F__law_net) :=
  calF (k := 1) d sc__law_net (fun p0 f cdv A outer s H E hr => (s_cons (s_if (t_cmp (or_eq hr.units) s2_eq (q_mod (q_int1 (by rfl) M.int (q_cons (q_var (pv 0)) q_nil)) q_int) q_int (nomark _))
   (s_one (s_ret (q_callN c__law_shape_net hr (by decide) (by rfl) (q_cons (q_fdiv (q_var (pv 0)) q_int) (q_cons (q_var (pv 1)) q_nil)) (al_cons (al_cons al_nil)))))
   s_nil)
   (s_one (s_ret (q_callN c__law_draw_net hr (by decide) (by rfl) (q_cons (q_fdiv (q_var (pv 0)) q_int) (q_cons (q_var (pv 1)) (q_cons q_int q_nil))) (al_cons (al_cons (al_cons al_nil))))))))
abbrev s__law_draws : Stmt := topS 24
abbrev n__law_draws : List Str := ["cell", "count", "rows", "left", "first", "k", "mixed"]
theorem sc__law_draws : FnScope n__law_draws ["cell", "count"] (defScope s__law_draws) := ⟨rfl, rfl, rfl, by decide +kernel, rfl, by decide +kernel, by decide +kernel⟩
abbrev ev__law_draws : EvS := Com.ev__law_draws
abbrev F__law_draws : Fn := Com.F__law_draws
theorem ok__law_draws {P : Program} {w : World} [Ev.WdOk w] {K : PySem.W.Frag} {mg : Str → Option Value} {base : Heap} {cls : Str → Addr} (T : Tx K mg cls) (M : Bl mg)   (d : DefAt K mg "_law_draws" s__law_draws ["cell", "count"]) : CalX P w K mg base 1 "_law_draws" (spF K cls 2 F__law_draws) :=
  calF (k := 0) d sc__law_draws (fun p0 f cdv A outer s H E hr => (s_cons (s_set (ps_set (i := 2) sc__law_draws.nd rfl (Or.inl rfl) (q_lst q_nil)))
   (s_cons (s_set (ps_set (i := 3) sc__law_draws.nd rfl (Or.inl rfl) (q_abs (by rfl) M.abs (q_cons (q_var (pv 0)) q_nil))))
   (s_cons (s_frz1 (i := 3) (s_set (ps_set (i := 4) sc__law_draws.nd rfl (Or.inl rfl) (q_var (pv 3)))))
   (s_cons (s_for [5, 6] (ps_for (passes_of rfl) rfl (i_rng1 (by rfl) M.range (q_var (pv 1))) (g_name (pg_name (i := 5) sc__law_draws.nd rfl (Or.inl rfl)))
   (s_one (s_if (PW.pt (w_and (t_cmp op_ge s2_ge (q_var (pv 4)) (q_pow q_int q_int) (nomark _)) (pw_and1 (t_cmp op_gt s2_gt (q_var (pv 3)) q_int (nomark _)))))
   (s_cons (s_app (ps_expr (pe_bm PySem.F.plainAttrs_list PySem.F.slot_list_append PySem.F.type_list_append mt_append (pv 2) (pa_cons (q_mod (q_int1 (by rfl) M.int (q_cons (q_var (pv 3)) q_nil)) q_int) pa_nil))))
   (s_one (s_set (ps_set (i := 3) sc__law_draws.nd rfl (Or.inl rfl) (q_fdiv (q_var (pv 3)) q_int)))))
   (s_cons (s_set (ps_set (i := 6) sc__law_draws.nd rfl (Or.inl rfl) (q_mod (q_int1 (by rfl) M.int (q_cons (q_add (q_mul (q_var (pv 4)) q_int) (q_mul (q_add (q_var (pv 5)) q_int) q_int)) q_nil)) q_int)))
   (s_cons (s_set (ps_set (i := 6) sc__law_draws.nd rfl (Or.inl rfl) (q_mod (q_int1 (by rfl) M.int (q_cons (q_add (q_add (q_mul (q_var (pv 6)) (q_var (pv 6))) (q_mul (q_var (pv 6)) q_int)) (q_mul (q_var (pv 5)) q_int)) q_nil)) q_int)))
   (s_cons (s_set (ps_set (i := 6) sc__law_draws.nd rfl (Or.inl rfl) (q_mod (q_int1 (by rfl) M.int (q_cons (q_add (q_add (q_mul (q_var (pv 6)) (q_var (pv 6))) (q_var (pv 4))) (q_mul q_int (q_var (pv 5)))) q_nil)) q_int)))
   (s_one (s_app (ps_expr (pe_bm PySem.F.plainAttrs_list PySem.F.slot_list_append PySem.F.type_list_append mt_append (pv 2) (pa_cons (q_mod (q_fdiv (q_var (pv 6)) q_int) q_int) pa_nil))))))))))))
   (s_one (s_retV (pv 2))))))))
abbrev s__law_like : Stmt := topS 25
abbrev n__law_like : List Str := ["actual", "due", "k"]
theorem sc__law_like : FnScope n__law_like ["actual", "due"] (defScope s__law_like) := ⟨rfl, rfl, rfl, by decide +kernel, rfl, by decide +kernel, by decide +kernel⟩
abbrev ev__law_like := @Com.ev__law_like
abbrev R__law_like := Com.R__law_like
abbrev F__law_like : Fn := R__law_like 6
theorem okn__law_like {P : Program} {w : World} [Ev.WdOk w] {K : PySem.W.Frag} {mg : Str → Option Value} {base : Heap} {cls : Str → Addr} (T : Tx K mg cls) (M : Bl mg)   (d : DefAt K mg "_law_like" s__law_like ["actual", "due"]) : ∀ n, CalX P w K mg base (1 + n) "_law_like" (spF K cls 2 (R__law_like n))
  | 0 => CalX.mono (calF (k := 0) d sc__law_like fun p0 f cdv A outer s H E hr => ss_never) (by decide)
  | n + 1 => by
    have c_rec := okn__law_like (P := P) (w := w) (base := base) T M  d n
    exact calF (k := 1 + n) d sc__law_like (fun p0 f cdv A outer s H E hr => (s_cons (s_if (t_isN (q_var (pv 1)))
   (s_one (s_ret (q_isN (q_var (pv 0)))))
   s_nil)
   (s_cons (s_if (t_val (q_isi (N := "bool") (by rfl) M.isinstance (by rfl) M.bool bt_bool (q_var (pv 1))))
   (s_one (s_ret (q_and (q_isi (N := "bool") (by rfl) M.isinstance (by rfl) M.bool bt_bool (q_var (pv 0))) (pe_one (q_cmp (or_eq hr.units) s2_eq (q_var (pv 0)) (q_var (pv 1)) (nomark _))))))
   s_nil)
   (s_cons (s_if (t_val (q_isi (N := "str") (by rfl) M.isinstance (by rfl) M.str bt_str (q_var (pv 1))))
   (s_one (s_ret (q_and (q_isi (N := "str") (by rfl) M.isinstance (by rfl) M.str bt_str (q_var (pv 0))) (pe_one (q_cmp (or_eq hr.units) s2_eq (q_var (pv 0)) (q_var (pv 1)) (nomark _))))))
   s_nil)
   (s_cons (s_if (t_val (q_isi (N := "int") (by rfl) M.isinstance (by rfl) M.int bt_int (q_var (pv 1))))
   (s_one (s_ret (q_and (q_isi (N := "int") (by rfl) M.isinstance (by rfl) M.int bt_int (q_var (pv 0))) (q_and (q_not (q_isi (N := "bool") (by rfl) M.isinstance (by rfl) M.bool bt_bool (q_var (pv 0)))) (pe_one (q_cmp (or_eq hr.units) s2_eq (q_var (pv 0)) (q_var (pv 1)) (nomark _)))))))
   s_nil)
   (s_cons (s_if (PW.pt (w_or (t_cmp (or_ne hr.units) s2_ne (q_isi (N := "list") (by rfl) M.isinstance (by rfl) M.list bt_list (q_var (pv 1))) (q_isi (N := "list") (by rfl) M.isinstance (by rfl) M.list bt_list (q_var (pv 0))) (nomark _)) (pw_or1 (t_cmp (or_ne hr.units) s2_ne (q_isi (N := "tuple") (by rfl) M.isinstance (by rfl) M.tuple bt_tuple (q_var (pv 1))) (q_isi (N := "tuple") (by rfl) M.isinstance (by rfl) M.tuple bt_tuple (q_var (pv 0))) (nomark _)))))
   (s_one (s_ret q_bl))
   s_nil)
   (s_cons (s_if (t_cmp (or_ne hr.units) s2_ne (q_len (by rfl) M.len (q_cons (q_var (pv 0)) q_nil)) (q_len (by rfl) M.len (q_cons (q_var (pv 1)) q_nil)) (nomark _))
   (s_one (s_ret q_bl))
   s_nil)
   (s_one (s_ret (q_all rfl (by rfl) M.all (q_cons (q_lc (own := [("k", 2)]) (ew1 := noW) rfl sc__law_like.nd (i_rng1 (by rfl) M.range (q_len (by rfl) M.len (q_cons (q_var (pv 1)) q_nil))) (blkOk_by (own := [("k", 2)]) (N := n__law_like) (sc := defScope s__law_like) (by decide +kernel)) (fun _ _ _ _ _ => (g_name (pg_name (i := 2) sc__law_like.nd rfl (by first | exact Or.inl rfl | exact Or.inr rfl)))) (fun _ _ _ _ _ => ts_nil) (fun _ _ _ _ _ => (q_callN c_rec hr (by omega) (by rfl) (q_cons (q_ix hr (q_var (pv 0)) (q_var (pv 2)) (fun _ _ => rfl)) (q_cons (q_ix hr (q_var (pv 1)) (q_var (pv 2)) (fun _ _ => rfl)) q_nil)) (al_cons (al_cons al_nil)))) (by decide)) q_nil)))))))))))
theorem ok__law_like {P : Program} {w : World} [Ev.WdOk w] {K : PySem.W.Frag} {mg : Str → Option Value} {base : Heap} {cls : Str → Addr} (T : Tx K mg cls) (M : Bl mg)   (d : DefAt K mg "_law_like" s__law_like ["actual", "due"]) : CalX P w K mg base 7 "_law_like" (spF K cls 2 F__law_like) := okn__law_like T M  d 6
abbrev s__law_made : Stmt := topS 26
abbrev n__law_made : List Str := ["net", "around"]
theorem sc__law_made : FnScope n__law_made ["net"] (defScope s__law_made) := ⟨rfl, rfl, rfl, by decide +kernel, rfl, by decide +kernel, by decide +kernel⟩
abbrev ev__law_made : EvS := Com.ev__law_made
abbrev F__law_made : Fn := Com.F__law_made
theorem ok__law_made {P : Program} {w : World} [Ev.WdOk w] {K : PySem.W.Frag} {mg : Str → Option Value} {base : Heap} {cls : Str → Addr} (T : Tx K mg cls) (M : Bl mg)  (k_Network : MakX P w K mg base 2 "Network" (cls "Network") (spM K cls "Network" 2 I_Network)) (d : DefAt K mg "_law_made" s__law_made ["net"]) : CalX P w K mg base 4 "_law_made" (spF K cls 1 F__law_made) :=
  calF (k := 3) d sc__law_made (fun p0 f cdv A outer s H E hr => (s_one (s_ret (q_make (c := "Network") k_Network hr (by decide) (by rfl) (passes_call (takes_of rfl rfl rfl rfl) (fun _ _ _ _ h => h)) (q_cons (q_list (by rfl) M.list (q_cons (q_ix hr (q_var (pv 0)) q_int (fun _ _ => rfl)) q_nil)) (q_cons (q_lc (own := [("around", 1)]) (ew1 := noW) rfl sc__law_made.nd (i_seq (q_ix hr (q_var (pv 0)) q_int (fun _ _ => rfl))) (blkOk_by (own := [("around", 1)]) (N := n__law_made) (sc := defScope s__law_made) (by decide +kernel)) (fun _ _ _ _ _ => (g_name (pg_name (i := 1) sc__law_made.nd rfl (by first | exact Or.inl rfl | exact Or.inr rfl)))) (fun _ _ _ _ _ => ts_nil) (fun _ _ _ _ _ => (q_list (by rfl) M.list (q_cons (q_var (pv 1)) q_nil))) (by decide)) q_nil)) (al_cons (al_cons al_nil))))))
abbrev s__law_drawn : Stmt := topS 27
abbrev n__law_drawn : List Str := ["script", "k", "most"]
theorem sc__law_drawn : FnScope n__law_drawn ["script", "k", "most"] (defScope s__law_drawn) := ⟨rfl, rfl, rfl, by decide +kernel, rfl, by decide +kernel, by decide +kernel⟩
abbrev ev__law_drawn : EvS := Com.ev__law_drawn
abbrev F__law_drawn : Fn := Com.F__law_drawn
theorem ok__law_drawn {P : Program} {w : World} [Ev.WdOk w] {K : PySem.W.Frag} {mg : Str → Option Value} {base : Heap} {cls : Str → Addr} (T : Tx K mg cls) (M : Bl mg)  (c__law_net : CalX P w K mg base 2 "_law_net" (spF K cls 2 F__law_net)) (c__law_cell : CalX P w K mg base 1 "_law_cell" (spF K cls 2 F__law_cell)) (d : DefAt K mg "_law_drawn" s__law_drawn ["script", "k", "most"]) : CalX P w K mg base 3 "_law_drawn" (spF K cls 3 F__law_drawn) :=
  calF (k := 2) d sc__law_drawn (fun p0 f cdv A outer s H E hr => (s_one (s_ret (q_callN c__law_net hr (by decide) (by rfl) (q_cons (q_abs (by rfl) M.abs (q_cons (q_callN c__law_cell hr (by decide) (by rfl) (q_cons (q_var (pv 0)) (q_cons (q_var (pv 1)) q_nil)) (al_cons (al_cons al_nil))) q_nil)) (q_cons (q_var (pv 2)) q_nil)) (al_cons (al_cons al_nil))))))
abbrev s__law_lines : Stmt := topS 28
abbrev n__law_lines : List Str := ["net", "lines", "k", "other"]
theorem sc__law_lines : FnScope n__law_lines ["net"] (defScope s__law_lines) := ⟨rfl, rfl, rfl, by decide +kernel, rfl, by decide +kernel, by decide +kernel⟩
def ev__law_lines : EvS := evSeq (evSet 1 (evCB fLst (evNil)))
    (evSeq (evFor (evRng1 (evCB fLen (evCons (evBin fSub (evVar 0) (evC (.int 0))) (evNil)))) (gvName 2) (evApp 1 (evBM isStr fJoin (evC (.str " ")) (evBin fAdd (evCB fLst (evCons (evC (.str "node")) (evNil))) (evLc (evIt (evBin fAdd (evCB fLst (evCons (evVar 2) (evNil))) (evBin fSub (evBin fSub (evVar 0) (evC (.int 1))) (evVar 2)))) (gvName 3) (evYes) (evCB fStr (evCons (evBin fSub (evBin fSub (evVar 0) (evC (.int 0))) (evVar 3)) (evNil))) [3])))) [2])
    (evRetV 1))
def F__law_lines : Fn := runF 3 (ev__law_lines)
def G__law_lines_1 (net_ : D) (other_ : D) : Option (List D) :=
  lcS tYes (hCB fStr (hCons (hBin fSub (hBin fSub (hv net_) (hv (.int 0))) (hv other_)) hNil))
def G__law_lines_2 (net_ : D) (lines_ : List D) (k_ : D) (s3_ : List D) : Oc (List D) (List D) :=
  appO s3_ (hBM isStr fJoin (hv (.str " ")) (hBin fAdd (hCB fLst (hCons (hv (.str "node")) hNil)) (hLc (iIt (hBin fAdd (hCB fLst (hCons (hv k_) hNil)) (hBin fSub (hBin fSub (hv net_) (hv (.int 1))) (hv k_)))) (G__law_lines_1 net_)))) (fun lines_ => .nx lines_)
def G__law_lines_3 (net_ : D) (lines_ : List D) : Oc Unit Empty :=
  bndI (iRng1 (hCB fLen (hCons (hBin fSub (hv net_) (hv (.int 0))) hNil))) fun l_ => (forG (G__law_lines_2 net_ lines_) l_ lines_).bind (fun s4_ => .rt (.fr s4_))
def G__law_lines (net_ : D) : Res R := run (
  bndO (hCB fLst hNil) (G__law_lines_3 net_))
theorem le__law_lines (net_ : D) : Le (G__law_lines net_) (apF (F__law_lines) [.val net_]) := le_of (j_end (j_assoc (j_setO rfl fun lines_ => (j_assoc (j_for (fun (s3_ : List D) => [.val net_, .own s3_, .un, .un]) lines_ rfl rfl (fun k_ s3_ => pj_name (j_end (j_app rfl (x_bm rfl (x_bin rfl (x_lc rfl (fun other_ => pj_name rfl)))) fun lines_ => (j_nx rfl)))) fun s4_ => (j_retVO rfl)))))) rfl
theorem ok__law_lines {P : Program} {w : World} [Ev.WdOk w] {K : PySem.W.Frag} {mg : Str → Option Value} {base : Heap} {cls : Str → Addr} (T : Tx K mg cls) (M : Bl mg)   (d : DefAt K mg "_law_lines" s__law_lines ["net"]) : CalX P w K mg base 1 "_law_lines" (spF K cls 1 F__law_lines) :=
  calF (k := 0) d sc__law_lines (fun p0 f cdv A outer s H E hr => (s_cons (s_set (ps_set (i := 1) sc__law_lines.nd rfl (Or.inl rfl) (q_lst q_nil)))
   (s_cons (s_for [2] (ps_for (passes_of rfl) rfl (i_rng1 (by rfl) M.range (q_len (by rfl) M.len (q_cons (q_ix hr (q_var (pv 0)) q_int (fun _ _ => rfl)) q_nil))) (g_name (pg_name (i := 2) sc__law_lines.nd rfl (Or.inl rfl)))
   (s_one (s_app (ps_expr (pe_bm PySem.F.plainAttrs_list PySem.F.slot_list_append PySem.F.type_list_append mt_append (pv 1) (pa_cons (q_join (pe_bm PySem.F.plainAttrs_str PySem.F.slot_str_join PySem.F.type_str_join mt_joinS q_str (pa_cons (q_add (q_lst (q_cons q_str q_nil)) (q_lc (own := [("other", 3)]) (ew1 := noW) rfl sc__law_lines.nd (i_seq (q_add (q_lst (q_cons (q_var (pv 2)) q_nil)) (q_ix hr (q_ix hr (q_var (pv 0)) q_int (fun _ _ => rfl)) (q_var (pv 2)) (fun _ _ => rfl)))) (blkOk_by (own := [("other", 3)]) (N := n__law_lines) (sc := defScope s__law_lines) (by decide +kernel)) (fun _ _ _ _ _ => (g_name (pg_name (i := 3) sc__law_lines.nd rfl (by first | exact Or.inl rfl | exact Or.inr rfl)))) (fun _ _ _ _ _ => ts_nil) (fun _ _ _ _ _ => (q_str1 (by rfl) M.str (q_cons (q_ix hr (q_ix hr (q_var (pv 0)) q_int (fun _ _ => rfl)) (q_var (pv 3)) (fun _ _ => rfl)) q_nil))) (by decide))) pa_nil))) pa_nil)))))))
   (s_one (s_retV (pv 1))))))
abbrev s__law_is : Stmt := topS 29
abbrev n__law_is : List Str := ["network", "net", "k"]
theorem sc__law_is : FnScope n__law_is ["network", "net"] (defScope s__law_is) := ⟨rfl, rfl, rfl, by decide +kernel, rfl, by decide +kernel, by decide +kernel⟩
def ev__law_is : EvS := evSeq (evIfS (evTNot (evTru (evCallN F__law_like (evCons (evMethN "names" [("Network", F_Network_names)] (evVar 0) evNil) (evCons (evBin fSub (evVar 1) (evC (.int 0))) (evNil)))))) (evRet (evC (.bl false))) (evNext))
    (evRet (evCB fAll (evCons (evLc (evRng1 (evCB fLen (evCons (evBin fSub (evVar 1) (evC (.int 0))) (evNil)))) (gvName 2) (evYes) (evCallN F__law_like (evCons (evMethN "neighbors" [("Network", F_Network_neighbors)] (evVar 0) (evCons (evVar 2) (evNil))) (evCons (evBin fSub (evBin fSub (evVar 1) (evC (.int 1))) (evVar 2)) (evNil)))) [2]) (evNil))))
def F__law_is : Fn := runF 1 (ev__law_is)
def G__law_is_1 (network_ : D) (net_ : D) (k_ : D) : Option (List D) :=
  lcS tYes (hCallN F__law_like (hCons (hMethN "neighbors" [("Network", F_Network_neighbors)] (hv network_) (hCons (hv k_) hNil)) (hCons (hBin fSub (hBin fSub (hv net_) (hv (.int 1))) (hv k_)) hNil)))
def G__law_is_2 (network_ : D) (net_ : D) (_ : Unit) : Oc Unit Empty :=
  ret (hCB fAll (hCons (hLc (iRng1 (hCB fLen (hCons (hBin fSub (hv net_) (hv (.int 0))) hNil))) (G__law_is_1 network_ net_)) hNil))
def G__law_is (network_ : D) (net_ : D) : Res R := run (
  iteC (tNot (tTru (hCallN F__law_like (hCons (hMethN "names" [("Network", F_Network_names)] (hv network_) hNil) (hCons (hBin fSub (hv net_) (hv (.int 0))) hNil))))) (fun _ => ret (hv (.bl false))) (G__law_is_2 network_ net_))
theorem le__law_is (network_ : D) (net_ : D) : Le (G__law_is network_ net_) (apF (F__law_is) [.val network_, .val net_]) := le_of (j_end (j_assoc (j_if rfl (j_ret rfl) (j_skip (j_ret (x_cb (x_cons (x_lc rfl (fun k_ => pj_name rfl)) rfl))))))) rfl
theorem ok__law_is {P : Program} {w : World} [Ev.WdOk w] {K : PySem.W.Frag} {mg : Str → Option Value} {base : Heap} {cls : Str → Addr} (T : Tx K mg cls) (M : Bl mg)  (c__law_like : CalX P w K mg base 7 "_law_like" (spF K cls 2 F__law_like)) (m_Network_neighbors : MetX P w K mg base 1 (cls "Network") "neighbors" (spF K cls 2 F_Network_neighbors)) (m_Network_names : MetX P w K mg base 1 (cls "Network") "names" (spF K cls 1 F_Network_names)) (d : DefAt K mg "_law_is" s__law_is ["network", "net"]) : CalX P w K mg base 8 "_law_is" (spF K cls 2 F__law_is) :=
  calF (k := 7) d sc__law_is (fun p0 f cdv A outer s H E hr => (s_cons (s_if (t_not (t_val (q_callN c__law_like hr (by decide) (by rfl) (q_cons (q_methN0 (tb_cons m_Network_names (Nat.le_refl _) tb_nil) (by simp) hr (by decide) (q_var (pv 0))) (q_cons (q_ix hr (q_var (pv 1)) q_int (fun _ _ => rfl)) q_nil)) (al_cons (al_cons al_nil)))))
   (s_one (s_ret q_bl))
   s_nil)
   (s_one (s_ret (q_all rfl (by rfl) M.all (q_cons (q_lc (own := [("k", 2)]) (ew1 := noW) rfl sc__law_is.nd (i_rng1 (by rfl) M.range (q_len (by rfl) M.len (q_cons (q_ix hr (q_var (pv 1)) q_int (fun _ _ => rfl)) q_nil))) (blkOk_by (own := [("k", 2)]) (N := n__law_is) (sc := defScope s__law_is) (by decide +kernel)) (fun _ _ _ _ _ => (g_name (pg_name (i := 2) sc__law_is.nd rfl (by first | exact Or.inl rfl | exact Or.inr rfl)))) (fun _ _ _ _ _ => ts_nil) (fun _ _ _ _ _ => (q_callN c__law_like hr (by decide) (by rfl) (q_cons (q_methN (tb_cons m_Network_neighbors (Nat.le_refl _) tb_nil) (by simp) hr (by decide) (q_var (pv 0)) (q_cons (q_var (pv 2)) q_nil) (fun E as h => congrArg (· + 1) ((al_cons al_nil) E as h))) (q_cons (q_ix hr (q_ix hr (q_var (pv 1)) q_int (fun _ _ => rfl)) (q_var (pv 2)) (fun _ _ => rfl)) q_nil)) (al_cons (al_cons al_nil)))) (by decide)) q_nil))))))
abbrev s_law : Stmt := topS 30
abbrev n_law : List Str := ["script", "net", "draws", "lines", "text", "mixed", "k", "j", "line", "name"]
theorem sc_law : FnScope n_law ["script"] (defScope s_law) := ⟨rfl, rfl, rfl, by decide +kernel, rfl, by decide +kernel, by decide +kernel⟩
def ev_law : EvS := evSeq (evSet 1 (evCallN F__law_drawn (evCons (evVar 0) (evCons (evC (.int 0)) (evCons (evC (.int 8)) (evNil))))))
    (evFrz 1 (evSeq (evSet 2 (evCallN F__law_draws (evCons (evCallN F__law_cell (evCons (evVar 0) (evCons (evC (.int 1)) (evNil)))) (evCons (evC (.int 40)) (evNil)))))
    (evFrz 2 (evSeq (evIfS (evTB (evBin fEq (evBin oMod (evBin fSub (evVar 2) (evC (.int 0))) (evC (.int 3))) (evC (.int 0)))) (evSeq (evSet 1 (evCB fTup (evCons (evLc (evIt (evBin fSub (evVar 1) (evC (.int 0)))) (gvName 9) (evYes) (evBin oSub (evC (.int 999999999)) (evBin fMul (evC (.int 7)) (evVar 9))) [9]) (evCons (evBin fSub (evVar 1) (evC (.int 1))) (evNil)))))
    (evFrz 1 (evNext))) (evNext))
    (evSeq (evSet 3 (evCallN F__law_lines (evCons (evVar 1) (evNil))))
    (evFrz 3 (evSeq (evSet 4 (evBM isStr fJoin (evC (.str "")) (evLc (evItV 3) (gvName 8) (evYes) (evBin fAdd (evVar 8) (evC (.str "
"))) [8])))
    (evFrz 4 (evSeq (evIfS (evTOr (evTNot (evTru (evCallN F__law_like (evCons (evCallN F_network_text (evCons (evCallN F__law_made (evCons (evVar 1) (evNil))) (evNil))) (evCons (evVar 4) (evNil)))))) (evTNot (evTru (evCallN F__law_is (evCons (evCallN F_read_network (evCons (evVar 4) (evNil))) (evCons (evVar 1) (evNil))))))) (evRet (evC (.bl false))) (evNext))
    (evSeq (evIfS (evTNot (evTru (evCallN F__law_is (evCons (evCallN F_read_network (evCons (evBM isStr fJoin (evC (.str "
")) (evVar 3)) (evNil))) (evCons (evVar 1) (evNil)))))) (evRet (evC (.bl false))) (evNext))
    (evSeq (evSet 5 (evCB fLst (evNil)))
    (evSeq (evFor (evRng1 (evCB fLen (evCons (evVar 3) (evNil)))) (gvName 6) (evSeq (evFor (evRng1 (evBin oMod (evBin fSub (evVar 2) (evBin fAdd (evC (.int 1)) (evVar 6))) (evC (.int 3)))) (gvName 7) (evApp 5 (evBin fSub (evCB fLst (evCons (evC (.str "")) (evCons (evC (.str "#")) (evCons (evC (.str "# node 5 5")) (evCons (evC (.str "#node 1 1")) (evCons (evC (.str "#  ")) (evNil))))))) (evBin oMod (evBin fSub (evVar 2) (evBin fAdd (evBin fAdd (evC (.int 10)) (evBin fMul (evC (.int 2)) (evVar 6))) (evVar 7))) (evC (.int 5))))) [7])
    (evApp 5 (evBin fSub (evVar 3) (evVar 6)))) [6, 7])
    (evFrz 5 (evSeq (evSet 5 (evBin fAdd (evVar 5) (evSl (evCB fLst (evCons (evC (.str "")) (evCons (evC (.str "#end")) (evNil)))) (evONo) (evO (evBin oMod (evBin fSub (evVar 2) (evC (.int 39))) (evC (.int 3)))))))
    (evFrz 5 (evRet (evAnd (evCallN F__law_is (evCons (evCallN F_read_network (evCons (evBM isStr fJoin (evC (.str "
")) (evVar 5)) (evNil))) (evCons (evVar 1) (evNil)))) (evCallN F__law_is (evCons (evCallN F_read_network (evCons (evBin fAdd (evBM isStr fJoin (evC (.str "
")) (evVar 5)) (evC (.str "
"))) (evNil))) (evCons (evVar 1) (evNil)))))))))))))))))))))
def G_law_1 (name_ : D) : Option (List D) :=
  lcS tYes (hBin oSub (hv (.int 999999999)) (hBin fMul (hv (.int 7)) (hv name_)))
def G_law_2 (net_ : D) (_ : Unit) : Oc D Empty :=
  bnd (hCB fTup (hCons (hLc (iIt (hBin fSub (hv net_) (hv (.int 0)))) (G_law_1)) (hCons (hBin fSub (hv net_) (hv (.int 1))) hNil))) (fun net_ => .nx net_)
def G_law_3 (line_ : D) : Option (List D) :=
  lcS tYes (hBin fAdd (hv line_) (hv (.str "
")))
def G_law_4 (draws_ : D) (mixed_ : List D) (k_ : D) (j_ : D) (s31_ : List D) : Oc (List D) (List D) :=
  appO s31_ (hBin fSub (hCB fLst (hCons (hv (.str "")) (hCons (hv (.str "#")) (hCons (hv (.str "# node 5 5")) (hCons (hv (.str "#node 1 1")) (hCons (hv (.str "#  ")) hNil)))))) (hBin oMod (hBin fSub (hv draws_) (hBin fAdd (hBin fAdd (hv (.int 10)) (hBin fMul (hv (.int 2)) (hv k_))) (hv j_))) (hv (.int 5)))) (fun mixed_ => .nx mixed_)
def G_law_5 (lines_ : D) (mixed_ : List D) (k_ : D) (s32_ : List D) : Oc (List D) (List D) :=
  appO s32_ (hBin fSub (hv lines_) (hv k_)) (fun mixed_ => .nx mixed_)
def G_law_6 (draws_ : D) (lines_ : D) (mixed_ : List D) (k_ : D) (s28_ : List D) : Oc (List D) (List D) :=
  bndI (iRng1 (hBin oMod (hBin fSub (hv draws_) (hBin fAdd (hv (.int 1)) (hv k_))) (hv (.int 3)))) fun l_ => (forG (G_law_4 draws_ mixed_ k_) l_ s28_).bind (G_law_5 lines_ mixed_ k_)
def G_law_7 (s17_ : D) (mixed_ : D) : Oc Unit Empty :=
  ret (hAnd (hCallN F__law_is (hCons (hCallN F_read_network (hCons (hBM isStr fJoin (hv (.str "
")) (hv mixed_)) hNil)) (hCons (hv s17_) hNil))) (hCallN F__law_is (hCons (hCallN F_read_network (hCons (hBin fAdd (hBM isStr fJoin (hv (.str "
")) (hv mixed_)) (hv (.str "
"))) hNil)) (hCons (hv s17_) hNil))))
def G_law_8 (draws_ : D) (s17_ : D) (s33_ : List D) : Oc Unit Empty :=
  bnd (hBin fAdd (hv (.lst s33_)) (hSl (hCB fLst (hCons (hv (.str "")) (hCons (hv (.str "#end")) hNil))) hONo (hO (hBin oMod (hBin fSub (hv draws_) (hv (.int 39))) (hv (.int 3)))))) (G_law_7 s17_)
def G_law_9 (draws_ : D) (s17_ : D) (lines_ : D) (mixed_ : List D) : Oc Unit Empty :=
  bndI (iRng1 (hCB fLen (hCons (hv lines_) hNil))) fun l_ => (forG (G_law_6 draws_ lines_ mixed_) l_ mixed_).bind (G_law_8 draws_ s17_)
def G_law_10 (draws_ : D) (s17_ : D) (lines_ : D) (_ : Unit) : Oc Unit Empty :=
  bndO (hCB fLst hNil) (G_law_9 draws_ s17_ lines_)
def G_law_11 (draws_ : D) (s17_ : D) (lines_ : D) (_ : Unit) : Oc Unit Empty :=
  iteC (tNot (tTru (hCallN F__law_is (hCons (hCallN F_read_network (hCons (hBM isStr fJoin (hv (.str "
")) (hv lines_)) hNil)) (hCons (hv s17_) hNil))))) (fun _ => ret (hv (.bl false))) (G_law_10 draws_ s17_ lines_)
def G_law_12 (draws_ : D) (s17_ : D) (lines_ : D) (text_ : D) : Oc Unit Empty :=
  iteC (tOr (tNot (tTru (hCallN F__law_like (hCons (hCallN F_network_text (hCons (hCallN F__law_made (hCons (hv s17_) hNil)) hNil)) (hCons (hv text_) hNil))))) (tNot (tTru (hCallN F__law_is (hCons (hCallN F_read_network (hCons (hv text_) hNil)) (hCons (hv s17_) hNil)))))) (fun _ => ret (hv (.bl false))) (G_law_11 draws_ s17_ lines_)
def G_law_13 (draws_ : D) (s17_ : D) (lines_ : D) : Oc Unit Empty :=
  bnd (hBM isStr fJoin (hv (.str "")) (hLc (iIt (hv lines_)) (G_law_3))) (G_law_12 draws_ s17_ lines_)
def G_law_14 (draws_ : D) (s17_ : D) : Oc Unit Empty :=
  bnd (hCallN F__law_lines (hCons (hv s17_) hNil)) (G_law_13 draws_ s17_)
def G_law_15 (net_ : D) (draws_ : D) : Oc Unit Empty :=
  (iteC (tTB (hBin fEq (hBin oMod (hBin fSub (hv draws_) (hv (.int 0))) (hv (.int 3))) (hv (.int 0)))) (G_law_2 net_) (fun _ => .nx net_)).bind (G_law_14 draws_)
def G_law_16 (script_ : List Int) (net_ : D) : Oc Unit Empty :=
  bnd (hCallN F__law_draws (hCons (hCallN F__law_cell (hCons (hw (.scr script_)) (hCons (hv (.int 1)) hNil))) (hCons (hv (.int 40)) hNil))) (G_law_15 net_)
theorem j_env {α β : Type} {N : α → En → Prop} {L : β → En → Prop} {c : EvS} {E E' : En} {g : Oc α β} (h : E = E') (p : J N L (c E') g) : J N L (c E) g := by subst h; exact p
def G_law (script_ : List Int) : Oc Unit Empty :=
  bnd (hCallN F__law_drawn (hCons (hw (.scr script_)) (hCons (hv (.int 0)) (hCons (hv (.int 8)) hNil)))) (G_law_16 script_)
theorem J_law (script_ : List Int) : J (fun _ _ => True) (fun _ _ => False) (ev_law (.scr script_ :: List.replicate 9 .un)) (G_law script_) := (j_end (j_assoc (j_setV rfl fun net_ => (j_assoc (j_setV rfl fun draws_ => (j_env (E' := [.scr script_, .val net_, .val draws_, .un, .un, .un, .un, .un, .un, .un]) rfl (j_assoc (j_ifJ (fun (s17_ : D) => [.scr script_, .val s17_, .val draws_, .un, .un, .un, .un, .un, .un, .un]) rfl (j_end (j_assoc (j_setV (x_cb (x_cons (x_lc rfl (fun name_ => pj_name rfl)) rfl)) fun net_ => (j_env (E' := [.scr script_, .val net_, .val draws_, .un, .un, .un, .un, .un, .un, .un]) rfl (j_skip (j_nx rfl)))))) (j_end (j_skip (j_nx rfl))) fun s17_ => (j_assoc (j_setV rfl fun lines_ => (j_assoc (j_setV (x_bm rfl (x_lc rfl (fun line_ => pj_name rfl))) fun text_ => (j_assoc (j_if rfl (j_ret rfl) (j_skip (j_assoc (j_if rfl (j_ret rfl) (j_skip (j_assoc (j_setO rfl fun mixed_ => (j_assoc (j_for (fun (s28_ : List D) => [.scr script_, .val s17_, .val draws_, .val lines_, .val text_, .own s28_, .un, .un, .un, .un]) mixed_ rfl rfl (fun k_ s28_ => pj_name (j_end (j_assoc (j_for (fun (s31_ : List D) => [.scr script_, .val s17_, .val draws_, .val lines_, .val text_, .own s31_, .val k_, .un, .un, .un]) s28_ rfl rfl (fun j_ s31_ => pj_name (j_end (j_app rfl rfl fun mixed_ => (j_nx rfl)))) fun s32_ => (j_app rfl rfl fun mixed_ => (j_nx rfl)))))) fun s33_ => (j_frz (j_assoc (j_setV rfl fun mixed_ => (j_env (E' := [.scr script_, .val s17_, .val draws_, .val lines_, .val text_, .val mixed_, .un, .un, .un, .un]) rfl (j_ret rfl)))))))))))))))))))))))))))
theorem ok_law {P : Program} {w : World} [Ev.WdOk w] {K : PySem.W.Frag} {mg : Str → Option Value} {base : Heap} {cls : Str → Addr} (T : Tx K mg cls) (M : Bl mg)  (c__law_is : CalX P w K mg base 8 "_law_is" (spF K cls 2 F__law_is)) (c_read_network : CalX P w K mg base 4 "read_network" (spF K cls 1 F_read_network)) (c__law_like : CalX P w K mg base 7 "_law_like" (spF K cls 2 F__law_like)) (c_network_text : CalX P w K mg base 2 "network_text" (spF K cls 1 F_network_text)) (c__law_made : CalX P w K mg base 4 "_law_made" (spF K cls 1 F__law_made)) (c__law_lines : CalX P w K mg base 1 "_law_lines" (spF K cls 1 F__law_lines)) (c__law_draws : CalX P w K mg base 1 "_law_draws" (spF K cls 2 F__law_draws)) (c__law_cell : CalX P w K mg base 1 "_law_cell" (spF K cls 2 F__law_cell)) (c__law_drawn : CalX P w K mg base 3 "_law_drawn" (spF K cls 3 F__law_drawn)) {f : Addr} {fd : FuncData} (F : Fun K "law" "law" s_law f fd) (hlaw : ∀ ns : List Int, ns.length ≤ 63 → ev_law (.scr ns :: List.replicate 9 .un) = .rt (.v (.bl true))) : FnOk P w K mg base CX0 (9 + 1) f fd ["script"] (sp_law K) := by
  refine okA (k := 9) F sc_law (fun _ => rfl) fun cdv A outer s H E hr => ?_
  have p0 : Addr := 0
  have hT : PSs (cxOf CX0 P w K mg base n_law "law" (defScope s_law) f cdv A outer s H E).nox (defBody s_law) (TS' K ⟨cls, p0⟩ noW (ev_law)) := (s_cons (s_set (ps_set (i := 1) sc_law.nd rfl (Or.inl rfl) (q_callN c__law_drawn hr (by decide) (by rfl) (q_cons (q_var (pv 0)) (q_cons q_int (q_cons q_int q_nil))) (al_cons (al_cons (al_cons al_nil))))))
   (s_frz (i := 1) (s_cons (s_set (ps_set (i := 2) sc_law.nd rfl (Or.inl rfl) (q_callN c__law_draws hr (by decide) (by rfl) (q_cons (q_callN c__law_cell hr (by decide) (by rfl) (q_cons (q_var (pv 0)) (q_cons q_int q_nil)) (al_cons (al_cons al_nil))) (q_cons q_int q_nil)) (al_cons (al_cons al_nil)))))
   (s_frz (i := 2) (s_cons (s_if (t_cmp (or_eq hr.units) s2_eq (q_mod (q_ix hr (q_var (pv 2)) q_int (fun _ _ => rfl)) q_int) q_int (nomark _))
   (s_cons (s_set (ps_set (i := 1) sc_law.nd rfl (Or.inl rfl) (q_tup (q_cons (q_lc (own := [("name", 9)]) (ew1 := noW) rfl sc_law.nd (i_seq (q_ix hr (q_var (pv 1)) q_int (fun _ _ => rfl))) (blkOk_by (own := [("name", 9)]) (N := n_law) (sc := defScope s_law) (by decide +kernel)) (fun _ _ _ _ _ => (g_name (pg_name (i := 9) sc_law.nd rfl (by first | exact Or.inl rfl | exact Or.inr rfl)))) (fun _ _ _ _ _ => ts_nil) (fun _ _ _ _ _ => (q_sub q_int (q_mul q_int (q_var (pv 9))))) (by decide)) (q_cons (q_ix hr (q_var (pv 1)) q_int (fun _ _ => rfl)) q_nil)))))
   (s_frz (i := 1) s_nil))
   s_nil)
   (s_cons (s_set (ps_set (i := 3) sc_law.nd rfl (Or.inl rfl) (q_callN c__law_lines hr (by decide) (by rfl) (q_cons (q_var (pv 1)) q_nil) (al_cons al_nil))))
   (s_frz (i := 3) (s_cons (s_set (ps_set (i := 4) sc_law.nd rfl (Or.inl rfl) (q_join (pe_bm PySem.F.plainAttrs_str PySem.F.slot_str_join PySem.F.type_str_join mt_joinS q_str (pa_cons (q_lc (own := [("line", 8)]) (ew1 := noW) rfl sc_law.nd (i_var (pv 3)) (blkOk_by (own := [("line", 8)]) (N := n_law) (sc := defScope s_law) (by decide +kernel)) (fun _ _ _ _ _ => (g_name (pg_name (i := 8) sc_law.nd rfl (by first | exact Or.inl rfl | exact Or.inr rfl)))) (fun _ _ _ _ _ => ts_nil) (fun _ _ _ _ _ => (q_add (q_var (pv 8)) q_str)) (by decide)) pa_nil)))))
   (s_frz (i := 4) (s_cons (s_if (PW.pt (w_or (t_not (t_val (q_callN c__law_like hr (by decide) (by rfl) (q_cons (q_callN c_network_text hr (by decide) (by rfl) (q_cons (q_callN c__law_made hr (by decide) (by rfl) (q_cons (q_var (pv 1)) q_nil) (al_cons al_nil)) q_nil) (al_cons al_nil)) (q_cons (q_var (pv 4)) q_nil)) (al_cons (al_cons al_nil))))) (pw_or1 (t_not (t_val (q_callN c__law_is hr (by decide) (by rfl) (q_cons (q_callN c_read_network hr (by decide) (by rfl) (q_cons (q_var (pv 4)) q_nil) (al_cons al_nil)) (q_cons (q_var (pv 1)) q_nil)) (al_cons (al_cons al_nil))))))))
   (s_one (s_ret q_bl))
   s_nil)
   (s_cons (s_if (t_not (t_val (q_callN c__law_is hr (by decide) (by rfl) (q_cons (q_callN c_read_network hr (by decide) (by rfl) (q_cons (q_join (pe_bm PySem.F.plainAttrs_str PySem.F.slot_str_join PySem.F.type_str_join mt_joinS q_str (pa_cons (q_var (pv 3)) pa_nil))) q_nil) (al_cons al_nil)) (q_cons (q_var (pv 1)) q_nil)) (al_cons (al_cons al_nil)))))
   (s_one (s_ret q_bl))
   s_nil)
   (s_cons (s_set (ps_set (i := 5) sc_law.nd rfl (Or.inl rfl) (q_lst q_nil)))
   (s_cons (s_for [6, 7] (ps_for PassesOwn.never rfl (i_rng1 (by rfl) M.range (q_len (by rfl) M.len (q_cons (q_var (pv 3)) q_nil))) (g_name (pg_name (i := 6) sc_law.nd rfl (Or.inl rfl)))
   (s_cons (s_for [7] (ps_for PassesOwn.never rfl (i_rng1 (by rfl) M.range (q_mod (q_ix hr (q_var (pv 2)) (q_add q_int (q_var (pv 6))) (fun _ _ => rfl)) q_int)) (g_name (pg_name (i := 7) sc_law.nd rfl (Or.inl rfl)))
   (s_one (s_app (ps_expr (pe_bm PySem.F.plainAttrs_list PySem.F.slot_list_append PySem.F.type_list_append mt_append (pv 5) (pa_cons (q_ix hr (q_lst (q_cons q_str (q_cons q_str (q_cons q_str (q_cons q_str (q_cons q_str q_nil)))))) (q_mod (q_ix hr (q_var (pv 2)) (q_add (q_add q_int (q_mul q_int (q_var (pv 6)))) (q_var (pv 7))) (fun _ _ => rfl)) q_int) (fun _ _ => rfl)) pa_nil)))))))
   (s_one (s_app (ps_expr (pe_bm PySem.F.plainAttrs_list PySem.F.slot_list_append PySem.F.type_list_append mt_append (pv 5) (pa_cons (q_ix hr (q_var (pv 3)) (q_var (pv 6)) (fun _ _ => rfl)) pa_nil))))))))
   (s_frz (i := 5) (s_cons (s_set (ps_set (i := 5) sc_law.nd rfl (Or.inl rfl) (q_add (q_var (pv 5)) (q_sl (q_lst (q_cons q_str (q_cons q_str q_nil))) q_ono (q_o (q_mod (q_ix hr (q_var (pv 2)) q_int (fun _ _ => rfl)) q_int))))))
   (s_frz (i := 5) (s_one (s_ret (q_and (q_callN c__law_is hr (by decide) (by rfl) (q_cons (q_callN c_read_network hr (by decide) (by rfl) (q_cons (q_join (pe_bm PySem.F.plainAttrs_str PySem.F.slot_str_join PySem.F.type_str_join mt_joinS q_str (pa_cons (q_var (pv 5)) pa_nil))) q_nil) (al_cons al_nil)) (q_cons (q_var (pv 1)) q_nil)) (al_cons (al_cons al_nil))) (pe_one (q_callN c__law_is hr (by decide) (by rfl) (q_cons (q_callN c_read_network hr (by decide) (by rfl) (q_cons (q_add (q_join (pe_bm PySem.F.plainAttrs_str PySem.F.slot_str_join PySem.F.type_str_join mt_joinS q_str (pa_cons (q_var (pv 5)) pa_nil))) q_str) q_nil) (al_cons al_nil)) (q_cons (q_var (pv 1)) q_nil)) (al_cons (al_cons al_nil)))))))))))))))))))))))
  exact ⟨_, hT, fun ns h => law_es (hlaw ns h)⟩
theorem all_mk {l : PySem.W.OpenLaw} {w : World} [Ev.WdOk w] {K : PySem.W.Frag} {h : Heap} {mg : Str → Option Value} {fa f0 f1 f2 f3 f4 f5 f6 f7 f8 f9 f10 f11 f12 f13 f14 f15 f16 f17 f18 f19 f20 f21 f22 f23 f24 f25 f26 f27 f28 f29 C_InvalidNetwork C_Network  : Addr} (X : K.In h) (G : h.Ns mainGlobals mg) (hfa : mg "law" = some (.ref fa))
    {od0 an0 od1 an1 od2 an2 od3 an3 od4 an4 od5 an5 od6 an6 od7 an7 od8 an8 od9 an9 od10 an10 od11 an11 od12 an12 od13 an13 od14 an14 od15 an15 od16 an16 od17 an17 od18 an18 od19 an19 od20 an20 od21 an21 od22 an22 od23 an23 od24 an24 od25 an25 od26 an26 od27 an27 od28 an28 od29 an29 : Option Addr} {sl0 sl1 sl2 sl3 sl4 sl5 sl6 sl7 sl8 sl9 sl10 sl11 sl12 sl13 sl14 sl15 sl16 sl17 sl18 sl19 sl20 sl21 sl22 sl23 sl24 sl25 sl26 sl27 sl28 sl29 : Array (Option Value)} {oc0 dc0 pm0 cd0 ct0 kV0 oc1 dc1 pm1 cd1 ct1 kV1 oc2 dc2 pm2 cd2 ct2 kV2 oc3 dc3 pm3 cd3 ct3 kV3 oc4 dc4 pm4 cd4 ct4 kV4 oc5 dc5 pm5 cd5 ct5 kV5 oc6 dc6 pm6 cd6 ct6 kV6 oc7 dc7 pm7 cd7 ct7 kV7 oc8 dc8 pm8 cd8 ct8 kV8 oc9 dc9 pm9 cd9 ct9 kV9 oc10 dc10 pm10 cd10 ct10 kV10 oc11 dc11 pm11 cd11 ct11 kV11 oc12 dc12 pm12 cd12 ct12 kV12 oc13 dc13 pm13 cd13 ct13 kV13 oc14 dc14 pm14 cd14 ct14 kV14 oc15 dc15 pm15 cd15 ct15 kV15 oc16 dc16 pm16 cd16 ct16 kV16 oc17 dc17 pm17 cd17 ct17 kV17 oc18 dc18 pm18 cd18 ct18 kV18 oc19 dc19 pm19 cd19 ct19 kV19 oc20 dc20 pm20 cd20 ct20 kV20 oc21 dc21 pm21 cd21 ct21 kV21 oc22 dc22 pm22 cd22 ct22 kV22 oc23 dc23 pm23 cd23 ct23 kV23 oc24 dc24 pm24 cd24 ct24 kV24 oc25 dc25 pm25 cd25 ct25 kV25 oc26 dc26 pm26 cd26 ct26 kV26 oc27 dc27 pm27 cd27 ct27 kV27 oc28 dc28 pm28 cd28 ct28 kV28 oc29 dc29 pm29 cd29 ct29 kV29 : Value} {tk_MOST_DIGITS : Nat}
    (g_InvalidNetwork : PySem.W.nsIn K mainGlobals "InvalidNetwork" = some (some (.ref C_InvalidNetwork)))
    (g_Network : PySem.W.nsIn K mainGlobals "Network" = some (some (.ref C_Network)))
    (a0 : PySem.W.nsIn K mainGlobals "_wall" = some (some (.ref f0)))
    (l0 : K.lookup f0 = some ⟨oc0, od0, .func (PySem.W.fnOf "_wall" "_wall" (defArgs s__wall) (defBody s__wall) (defScope s__wall) .none kV0 dc0 pm0 an0 cd0 ct0), sl0⟩)
    (c0 : PySem.W.codeIn K cd0 "_wall" = true)
    (k0 : PySem.W.keepIn K (.ref f0) = true)
    (a1 : PySem.W.nsIn K mainGlobals "_check_names" = some (some (.ref f1)))
    (l1 : K.lookup f1 = some ⟨oc1, od1, .func (PySem.W.fnOf "_check_names" "_check_names" (defArgs s__check_names) (defBody s__check_names) (defScope s__check_names) .none kV1 dc1 pm1 an1 cd1 ct1), sl1⟩)
    (c1 : PySem.W.codeIn K cd1 "_check_names" = true)
    (k1 : PySem.W.keepIn K (.ref f1) = true)
    (a2 : PySem.W.findIn K (.ref C_Network) "_check_returns" = some (some (.ref f2)))
    (i2 : PySem.W.isFn K (.ref f2) = true)
    (l2 : K.lookup f2 = some ⟨oc2, od2, .func (PySem.W.fnOf "_check_returns" "Network._check_returns" (defArgs s_Network__check_returns) (defBody s_Network__check_returns) (defScope s_Network__check_returns) .none kV2 dc2 pm2 an2 cd2 ct2), sl2⟩)
    (c2 : PySem.W.codeIn K cd2 "Network._check_returns" = true)
    (k2 : PySem.W.keepIn K (.ref f2) = true)
    (a3 : PySem.W.nsIn K mainGlobals "_check_row" = some (some (.ref f3)))
    (l3 : K.lookup f3 = some ⟨oc3, od3, .func (PySem.W.fnOf "_check_row" "_check_row" (defArgs s__check_row) (defBody s__check_row) (defScope s__check_row) .none kV3 dc3 pm3 an3 cd3 ct3), sl3⟩)
    (c3 : PySem.W.codeIn K cd3 "_check_row" = true)
    (k3 : PySem.W.keepIn K (.ref f3) = true)
    (a4 : PySem.W.nsIn K mainGlobals "_ports_by_neighbor" = some (some (.ref f4)))
    (l4 : K.lookup f4 = some ⟨oc4, od4, .func (PySem.W.fnOf "_ports_by_neighbor" "_ports_by_neighbor" (defArgs s__ports_by_neighbor) (defBody s__ports_by_neighbor) (defScope s__ports_by_neighbor) .none kV4 dc4 pm4 an4 cd4 ct4), sl4⟩)
    (c4 : PySem.W.codeIn K cd4 "_ports_by_neighbor" = true)
    (k4 : PySem.W.keepIn K (.ref f4) = true)
    (a5 : PySem.W.findIn K (.ref C_Network) "__init__" = some (some (.ref f5)))
    (i5 : PySem.W.isFn K (.ref f5) = true)
    (l5 : K.lookup f5 = some ⟨oc5, od5, .func (PySem.W.fnOf "__init__" "Network.__init__" (defArgs s_Network___init__) (defBody s_Network___init__) (defScope s_Network___init__) .none kV5 dc5 pm5 an5 cd5 ct5), sl5⟩)
    (c5 : PySem.W.codeIn K cd5 "Network.__init__" = true)
    (k5 : PySem.W.keepIn K (.ref f5) = true)
    (a6 : PySem.W.findIn K (.ref C_Network) "size" = some (some (.ref f6)))
    (i6 : PySem.W.isFn K (.ref f6) = true)
    (l6 : K.lookup f6 = some ⟨oc6, od6, .func (PySem.W.fnOf "size" "Network.size" (defArgs s_Network_size) (defBody s_Network_size) (defScope s_Network_size) .none kV6 dc6 pm6 an6 cd6 ct6), sl6⟩)
    (c6 : PySem.W.codeIn K cd6 "Network.size" = true)
    (k6 : PySem.W.keepIn K (.ref f6) = true)
    (a7 : PySem.W.findIn K (.ref C_Network) "names" = some (some (.ref f7)))
    (i7 : PySem.W.isFn K (.ref f7) = true)
    (l7 : K.lookup f7 = some ⟨oc7, od7, .func (PySem.W.fnOf "names" "Network.names" (defArgs s_Network_names) (defBody s_Network_names) (defScope s_Network_names) .none kV7 dc7 pm7 an7 cd7 ct7), sl7⟩)
    (c7 : PySem.W.codeIn K cd7 "Network.names" = true)
    (k7 : PySem.W.keepIn K (.ref f7) = true)
    (a8 : PySem.W.findIn K (.ref C_Network) "neighbors" = some (some (.ref f8)))
    (i8 : PySem.W.isFn K (.ref f8) = true)
    (l8 : K.lookup f8 = some ⟨oc8, od8, .func (PySem.W.fnOf "neighbors" "Network.neighbors" (defArgs s_Network_neighbors) (defBody s_Network_neighbors) (defScope s_Network_neighbors) .none kV8 dc8 pm8 an8 cd8 ct8), sl8⟩)
    (c8 : PySem.W.codeIn K cd8 "Network.neighbors" = true)
    (k8 : PySem.W.keepIn K (.ref f8) = true)
    (a9 : PySem.W.findIn K (.ref C_Network) "degree" = some (some (.ref f9)))
    (i9 : PySem.W.isFn K (.ref f9) = true)
    (l9 : K.lookup f9 = some ⟨oc9, od9, .func (PySem.W.fnOf "degree" "Network.degree" (defArgs s_Network_degree) (defBody s_Network_degree) (defScope s_Network_degree) .none kV9 dc9 pm9 an9 cd9 ct9), sl9⟩)
    (c9 : PySem.W.codeIn K cd9 "Network.degree" = true)
    (k9 : PySem.W.keepIn K (.ref f9) = true)
    (a10 : PySem.W.findIn K (.ref C_Network) "far_port" = some (some (.ref f10)))
    (i10 : PySem.W.isFn K (.ref f10) = true)
    (l10 : K.lookup f10 = some ⟨oc10, od10, .func (PySem.W.fnOf "far_port" "Network.far_port" (defArgs s_Network_far_port) (defBody s_Network_far_port) (defScope s_Network_far_port) .none kV10 dc10 pm10 an10 cd10 ct10), sl10⟩)
    (c10 : PySem.W.codeIn K cd10 "Network.far_port" = true)
    (k10 : PySem.W.keepIn K (.ref f10) = true)
    (a11 : PySem.W.findIn K (.ref C_Network) "links" = some (some (.ref f11)))
    (i11 : PySem.W.isFn K (.ref f11) = true)
    (l11 : K.lookup f11 = some ⟨oc11, od11, .func (PySem.W.fnOf "links" "Network.links" (defArgs s_Network_links) (defBody s_Network_links) (defScope s_Network_links) .none kV11 dc11 pm11 an11 cd11 ct11), sl11⟩)
    (c11 : PySem.W.codeIn K cd11 "Network.links" = true)
    (k11 : PySem.W.keepIn K (.ref f11) = true)
    (a12 : PySem.W.nsIn K mainGlobals "network_text" = some (some (.ref f12)))
    (l12 : K.lookup f12 = some ⟨oc12, od12, .func (PySem.W.fnOf "network_text" "network_text" (defArgs s_network_text) (defBody s_network_text) (defScope s_network_text) .none kV12 dc12 pm12 an12 cd12 ct12), sl12⟩)
    (c12 : PySem.W.codeIn K cd12 "network_text" = true)
    (k12 : PySem.W.keepIn K (.ref f12) = true)
    (a13 : PySem.W.nsIn K mainGlobals "_lines_of" = some (some (.ref f13)))
    (l13 : K.lookup f13 = some ⟨oc13, od13, .func (PySem.W.fnOf "_lines_of" "_lines_of" (defArgs s__lines_of) (defBody s__lines_of) (defScope s__lines_of) .none kV13 dc13 pm13 an13 cd13 ct13), sl13⟩)
    (c13 : PySem.W.codeIn K cd13 "_lines_of" = true)
    (k13 : PySem.W.keepIn K (.ref f13) = true)
    (a14 : PySem.W.nsIn K mainGlobals "is_number" = some (some (.ref f14)))
    (l14 : K.lookup f14 = some ⟨oc14, od14, .func (PySem.W.fnOf "is_number" "is_number" (defArgs s_is_number) (defBody s_is_number) (defScope s_is_number) .none kV14 dc14 pm14 an14 cd14 ct14), sl14⟩)
    (c14 : PySem.W.codeIn K cd14 "is_number" = true)
    (k14 : PySem.W.keepIn K (.ref f14) = true)
    (a15 : PySem.W.nsIn K mainGlobals "_names_in" = some (some (.ref f15)))
    (l15 : K.lookup f15 = some ⟨oc15, od15, .func (PySem.W.fnOf "_names_in" "_names_in" (defArgs s__names_in) (defBody s__names_in) (defScope s__names_in) .none kV15 dc15 pm15 an15 cd15 ct15), sl15⟩)
    (c15 : PySem.W.codeIn K cd15 "_names_in" = true)
    (k15 : PySem.W.keepIn K (.ref f15) = true)
    (a16 : PySem.W.nsIn K mainGlobals "_read_rows" = some (some (.ref f16)))
    (l16 : K.lookup f16 = some ⟨oc16, od16, .func (PySem.W.fnOf "_read_rows" "_read_rows" (defArgs s__read_rows) (defBody s__read_rows) (defScope s__read_rows) .none kV16 dc16 pm16 an16 cd16 ct16), sl16⟩)
    (c16 : PySem.W.codeIn K cd16 "_read_rows" = true)
    (k16 : PySem.W.keepIn K (.ref f16) = true)
    (a17 : PySem.W.nsIn K mainGlobals "_check_others" = some (some (.ref f17)))
    (l17 : K.lookup f17 = some ⟨oc17, od17, .func (PySem.W.fnOf "_check_others" "_check_others" (defArgs s__check_others) (defBody s__check_others) (defScope s__check_others) .none kV17 dc17 pm17 an17 cd17 ct17), sl17⟩)
    (c17 : PySem.W.codeIn K cd17 "_check_others" = true)
    (k17 : PySem.W.keepIn K (.ref f17) = true)
    (a18 : PySem.W.nsIn K mainGlobals "read_network" = some (some (.ref f18)))
    (l18 : K.lookup f18 = some ⟨oc18, od18, .func (PySem.W.fnOf "read_network" "read_network" (defArgs s_read_network) (defBody s_read_network) (defScope s_read_network) .none kV18 dc18 pm18 an18 cd18 ct18), sl18⟩)
    (c18 : PySem.W.codeIn K cd18 "read_network" = true)
    (k18 : PySem.W.keepIn K (.ref f18) = true)
    (a19 : PySem.W.nsIn K mainGlobals "_law_cell" = some (some (.ref f19)))
    (l19 : K.lookup f19 = some ⟨oc19, od19, .func (PySem.W.fnOf "_law_cell" "_law_cell" (defArgs s__law_cell) (defBody s__law_cell) (defScope s__law_cell) .none kV19 dc19 pm19 an19 cd19 ct19), sl19⟩)
    (c19 : PySem.W.codeIn K cd19 "_law_cell" = true)
    (k19 : PySem.W.keepIn K (.ref f19) = true)
    (a20 : PySem.W.nsIn K mainGlobals "_law_draw_net" = some (some (.ref f20)))
    (l20 : K.lookup f20 = some ⟨oc20, od20, .func (PySem.W.fnOf "_law_draw_net" "_law_draw_net" (defArgs s__law_draw_net) (defBody s__law_draw_net) (defScope s__law_draw_net) .none kV20 dc20 pm20 an20 cd20 ct20), sl20⟩)
    (c20 : PySem.W.codeIn K cd20 "_law_draw_net" = true)
    (k20 : PySem.W.keepIn K (.ref f20) = true)
    (a21 : PySem.W.nsIn K mainGlobals "_law_shape_net" = some (some (.ref f21)))
    (l21 : K.lookup f21 = some ⟨oc21, od21, .func (PySem.W.fnOf "_law_shape_net" "_law_shape_net" (defArgs s__law_shape_net) (defBody s__law_shape_net) (defScope s__law_shape_net) .none kV21 dc21 pm21 an21 cd21 ct21), sl21⟩)
    (c21 : PySem.W.codeIn K cd21 "_law_shape_net" = true)
    (k21 : PySem.W.keepIn K (.ref f21) = true)
    (a22 : PySem.W.nsIn K mainGlobals "_law_net" = some (some (.ref f22)))
    (l22 : K.lookup f22 = some ⟨oc22, od22, .func (PySem.W.fnOf "_law_net" "_law_net" (defArgs s__law_net) (defBody s__law_net) (defScope s__law_net) .none kV22 dc22 pm22 an22 cd22 ct22), sl22⟩)
    (c22 : PySem.W.codeIn K cd22 "_law_net" = true)
    (k22 : PySem.W.keepIn K (.ref f22) = true)
    (a23 : PySem.W.nsIn K mainGlobals "_law_draws" = some (some (.ref f23)))
    (l23 : K.lookup f23 = some ⟨oc23, od23, .func (PySem.W.fnOf "_law_draws" "_law_draws" (defArgs s__law_draws) (defBody s__law_draws) (defScope s__law_draws) .none kV23 dc23 pm23 an23 cd23 ct23), sl23⟩)
    (c23 : PySem.W.codeIn K cd23 "_law_draws" = true)
    (k23 : PySem.W.keepIn K (.ref f23) = true)
    (a24 : PySem.W.nsIn K mainGlobals "_law_like" = some (some (.ref f24)))
    (l24 : K.lookup f24 = some ⟨oc24, od24, .func (PySem.W.fnOf "_law_like" "_law_like" (defArgs s__law_like) (defBody s__law_like) (defScope s__law_like) .none kV24 dc24 pm24 an24 cd24 ct24), sl24⟩)
    (c24 : PySem.W.codeIn K cd24 "_law_like" = true)
    (k24 : PySem.W.keepIn K (.ref f24) = true)
    (a25 : PySem.W.nsIn K mainGlobals "_law_made" = some (some (.ref f25)))
    (l25 : K.lookup f25 = some ⟨oc25, od25, .func (PySem.W.fnOf "_law_made" "_law_made" (defArgs s__law_made) (defBody s__law_made) (defScope s__law_made) .none kV25 dc25 pm25 an25 cd25 ct25), sl25⟩)
    (c25 : PySem.W.codeIn K cd25 "_law_made" = true)
    (k25 : PySem.W.keepIn K (.ref f25) = true)
    (a26 : PySem.W.nsIn K mainGlobals "_law_drawn" = some (some (.ref f26)))
    (l26 : K.lookup f26 = some ⟨oc26, od26, .func (PySem.W.fnOf "_law_drawn" "_law_drawn" (defArgs s__law_drawn) (defBody s__law_drawn) (defScope s__law_drawn) .none kV26 dc26 pm26 an26 cd26 ct26), sl26⟩)
    (c26 : PySem.W.codeIn K cd26 "_law_drawn" = true)
    (k26 : PySem.W.keepIn K (.ref f26) = true)
    (a27 : PySem.W.nsIn K mainGlobals "_law_lines" = some (some (.ref f27)))
    (l27 : K.lookup f27 = some ⟨oc27, od27, .func (PySem.W.fnOf "_law_lines" "_law_lines" (defArgs s__law_lines) (defBody s__law_lines) (defScope s__law_lines) .none kV27 dc27 pm27 an27 cd27 ct27), sl27⟩)
    (c27 : PySem.W.codeIn K cd27 "_law_lines" = true)
    (k27 : PySem.W.keepIn K (.ref f27) = true)
    (a28 : PySem.W.nsIn K mainGlobals "_law_is" = some (some (.ref f28)))
    (l28 : K.lookup f28 = some ⟨oc28, od28, .func (PySem.W.fnOf "_law_is" "_law_is" (defArgs s__law_is) (defBody s__law_is) (defScope s__law_is) .none kV28 dc28 pm28 an28 cd28 ct28), sl28⟩)
    (c28 : PySem.W.codeIn K cd28 "_law_is" = true)
    (k28 : PySem.W.keepIn K (.ref f28) = true)
    (a29 : PySem.W.nsIn K mainGlobals "law" = some (some (.ref f29)))
    (l29 : K.lookup f29 = some ⟨oc29, od29, .func (PySem.W.fnOf "law" "law" (defArgs s_law) (defBody s_law) (defScope s_law) .none kV29 dc29 pm29 an29 cd29 ct29), sl29⟩)
    (c29 : PySem.W.codeIn K cd29 "law" = true)
    (k29 : PySem.W.keepIn K (.ref f29) = true)
    (pg_Network : PySem.W.plainGet K C_Network Str.empty = true)
    (hd_Network : PySem.W.hasDictIn K C_Network = true)
    (po_Network : PySem.W.plainOver K C_Network = true)
    (sa_Network : PySem.W.findIn K (.ref C_Network) "__setattr__" = some (some (.builtin "object.__setattr__")))
    (mk_Network : PySem.W.makesIn K C_Network = true)
    (kc_Network : PySem.W.keepIn K (.ref C_Network) = true)
    (nf_Network__names : PySem.W.findIn K (.ref C_Network) "_names" = some none)
    (nf_Network__neighbors : PySem.W.findIn K (.ref C_Network) "_neighbors" = some none)
    (nf_Network__ports : PySem.W.findIn K (.ref C_Network) "_ports" = some none)
    (xF_InvalidNetwork : PySem.W.excIn K C_InvalidNetwork [.type "ValueError", .type "Exception", .type "BaseException", .type "object"] "ValueError.__new__" = true)
    (kF_InvalidNetwork : PySem.W.keepIn K (.ref C_InvalidNetwork) = true)
    (bF_InvalidNetwork : PySem.W.subIn K (.ref C_InvalidNetwork) (.type "BaseException") = some true)
    (tF_InvalidNetwork : PySem.W.typeIn K (.ref C_InvalidNetwork) = some (.type "type"))
    (iF_InvalidNetwork : PySem.W.isClsIn K C_InvalidNetwork = true)
    (sF_InvalidNetwork : PySem.W.subIn K (.ref C_InvalidNetwork) (.ref C_InvalidNetwork) = some true)
    (z_abs : PySem.W.nsIn K mainGlobals "abs" = some none)
    (z_all : PySem.W.nsIn K mainGlobals "all" = some none)
    (z_bool : PySem.W.nsIn K mainGlobals "bool" = some none)
    (z_enumerate : PySem.W.nsIn K mainGlobals "enumerate" = some none)
    (z_int : PySem.W.nsIn K mainGlobals "int" = some none)
    (z_isinstance : PySem.W.nsIn K mainGlobals "isinstance" = some none)
    (z_len : PySem.W.nsIn K mainGlobals "len" = some none)
    (z_list : PySem.W.nsIn K mainGlobals "list" = some none)
    (z_min : PySem.W.nsIn K mainGlobals "min" = some none)
    (z_range : PySem.W.nsIn K mainGlobals "range" = some none)
    (z_set : PySem.W.nsIn K mainGlobals "set" = some none)
    (z_str : PySem.W.nsIn K mainGlobals "str" = some none)
    (z_tuple : PySem.W.nsIn K mainGlobals "tuple" = some none)
    (kk_MOST_DIGITS : PySem.W.nsIn K mainGlobals "MOST_DIGITS" = some (some (.int 9 tk_MOST_DIGITS)))
    (hlaw : ∀ ns : List Int, ns.length ≤ 63 → ev_law (.scr ns :: List.replicate 9 .un) = .rt (.v (.bl true))) :
    ∃ (fd : FuncData) (cs : List (Addr × Addr)), (∀ p ∈ cs, h.get? p.2 = some { cls := .none, data := .fields #[] }) ∧ (∀ p ∈ cs, K.lookup p.2 = none) ∧ (∀ p ∈ cs, PySem.W.codeHdIn K p.1 p.2 = true) ∧ cs = [] ∧ (∀ (s : Shared) (v : Value), BindsTo s fd ⟨[v], []⟩ [("script", v)]) ∧ ∀ base : Heap, K.In base → base.Ns mainGlobals mg → (∀ p ∈ cs, LamX.TabB base mg p.1 p.2) → FnOk l.prog w K mg base CX0 10 fa fd ["script"] (sp_law K) := by
  have e := hfa.symm.trans (PySem.W.mg_of X G a29)
  cases e
  have M : Bl mg := ⟨trivial, PySem.W.mg_none_of X G z_abs, PySem.W.mg_none_of X G z_all, PySem.W.mg_none_of X G z_bool, PySem.W.mg_none_of X G z_enumerate, PySem.W.mg_none_of X G z_int, PySem.W.mg_none_of X G z_isinstance, PySem.W.mg_none_of X G z_len, PySem.W.mg_none_of X G z_list, PySem.W.mg_none_of X G z_min, PySem.W.mg_none_of X G z_range, PySem.W.mg_none_of X G z_set, PySem.W.mg_none_of X G z_str, PySem.W.mg_none_of X G z_tuple⟩
  let cls : Str → Addr := fun x => if x = "InvalidNetwork" then C_InvalidNetwork else if x = "Network" then C_Network else 0
  have ec_InvalidNetwork : cls "InvalidNetwork" = C_InvalidNetwork := rfl
  have ec_Network : cls "Network" = C_Network := rfl
  have T : Tx K mg cls := ⟨fun p0 => tf_cons (c := "Network") (f := "_names") ⟨pg_Network, hd_Network, po_Network, sa_Network⟩ nf_Network__names (tf_cons (c := "Network") (f := "_neighbors") ⟨pg_Network, hd_Network, po_Network, sa_Network⟩ nf_Network__neighbors (tf_cons (c := "Network") (f := "_ports") ⟨pg_Network, hd_Network, po_Network, sa_Network⟩ nf_Network__ports (tf_nil))),
    ⟨PySem.W.mg_of X G g_InvalidNetwork, xF_InvalidNetwork, kF_InvalidNetwork, bF_InvalidNetwork, tF_InvalidNetwork, exc_self bF_InvalidNetwork iF_InvalidNetwork tF_InvalidNetwork sF_InvalidNetwork⟩,
    ⟨pg_Network, hd_Network, po_Network, sa_Network⟩,
    ⟨_, PySem.W.mg_of X G kk_MOST_DIGITS⟩⟩
  have D__wall : DefAt K mg "_wall" s__wall ["k"] := ⟨_, _, (fun_mk (st := s__wall) l0 c0 k0), PySem.W.mg_of X G a0, (fun_mk (st := s__wall) l0 c0 k0).binds (ps := ["k"]) fun _ _ _ _ _ _ us hl => match us, hl with | [_], _ => rfl⟩
  have D__check_names : DefAt K mg "_check_names" s__check_names ["names"] := ⟨_, _, (fun_mk (st := s__check_names) l1 c1 k1), PySem.W.mg_of X G a1, (fun_mk (st := s__check_names) l1 c1 k1).binds (ps := ["names"]) fun _ _ _ _ _ _ us hl => match us, hl with | [_], _ => rfl⟩
  have D_Network__check_returns : MetAt K (cls "Network") "_check_returns" "Network._check_returns" s_Network__check_returns ["self"] := ⟨T.cl_Network, _, _, (fun_mk (st := s_Network__check_returns) l2 c2 k2), ⟨a2, i2, k2⟩, (fun_mk (st := s_Network__check_returns) l2 c2 k2).binds (ps := ["self"]) fun _ _ _ _ _ _ us hl => match us, hl with | [_], _ => rfl⟩
  have D__check_row : DefAt K mg "_check_row" s__check_row ["node", "row", "size"] := ⟨_, _, (fun_mk (st := s__check_row) l3 c3 k3), PySem.W.mg_of X G a3, (fun_mk (st := s__check_row) l3 c3 k3).binds (ps := ["node", "row", "size"]) fun _ _ _ _ _ _ us hl => match us, hl with | [_, _, _], _ => rfl⟩
  have D__ports_by_neighbor : DefAt K mg "_ports_by_neighbor" s__ports_by_neighbor ["row"] := ⟨_, _, (fun_mk (st := s__ports_by_neighbor) l4 c4 k4), PySem.W.mg_of X G a4, (fun_mk (st := s__ports_by_neighbor) l4 c4 k4).binds (ps := ["row"]) fun _ _ _ _ _ _ us hl => match us, hl with | [_], _ => rfl⟩
  have D_Network___init__ : MakAt K mg (cls "Network") "Network" "Network.__init__" s_Network___init__ ["self", "names", "neighbors"] := ⟨_, _, (fun_mk (st := s_Network___init__) l5 c5 k5), ⟨mk_Network, a5, i5, kc_Network⟩, PySem.W.mg_of X G g_Network, (fun_mk (st := s_Network___init__) l5 c5 k5).binds (ps := ["self", "names", "neighbors"]) fun _ _ _ _ _ _ us hl => match us, hl with | [_, _, _], _ => rfl⟩
  have D_Network_size : MetAt K (cls "Network") "size" "Network.size" s_Network_size ["self"] := ⟨T.cl_Network, _, _, (fun_mk (st := s_Network_size) l6 c6 k6), ⟨a6, i6, k6⟩, (fun_mk (st := s_Network_size) l6 c6 k6).binds (ps := ["self"]) fun _ _ _ _ _ _ us hl => match us, hl with | [_], _ => rfl⟩
  have D_Network_names : MetAt K (cls "Network") "names" "Network.names" s_Network_names ["self"] := ⟨T.cl_Network, _, _, (fun_mk (st := s_Network_names) l7 c7 k7), ⟨a7, i7, k7⟩, (fun_mk (st := s_Network_names) l7 c7 k7).binds (ps := ["self"]) fun _ _ _ _ _ _ us hl => match us, hl with | [_], _ => rfl⟩
  have D_Network_neighbors : MetAt K (cls "Network") "neighbors" "Network.neighbors" s_Network_neighbors ["self", "node"] := ⟨T.cl_Network, _, _, (fun_mk (st := s_Network_neighbors) l8 c8 k8), ⟨a8, i8, k8⟩, (fun_mk (st := s_Network_neighbors) l8 c8 k8).binds (ps := ["self", "node"]) fun _ _ _ _ _ _ us hl => match us, hl with | [_, _], _ => rfl⟩
  have D_Network_degree : MetAt K (cls "Network") "degree" "Network.degree" s_Network_degree ["self", "node"] := ⟨T.cl_Network, _, _, (fun_mk (st := s_Network_degree) l9 c9 k9), ⟨a9, i9, k9⟩, (fun_mk (st := s_Network_degree) l9 c9 k9).binds (ps := ["self", "node"]) fun _ _ _ _ _ _ us hl => match us, hl with | [_, _], _ => rfl⟩
  have D_Network_far_port : MetAt K (cls "Network") "far_port" "Network.far_port" s_Network_far_port ["self", "node", "port"] := ⟨T.cl_Network, _, _, (fun_mk (st := s_Network_far_port) l10 c10 k10), ⟨a10, i10, k10⟩, (fun_mk (st := s_Network_far_port) l10 c10 k10).binds (ps := ["self", "node", "port"]) fun _ _ _ _ _ _ us hl => match us, hl with | [_, _, _], _ => rfl⟩
  have D_Network_links : MetAt K (cls "Network") "links" "Network.links" s_Network_links ["self"] := ⟨T.cl_Network, _, _, (fun_mk (st := s_Network_links) l11 c11 k11), ⟨a11, i11, k11⟩, (fun_mk (st := s_Network_links) l11 c11 k11).binds (ps := ["self"]) fun _ _ _ _ _ _ us hl => match us, hl with | [_], _ => rfl⟩
  have D_network_text : DefAt K mg "network_text" s_network_text ["network"] := ⟨_, _, (fun_mk (st := s_network_text) l12 c12 k12), PySem.W.mg_of X G a12, (fun_mk (st := s_network_text) l12 c12 k12).binds (ps := ["network"]) fun _ _ _ _ _ _ us hl => match us, hl with | [_], _ => rfl⟩
  have D__lines_of : DefAt K mg "_lines_of" s__lines_of ["text"] := ⟨_, _, (fun_mk (st := s__lines_of) l13 c13 k13), PySem.W.mg_of X G a13, (fun_mk (st := s__lines_of) l13 c13 k13).binds (ps := ["text"]) fun _ _ _ _ _ _ us hl => match us, hl with | [_], _ => rfl⟩
  have D_is_number : DefAt K mg "is_number" s_is_number ["word"] := ⟨_, _, (fun_mk (st := s_is_number) l14 c14 k14), PySem.W.mg_of X G a14, (fun_mk (st := s_is_number) l14 c14 k14).binds (ps := ["word"]) fun _ _ _ _ _ _ us hl => match us, hl with | [_], _ => rfl⟩
  have D__names_in : DefAt K mg "_names_in" s__names_in ["line"] := ⟨_, _, (fun_mk (st := s__names_in) l15 c15 k15), PySem.W.mg_of X G a15, (fun_mk (st := s__names_in) l15 c15 k15).binds (ps := ["line"]) fun _ _ _ _ _ _ us hl => match us, hl with | [_], _ => rfl⟩
  have D__read_rows : DefAt K mg "_read_rows" s__read_rows ["lines"] := ⟨_, _, (fun_mk (st := s__read_rows) l16 c16 k16), PySem.W.mg_of X G a16, (fun_mk (st := s__read_rows) l16 c16 k16).binds (ps := ["lines"]) fun _ _ _ _ _ _ us hl => match us, hl with | [_], _ => rfl⟩
  have D__check_others : DefAt K mg "_check_others" s__check_others ["rows"] := ⟨_, _, (fun_mk (st := s__check_others) l17 c17 k17), PySem.W.mg_of X G a17, (fun_mk (st := s__check_others) l17 c17 k17).binds (ps := ["rows"]) fun _ _ _ _ _ _ us hl => match us, hl with | [_], _ => rfl⟩
  have D_read_network : DefAt K mg "read_network" s_read_network ["text"] := ⟨_, _, (fun_mk (st := s_read_network) l18 c18 k18), PySem.W.mg_of X G a18, (fun_mk (st := s_read_network) l18 c18 k18).binds (ps := ["text"]) fun _ _ _ _ _ _ us hl => match us, hl with | [_], _ => rfl⟩
  have D__law_cell : DefAt K mg "_law_cell" s__law_cell ["script", "k"] := ⟨_, _, (fun_mk (st := s__law_cell) l19 c19 k19), PySem.W.mg_of X G a19, (fun_mk (st := s__law_cell) l19 c19 k19).binds (ps := ["script", "k"]) fun _ _ _ _ _ _ us hl => match us, hl with | [_, _], _ => rfl⟩
  have D__law_draw_net : DefAt K mg "_law_draw_net" s__law_draw_net ["number", "most", "degree"] := ⟨_, _, (fun_mk (st := s__law_draw_net) l20 c20 k20), PySem.W.mg_of X G a20, (fun_mk (st := s__law_draw_net) l20 c20 k20).binds (ps := ["number", "most", "degree"]) fun _ _ _ _ _ _ us hl => match us, hl with | [_, _, _], _ => rfl⟩
  have D__law_shape_net : DefAt K mg "_law_shape_net" s__law_shape_net ["number", "most"] := ⟨_, _, (fun_mk (st := s__law_shape_net) l21 c21 k21), PySem.W.mg_of X G a21, (fun_mk (st := s__law_shape_net) l21 c21 k21).binds (ps := ["number", "most"]) fun _ _ _ _ _ _ us hl => match us, hl with | [_, _], _ => rfl⟩
  have D__law_net : DefAt K mg "_law_net" s__law_net ["number", "most"] := ⟨_, _, (fun_mk (st := s__law_net) l22 c22 k22), PySem.W.mg_of X G a22, (fun_mk (st := s__law_net) l22 c22 k22).binds (ps := ["number", "most"]) fun _ _ _ _ _ _ us hl => match us, hl with | [_, _], _ => rfl⟩
  have D__law_draws : DefAt K mg "_law_draws" s__law_draws ["cell", "count"] := ⟨_, _, (fun_mk (st := s__law_draws) l23 c23 k23), PySem.W.mg_of X G a23, (fun_mk (st := s__law_draws) l23 c23 k23).binds (ps := ["cell", "count"]) fun _ _ _ _ _ _ us hl => match us, hl with | [_, _], _ => rfl⟩
  have D__law_like : DefAt K mg "_law_like" s__law_like ["actual", "due"] := ⟨_, _, (fun_mk (st := s__law_like) l24 c24 k24), PySem.W.mg_of X G a24, (fun_mk (st := s__law_like) l24 c24 k24).binds (ps := ["actual", "due"]) fun _ _ _ _ _ _ us hl => match us, hl with | [_, _], _ => rfl⟩
  have D__law_made : DefAt K mg "_law_made" s__law_made ["net"] := ⟨_, _, (fun_mk (st := s__law_made) l25 c25 k25), PySem.W.mg_of X G a25, (fun_mk (st := s__law_made) l25 c25 k25).binds (ps := ["net"]) fun _ _ _ _ _ _ us hl => match us, hl with | [_], _ => rfl⟩
  have D__law_drawn : DefAt K mg "_law_drawn" s__law_drawn ["script", "k", "most"] := ⟨_, _, (fun_mk (st := s__law_drawn) l26 c26 k26), PySem.W.mg_of X G a26, (fun_mk (st := s__law_drawn) l26 c26 k26).binds (ps := ["script", "k", "most"]) fun _ _ _ _ _ _ us hl => match us, hl with | [_, _, _], _ => rfl⟩
  have D__law_lines : DefAt K mg "_law_lines" s__law_lines ["net"] := ⟨_, _, (fun_mk (st := s__law_lines) l27 c27 k27), PySem.W.mg_of X G a27, (fun_mk (st := s__law_lines) l27 c27 k27).binds (ps := ["net"]) fun _ _ _ _ _ _ us hl => match us, hl with | [_], _ => rfl⟩
  have D__law_is : DefAt K mg "_law_is" s__law_is ["network", "net"] := ⟨_, _, (fun_mk (st := s__law_is) l28 c28 k28), PySem.W.mg_of X G a28, (fun_mk (st := s__law_is) l28 c28 k28).binds (ps := ["network", "net"]) fun _ _ _ _ _ _ us hl => match us, hl with | [_, _], _ => rfl⟩
  refine ⟨PySem.W.fnOf "law" "law" (defArgs s_law) (defBody s_law) (defScope s_law) .none kV29 dc29 pm29 an29 cd29 ct29, [], (fun p hp => nomatch hp), (fun p hp => nomatch hp), (fun p hp => nomatch hp), rfl, fun s v => .of_eq rfl, fun base _ _ hTB => ?_⟩
  have c__wall := ok__wall (P := l.prog) (w := w) (base := base) T M  D__wall
  have c__check_names := ok__check_names (P := l.prog) (w := w) (base := base) T M  D__check_names
  have m_Network__check_returns := ok_Network__check_returns (P := l.prog) (w := w) (base := base) T M  D_Network__check_returns
  have c__check_row := ok__check_row (P := l.prog) (w := w) (base := base) T M  D__check_row
  have c__ports_by_neighbor := ok__ports_by_neighbor (P := l.prog) (w := w) (base := base) T M  D__ports_by_neighbor
  have k_Network := ok_Network___init__ (P := l.prog) (w := w) (base := base) T M c__check_names c__check_row c__ports_by_neighbor m_Network__check_returns D_Network___init__
  have m_Network_size := ok_Network_size (P := l.prog) (w := w) (base := base) T M  D_Network_size
  have m_Network_names := ok_Network_names (P := l.prog) (w := w) (base := base) T M  D_Network_names
  have m_Network_neighbors := ok_Network_neighbors (P := l.prog) (w := w) (base := base) T M  D_Network_neighbors
  have m_Network_degree := ok_Network_degree (P := l.prog) (w := w) (base := base) T M  D_Network_degree
  have m_Network_far_port := ok_Network_far_port (P := l.prog) (w := w) (base := base) T M c__wall D_Network_far_port
  have m_Network_links := ok_Network_links (P := l.prog) (w := w) (base := base) T M c__wall D_Network_links
  have c_network_text := ok_network_text (P := l.prog) (w := w) (base := base) T M m_Network_size m_Network_neighbors m_Network_names D_network_text
  have c__lines_of := ok__lines_of (P := l.prog) (w := w) (base := base) T M  D__lines_of
  have c_is_number := ok_is_number (P := l.prog) (w := w) (base := base) T M  D_is_number
  have c__names_in := ok__names_in (P := l.prog) (w := w) (base := base) T M c_is_number D__names_in
  have c__read_rows := ok__read_rows (P := l.prog) (w := w) (base := base) T M c__names_in D__read_rows
  have c__check_others := ok__check_others (P := l.prog) (w := w) (base := base) T M  D__check_others
  have c_read_network := ok_read_network (P := l.prog) (w := w) (base := base) T M k_Network c__check_others c__read_rows c__lines_of D_read_network
  have c__law_cell := ok__law_cell (P := l.prog) (w := w) (base := base) T M  D__law_cell
  have c__law_draw_net := ok__law_draw_net (P := l.prog) (w := w) (base := base) T M  D__law_draw_net
  have c__law_shape_net := ok__law_shape_net (P := l.prog) (w := w) (base := base) T M  D__law_shape_net
  have c__law_net := ok__law_net (P := l.prog) (w := w) (base := base) T M c__law_draw_net c__law_shape_net D__law_net
  have c__law_draws := ok__law_draws (P := l.prog) (w := w) (base := base) T M  D__law_draws
  have c__law_like := ok__law_like (P := l.prog) (w := w) (base := base) T M  D__law_like
  have c__law_made := ok__law_made (P := l.prog) (w := w) (base := base) T M k_Network D__law_made
  have c__law_drawn := ok__law_drawn (P := l.prog) (w := w) (base := base) T M c__law_net c__law_cell D__law_drawn
  have c__law_lines := ok__law_lines (P := l.prog) (w := w) (base := base) T M  D__law_lines
  have c__law_is := ok__law_is (P := l.prog) (w := w) (base := base) T M c__law_like m_Network_neighbors m_Network_names D__law_is
  exact ok_law T M  c__law_is c_read_network c__law_like c_network_text c__law_made c__law_lines c__law_draws c__law_cell c__law_drawn (fun_mk (st := s_law) l29 c29 k29) hlaw
end K05e
set_option maxHeartbeats 2000000
namespace Pre
open PySem PySem.Spec PyProof.Rows L2 Ab Ev Com Sh Run
theorem _root_.Com.RxD.of {F : Fn} {as : List Sl} {r : Ev.R} {d : D} (h : apF F as = .ok r) (hr : r.arg = .val d) : RxD (F as) d := by
  unfold apF at h
  split at h
  · cases e : F as with
    | v x => rw [e] at h; cases h; cases hr; exact .inl rfl
    | own l => rw [e] at h; cases h; cases hr; exact .inr ⟨_, rfl, rfl⟩
    | ex c => rw [e] at h; cases h
    | no => rw [e] at h; cases h
  · cases h
structure NetOk (ns : List Int) (nb : List (List Int)) : Prop where
  ok : okNet ns nb = true
  ne : ns ≠ []
  hn : nb.length = ns.length
  small : nb.length ≤ 40
  row : ∀ row ∈ nb, row.length ≤ nb.length
theorem NetOk.row4 {ns nb} (h : NetOk ns nb) : ∀ row ∈ nb, row.length ≤ 4000 := fun row hr => by have := h.row row hr; have := h.small; omega
theorem NetOk.nbrow {ns nb} (h : NetOk ns nb) (k : Nat) : (nb.getD k []).length ≤ nb.length := by
  by_cases hk : k < nb.length
  · exact h.row _ (List.mem_of_getElem? (nbAt hk))
  · rw [List.getD_eq_getElem?_getD, List.getElem?_eq_none (by omega)]; exact Nat.zero_le _
theorem NetOk.rk {ns nb} (h : NetOk ns nb) (k : Nat) : (nb.getD k []).length ≤ 1000 := by have := h.nbrow k; have := h.small; omega
theorem NetOk.pos {ns nb} (h : NetOk ns nb) : 0 < nb.length := by
  have := h.hn
  have : ns.length ≠ 0 := fun e => h.ne (List.eq_nil_of_length_eq_zero e)
  omega
theorem NetOk.nbr {ns nb} (h : NetOk ns nb) {i : Nat} (hi : i < nb.length) {o : Int} (ho : o ∈ nb.getD i []) : 0 ≤ o ∧ o < nb.length ∧ o ≠ (i : Nat) := by
  obtain ⟨h1, h2, h3, h4⟩ := okNet_iff h.ok
  obtain ⟨q, -⟩ := okRow_iff (h3 i _ (nbAt hi))
  obtain ⟨o0, o1, o2⟩ := q o ho
  exact ⟨o0, by omega, o2⟩
theorem NetOk.back {ns nb} (h : NetOk ns nb) {i : Nat} (hi : i < nb.length) {o : Int} (ho : o ∈ nb.getD i []) : ((i : Nat) : Int) ∈ nb.getD o.toNat [] :=
  okBack_at (okNet_iff h.ok).2.2.2 (nbAt hi) ho
theorem net_rows {ns : List Int} {nb : List (List Int)} (ok : okNet ns nb = true) : ∀ row ∈ nb, row.length ≤ nb.length := fun row hrow => by
  obtain ⟨h1, h2, h3, h4⟩ := okNet_iff ok
  obtain ⟨i, hi⟩ := List.getElem?_of_mem hrow
  obtain ⟨q, hdd⟩ := okRow_iff (h3 i row hi)
  have hn : row.Nodup := ndb_iff.mp (decide_eq_true hdd)
  have := List.Nodup.length_le_of_subset (l₂ := Com.rgI nb.length) hn fun o ho => by
    obtain ⟨q0, q1, -⟩ := q o ho
    exact List.mem_map.mpr ⟨o.toNat, List.mem_range.mpr (by omega), by omega⟩
  unfold Com.rgI at this
  rwa [List.length_map, List.length_range] at this
theorem NetOk.nodup {ns nb} (h : NetOk ns nb) (i : Nat) : (nb.getD i []).Nodup := by
  by_cases hi : i < nb.length
  · obtain ⟨h1, h2, h3, h4⟩ := okNet_iff h.ok
    obtain ⟨q, hdd⟩ := okRow_iff (h3 i _ (nbAt hi))
    exact ndb_iff.mp (decide_eq_true hdd)
  · rw [List.getD_eq_getElem?_getD, List.getElem?_eq_none (by omega)]; exact List.nodup_nil
theorem netF_len {number most : Int} (h0 : 0 ≤ number) (h1 : 3 ≤ most) : (((netF number most).1.length : Nat) : Int) ≤ most ∧ 1 ≤ (netF number most).1.length := by
  unfold netF
  split
  · unfold netS
    dsimp only
    rw [shNames_len]
    have hc0 : 0 ≤ number / 3 / 4 % (most - 2) := Int.emod_nonneg _ (by omega)
    have hc1 : number / 3 / 4 % (most - 2) < most - 2 := Int.emod_lt_of_pos _ (by omega)
    omega
  · unfold netD
    dsimp only
    rw [nSteps_len]
    have hc0 : 0 ≤ number / 3 % most := Int.emod_nonneg _ (by omega)
    have hc1 : number / 3 % most < most := Int.emod_lt_of_pos _ (by omega)
    omega
theorem bump_le (names : List Int) : ∀ (n : Nat) (m : Int), bump names n m ≤ m + (n : Nat)
  | 0, m => by show m ≤ m + 0; omega
  | n + 1, m => by
    have := bump_le names n m
    show (if decide (bump names n m ∈ names) = true then bump names n m + 1 else bump names n m) ≤ _
    split <;> omega
theorem nSteps_lt {count : Int} (hc : 1 ≤ count) (number : Int) : ∀ k, ∀ x ∈ (nSteps count number k).2, x < 2 * count + 90
  | 0, x, h => by cases h
  | k + 1, x, h => by
    have h : x ∈ (nSteps count number k).2 ++ [bump (nSteps count number k).2 count.toNat ((((nSteps count number k).1 * 48271 + 11) % 2147483647 / 64) % (count + 1 + (((nSteps count number k).1 * 48271 + 11) % 2147483647 / 8) % 90))] := h
    rcases List.mem_append.mp h with q | q
    · exact nSteps_lt hc number k x q
    · rw [List.mem_singleton.mp q]
      have h1 := bump_le (nSteps count number k).2 count.toNat ((((nSteps count number k).1 * 48271 + 11) % 2147483647 / 64) % (count + 1 + (((nSteps count number k).1 * 48271 + 11) % 2147483647 / 8) % 90))
      generalize ((nSteps count number k).1 * 48271 + 11) % 2147483647 = z at *
      have h2 : 0 ≤ z / 8 % 90 := Int.emod_nonneg _ (by decide)
      have h3 : z / 8 % 90 < 90 := Int.emod_lt_of_pos _ (by decide)
      have h4 : z / 64 % (count + 1 + z / 8 % 90) < count + 1 + z / 8 % 90 := Int.emod_lt_of_pos _ (by omega)
      omega
theorem shNames_lt {count : Int} (hc : 1 ≤ count) (number : Int) : ∀ k, ∀ x ∈ shNames count number k, x < count + 101
  | 0, x, h => by cases h
  | k + 1, x, h => by
    rcases List.mem_append.mp (show x ∈ shNames count number k ++ [bump (shNames count number k) count.toNat (((k : Nat) + 1) * (1 + number / 16) * 7 % 101)] from h) with q | q
    · exact shNames_lt hc number k x q
    · rw [List.mem_singleton.mp q]
      have h1 := bump_le (shNames count number k) count.toNat (((k : Nat) + 1) * (1 + number / 16) * 7 % 101)
      have h2 : ((k : Nat) + 1) * (1 + number / 16) * 7 % 101 < 101 := Int.emod_lt_of_pos _ (by decide)
      omega
theorem netF_lt {number most : Int} (h0 : 0 ≤ number) (h1 : 3 ≤ most) : ∀ x ∈ (netF number most).1, x < 2 * most + 110 := by
  unfold netF
  split
  · unfold netS
    dsimp only
    have hc0 : 0 ≤ number / 3 / 4 % (most - 2) := Int.emod_nonneg _ (by omega)
    have hc1 : number / 3 / 4 % (most - 2) < most - 2 := Int.emod_lt_of_pos _ (by omega)
    intro x hx
    have := shNames_lt (by omega) _ _ x hx
    omega
  · unfold netD
    dsimp only
    have hc0 : 0 ≤ number / 3 % most := Int.emod_nonneg _ (by omega)
    have hc1 : number / 3 % most < most := Int.emod_lt_of_pos _ (by omega)
    intro x hx
    have := nSteps_lt (by omega) _ _ x hx
    omega
theorem drawn2 (s : List Int) (kk : Int) (k : Nat) (hk : kk = (k : Nat)) (most : Int) (h3 : 3 ≤ most) (h4 : most ≤ 10) : ∃ ns nb, NetOk ns nb ∧ ((ns.length : Nat) : Int) ≤ most ∧ (∀ x ∈ ns, x < 130) ∧ apF F__law_drawn [.scr s, .val (.int kk), .val (.int most)] = .ok (.s (.val (netT ns nb))) := by
  subst hk
  have hab : 0 ≤ absI (cellF s k) := by unfold absI; split <;> omega
  have ok : okNet (netF (absI (cellF s k)) most).1 (netF (absI (cellF s k)) most).2 = true := netF_ok hab h3 (by omega)
  have hln := netF_len hab h3
  have hn := (okNet_iff ok).2.1
  refine ⟨_, _, ⟨ok, fun e => ?_, hn, by omega, net_rows ok⟩, hln.1, fun x hx => by have := netF_lt hab h3 x hx; omega, apF_v rfl (law_drawn s k most h3 (by omega))⟩
  have := hln.2
  rw [e] at this
  exact absurd this (by decide)
theorem made {ns nb} (h : NetOk ns nb) : apF F__law_made [.val (netT ns nb)] = .ok (.s (.val (netO ns nb))) := apF_v rfl (law_made h.ok (by have := h.hn; have := h.small; omega) h.row4)
theorem okNames_of {ns : List Int} (h1 : ns ≠ []) (h2 : ∀ x ∈ ns, 0 ≤ x) (h3 : ns.Nodup) : okNames ns = true := by
  unfold okNames
  rw [Bool.and_eq_true, Bool.and_eq_true]
  refine ⟨?_, List.all_eq_true.mpr fun x hx => decide_eq_true (h2 x hx), ndb_iff.mpr h3⟩
  cases ns with
  | nil => exact absurd rfl h1
  | cons a l => rfl
theorem NetOk.renamed {ns nb} (h : NetOk ns nb) {ms : List Int} (hl : ms.length = ns.length) (h2 : ∀ x ∈ ms, 0 ≤ x) (h3 : ms.Nodup) : NetOk ms nb := by
  have hne : ms ≠ [] := fun e => h.ne (List.eq_nil_of_length_eq_zero (by rw [← hl, e]; rfl))
  refine ⟨?_, hne, by rw [hl]; exact h.hn, h.small, h.row⟩
  have := h.ok
  unfold okNet at this ⊢
  rw [Bool.and_eq_true] at this ⊢
  rw [hl]
  exact ⟨okNames_of hne h2 h3, this.2⟩
theorem NetOk.names {ns nb} (h : NetOk ns nb) : (∀ x ∈ ns, 0 ≤ x) ∧ ns.Nodup := by
  have := okNames_iff (okNet_iff h.ok).1
  exact ⟨this.2.1, ndb_iff.mp (decide_eq_true this.2.2)⟩
theorem cell (s : List Int) (kk : Int) (k : Nat) (hk : kk = (k : Nat)) : apF F__law_cell [.scr s, .val (.int kk)] = .ok (vI (cellF s k)) := by
  rw [hk]
  rw [apF_v rfl (law_cell s k)]
theorem draws (c : Int) (nn : Int) (n : Nat) (hk : nn = (n : Nat)) (hn : n ≤ 99999) : ∃ dr : List Int, dr.length = n ∧ (∀ x ∈ dr, 0 ≤ x ∧ x < 4096) ∧ apF F__law_draws [.val (.int c), .val (.int nn)] = .ok (.fr (iL dr)) := by
  subst hk
  exact ⟨drawsF c n, drawsS_len _ _, drawsS_mem c n, apF_own rfl (law_draws c n hn)⟩
theorem like {d : D} (h : okD 6 d = true) : apF F__law_like [.val d, .val d] = .ok (vB true) := by
  rw [apF_v (F := F__law_like) rfl (like_refl 6 d h)]
theorem okD_ints {l : List Int} (h : l.length ≤ 100000) (n : Nat) : okD (n + 2) (lI l) = true := by
  unfold okD
  rw [Bool.and_eq_true]
  refine ⟨by rw [decide_eq_true_eq, List.length_map]; omega, okDs_of fun d hd => ?_⟩
  obtain ⟨x, _, rfl⟩ := List.mem_map.mp hd
  rfl
theorem cut_from (l : List D) (a : Nat) (h : a ≤ l.length) : Ev.cutD l (some (a : Int)) none = l.drop a := by
  unfold Ev.cutD
  rw [sIx_nat l.length 0 a h]
  show List.take (l.length - a) (List.drop a l) = _
  exact List.take_of_length_le (by rw [List.length_drop]; exact Nat.le_refl _)
end Pre
set_option maxHeartbeats 2000000
namespace Txs
open PySem PySem.Spec PyProof.Rows TL
abbrev wd (n : Int) : Str := Str.ofString (toString n)
theorem tl_wd {n : Int} (h : 0 ≤ n) : tl (wd n) = numL n.toNat := by
  have := tl_num n.toNat
  rwa [Int.toNat_of_nonneg h] at this
theorem wd_digits {n : Int} (h : 0 ≤ n) : NumText.AllDigits (tl (wd n)) := by rw [tl_wd h]; exact numL_digits _
theorem wd_len {n : Int} (h : 0 ≤ n) (h1 : n < 1000000000) : (wd n).length ≤ 9 := by
  rw [len_tl, tl_wd h]
  exact numL_len (by decide) (by omega)
theorem wd_pos {n : Int} (h : 0 ≤ n) : 0 < (wd n).length := by
  rw [len_tl, tl_wd h]
  exact List.length_pos_iff.mpr (numL_ne _)
theorem digit_u : ∀ k : Nat, k < 10 → Unicode.isDigit (48 + k) = true := by decide +kernel
theorem wd_isdigit {n : Int} (h : 0 ≤ n) : Txt.isdigit (wd n) = true := by
  unfold Txt.isdigit
  rw [Bool.and_eq_true]
  refine ⟨decide_eq_true (wd_pos h), ?_⟩
  rw [← Array.all_toList]
  refine List.all_eq_true.mpr fun c hc => ?_
  obtain ⟨a, b⟩ := wd_digits h c hc
  have := digit_u (c - 48) (by omega)
  rwa [show 48 + (c - 48) = c by omega] at this
theorem wd_isascii {n : Int} (h : 0 ≤ n) : Txt.isascii (wd n) = true := by
  unfold Txt.isascii
  rw [← Array.all_toList]
  refine List.all_eq_true.mpr fun c hc => ?_
  obtain ⟨a, b⟩ := wd_digits h c hc
  exact decide_eq_true (by omega)
theorem wd_int {n : Int} (h : 0 ≤ n) (h1 : n < 1000000000) : PySem.intText? (wd n) = some n := PySem.W.KIN.num_reads h (by omega)
theorem starts_one {x y : Str} {c : Nat} (hy : tl y = [c]) : Txt.startswith x y = decide ((tl x).head? = some c) := by
  unfold Txt.startswith
  have e : y.length = 1 := by rw [len_tl, hy]; rfl
  have sa := PySem.StrLaws.subAt_eq x y 0
  rw [sa, e, len_tl, List.drop_zero, show y.cps.toList = [c] from hy]
  show (decide (0 + 1 ≤ (tl x).length) && ((tl x).take 1 == [c])) = _
  generalize tl x = l
  cases l with
  | nil => rfl
  | cons a l =>
    show (decide (0 + 1 ≤ l.length + 1) && ([a] == [c])) = decide (some a = some c)
    rw [decide_eq_true (by omega : 0 + 1 ≤ l.length + 1), Bool.true_and]
    by_cases q : a = c
    · rw [q, decide_eq_true rfl]; simp
    · rw [decide_eq_false (fun z => q (Option.some.inj z))]; simp [q]
theorem numL_head {n : Nat} (h : 0 < n) : (numL n).head? ≠ some 48 := by
  induction n using Nat.strongRecOn with
  | _ n ih =>
    by_cases hn : n < 10
    · rw [numL_lt hn]
      intro z
      have : 48 + n = 48 := Option.some.inj z
      omega
    · rw [numL_step (by omega)]
      have := ih (n / 10) (by omega) (by omega)
      cases e : numL (n / 10) with
      | nil => exact absurd e (numL_ne _)
      | cons a l => rw [e] at this; exact this
theorem wd_zero {n : Int} (h : 0 ≤ n) (h0 : n ≠ 0) : Txt.startswith (wd n) "0" = false := by
  rw [starts_one (c := 48) (by decide +kernel), tl_wd h]
  exact decide_eq_false (numL_head (by omega))
abbrev sp : Str := " "
abbrev nl : Str := "\n"
def lineS (ns : List Int) : Str := Txt.join sp (("node" : Str) :: ns.map wd)
theorem wd_free {n : Int} (h : 0 ≤ n) {s : Nat} (hs : s < 48 ∨ 57 < s) : s ∉ tl (wd n) := by rw [tl_wd h]; exact numL_free hs
theorem line_split {ns : List Int} (h : ∀ n ∈ ns, 0 ≤ n) : Txt.split (lineS ns) sp = ("node" : Str) :: ns.map wd := by
  refine split_join (s := 32) (S := []) (by decide +kernel) (by decide +kernel) (by simp) fun p hp => ?_
  rcases List.mem_cons.mp hp with q | q
  · rw [q]; decide +kernel
  · obtain ⟨n, hn, rfl⟩ := List.mem_map.mp q
    exact wd_free (h n hn) (by omega)
theorem mem_joinL {S : List Nat} {c : Nat} : ∀ {ps : List (List Nat)}, c ∈ joinL S ps → c ∈ S ∨ ∃ p ∈ ps, c ∈ p
  | [], h => by cases h
  | [p], h => .inr ⟨p, List.mem_cons_self .., h⟩
  | p :: q :: r, h => by
    have h : c ∈ p ++ (S ++ joinL S (q :: r)) := h
    rcases List.mem_append.mp h with z | z
    · exact .inr ⟨p, List.mem_cons_self .., z⟩
    · rcases List.mem_append.mp z with z | z
      · exact .inl z
      · rcases mem_joinL z with z | ⟨p, hp, z⟩
        · exact .inl z
        · exact .inr ⟨p, List.mem_cons_of_mem _ hp, z⟩
theorem joinL_len {S : List Nat} {m : Nat} : ∀ {ps : List (List Nat)}, (∀ p ∈ ps, p.length ≤ m) → (joinL S ps).length ≤ ps.length * (m + S.length)
  | [], _ => by show 0 ≤ _; omega
  | [p], h => by
    have := h p (List.mem_cons_self ..)
    show p.length ≤ 1 * _
    omega
  | p :: q :: r, h => by
    have h1 := h p (List.mem_cons_self ..)
    have h2 := joinL_len (S := S) (m := m) (ps := q :: r) fun p hp => h p (List.mem_cons_of_mem _ hp)
    show (p ++ (S ++ joinL S (q :: r))).length ≤ _
    rw [List.length_append, List.length_append, List.length_cons, Nat.add_mul]
    omega
theorem tl_jn (y : Str) (ps : List Str) : tl (Txt.join y ps) = joinL (tl y) (ps.map tl) := by rw [join_eq, tl_join]
theorem line_free {ns : List Int} (h : ∀ n ∈ ns, 0 ≤ n) : 10 ∉ tl (lineS ns) := by
  unfold lineS
  rw [tl_jn]
  intro hm
  rcases mem_joinL hm with q | ⟨p, hp, q⟩
  · exact absurd q (by decide +kernel)
  · obtain ⟨z, hz, rfl⟩ := List.mem_map.mp hp
    rcases List.mem_cons.mp hz with e | e
    · rw [e] at q; exact absurd q (by decide +kernel)
    · obtain ⟨n, hn, rfl⟩ := List.mem_map.mp e
      exact wd_free (h n hn) (by omega) q
theorem line_head (ns : List Int) : (tl (lineS ns)).head? = some 110 := by
  unfold lineS
  rw [tl_jn]
  cases ns with
  | nil => decide +kernel
  | cons n r =>
    show (tl ("node" : Str) ++ (tl sp ++ joinL (tl sp) (tl (wd n) :: (r.map wd).map tl))).head? = some 110
    rw [show tl ("node" : Str) = 110 :: [111, 100, 101] by decide +kernel]
    rfl
theorem line_len {ns : List Int} (h : ∀ n ∈ ns, 0 ≤ n ∧ n < 1000000000) : (lineS ns).length ≤ (ns.length + 1) * 10 := by
  unfold lineS
  rw [len_tl, tl_jn]
  have := joinL_len (S := tl sp) (m := 9) (ps := (("node" : Str) :: ns.map wd).map tl) fun p hp => by
    obtain ⟨z, hz, rfl⟩ := List.mem_map.mp hp
    rcases List.mem_cons.mp hz with e | e
    · rw [e]; decide +kernel
    · obtain ⟨n, hn, rfl⟩ := List.mem_map.mp e
      have := wd_len (h n hn).1 (h n hn).2
      rwa [len_tl] at this
  rw [show (tl sp).length = 1 by decide +kernel, List.length_map, List.length_cons, List.length_map] at this
  exact this
theorem join_nl : ∀ ls : List Str, Txt.join "" (ls.map (· ++ nl)) = Txt.join nl (ls ++ [("" : Str)])
  | [] => by decide +kernel
  | l :: ls => by
    refine ext_tl ?_
    have ih := congrArg tl (join_nl ls)
    rw [tl_jn, tl_jn] at ih ⊢
    rw [show tl ("" : Str) = [] by decide +kernel] at ih ⊢
    cases ls with
    | nil =>
      show tl (l ++ nl) = tl l ++ (tl nl ++ tl ("" : Str))
      rw [tl_append, show tl ("" : Str) = [] by decide +kernel, List.append_nil]
    | cons a r =>
      show tl (l ++ nl) ++ ([] ++ joinL [] (((a :: r).map (· ++ nl)).map tl)) = tl l ++ (tl nl ++ joinL (tl nl) (((a :: r) ++ [("" : Str)]).map tl))
      rw [ih, tl_append, List.nil_append, List.append_assoc]
theorem join_snoc : ∀ {ls : List Str}, ls ≠ [] → Txt.join nl ls ++ nl = Txt.join nl (ls ++ [("" : Str)])
  | [], h => absurd rfl h
  | [a], _ => by
    refine ext_tl ?_
    rw [tl_append, tl_jn, tl_jn]
    show tl a ++ tl nl = tl a ++ (tl nl ++ tl ("" : Str))
    rw [show tl ("" : Str) = [] by decide +kernel, List.append_nil]
  | a :: b :: r, _ => by
    refine ext_tl ?_
    have ih := congrArg tl (join_snoc (ls := b :: r) (by simp))
    rw [tl_append, tl_jn, tl_jn] at ih ⊢
    show tl a ++ (tl nl ++ joinL (tl nl) ((b :: r).map tl)) ++ tl nl = tl a ++ (tl nl ++ joinL (tl nl) (((b :: r) ++ [("" : Str)]).map tl))
    rw [← ih]; simp only [List.append_assoc]
theorem nl_split {ls : List Str} (h0 : ls ≠ []) (h : ∀ l ∈ ls, 10 ∉ tl l) : Txt.split (Txt.join nl ls) nl = ls :=
  split_join (s := 10) (S := []) (by decide +kernel) (by decide +kernel) h0 h
theorem jn_len {y : Str} {ps : List Str} {m : Nat} (h : ∀ p ∈ ps, p.length ≤ m) : (Txt.join y ps).length ≤ ps.length * (m + y.length) := by
  rw [len_tl, tl_jn, len_tl y]
  have := joinL_len (S := tl y) (m := m) (ps := ps.map tl) fun p hp => by
    obtain ⟨z, hz, rfl⟩ := List.mem_map.mp hp
    rw [← len_tl]; exact h z hz
  rwa [List.length_map] at this
theorem sum_len {m : Nat} : ∀ {ps : List Str}, (∀ p ∈ ps, p.length ≤ m) → (ps.map (·.length)).sum ≤ ps.length * m
  | [], _ => by show 0 ≤ _; omega
  | p :: r, h => by
    have h1 := h p (List.mem_cons_self ..)
    have h2 := sum_len (m := m) (ps := r) fun p hp => h p (List.mem_cons_of_mem _ hp)
    rw [List.map_cons, List.sum_cons, List.length_cons, Nat.add_mul]
    omega
def skip (l : Str) : Bool := decide (l = ("" : Str)) || decide ((tl l).head? = some 35)
theorem skip_line (ns : List Int) : skip (lineS ns) = false := by
  unfold skip
  rw [line_head, Bool.or_eq_false_iff]
  refine ⟨decide_eq_false fun e => ?_, by decide⟩
  have := line_head ns
  rw [e] at this
  exact absurd this (by decide +kernel)
end Txs
set_option maxHeartbeats 2000000
namespace AIS
open PySem PySem.Spec PyProof.Rows L2 Ab Ev Com Sh Sha Run Pre
def ch (nb : List (List Int)) (cols : List Int) : Nat → Nat → Int
  | 0, _ => 0
  | t + 1, i => if cols.getD i 0 = ((t : Nat) : Int) ∧ 1 ∉ ((nb.getD i []).map fun o => ch nb cols t o.toNat) then 1 else ch nb cols t i
end AIS
set_option maxHeartbeats 2000000
namespace AIS
open PySem PySem.Spec PyProof.Rows L2 Ab Ev Com Sh Sha Run Pre
def mixB (nb : List (List Int)) (cols : List Int) (c k : Nat) : List Int := (List.range nb.length).map fun i => if i < k then ch nb cols (c + 1) i else ch nb cols c i
section
variable {nb : List (List Int)} {cols : List Int}
end
end AIS
set_option maxHeartbeats 2000000
namespace Lp
open PySem PySem.Spec PyProof.Rows L2 Ab Ev Com Sh Run Pre
theorem forG_all {α β σ : Type} {f : D → σ → Oc σ σ} {h : α → D} {s : σ} {r : R} (p : α → Bool) : ∀ (l : List α), (∀ a ∈ l, f (h a) s = if p a = true then .nx s else .rt r) → (forG f (l.map h) s : Oc σ β) = if l.all p = true then .nx s else .rt r
  | [], _ => rfl
  | a :: l, hh => by
    have ih := forG_all (β := β) p l fun b hb => hh b (List.mem_cons_of_mem _ hb)
    rw [List.map_cons]
    unfold forG
    rw [hh a (by simp), List.all_cons]
    cases p a with
    | true => rw [if_pos rfl, Bool.true_and]; exact ih
    | false => rfl
theorem rgL_map (n : Nat) : rgL 0 n = (List.range n).map fun i => D.int ((i : Nat) : Int) := by
  rw [rgL_rgI]
  unfold iL Com.rgI
  rw [List.map_map]; rfl
theorem sl_to {l : List D} {a : Nat} (h : a ≤ l.length) : fSl (.val (.lst l)) none (some (a : Int)) = some (.fr (l.take a)) := by
  show some (R.fr (Ev.cutD l none (some (a : Int)))) = _
  unfold Ev.cutD
  rw [sIx_nat l.length _ a h]
  show some (R.fr ((l.drop 0).take (a - 0))) = _
  rw [List.drop_zero, Nat.sub_zero]
theorem sl_from {l : List D} {a : Nat} (h : a ≤ l.length) : fSl (.val (.lst l)) (some (a : Int)) none = some (.fr (l.drop a)) := by
  show some (R.fr (Ev.cutD l (some (a : Int)) none)) = _
  rw [cut_from l a h]
theorem forG_ex {β σ : Type} {f : D → σ → Oc σ σ} (P : Nat → σ → Prop) : ∀ (l : List D) (k : Nat) (s : σ), (∀ i d s, l[i]? = some d → P (k + i) s → ∃ s', (f d s = .nx s' ∨ f d s = .ct s') ∧ P (k + i + 1) s') → P k s → ∃ s', (forG f l s : Oc σ β) = .nx s' ∧ P (k + l.length) s'
  | [], k, s, _, h0 => ⟨s, rfl, h0⟩
  | d :: l, k, s, h, h0 => by
    obtain ⟨s1, e1, p1⟩ := h 0 d s rfl h0
    obtain ⟨s2, e2, p2⟩ := forG_ex (β := β) P l (k + 1) s1 (fun i d' s hd hp => by
      obtain ⟨s', e, p⟩ := h (i + 1) d' s (by simpa using hd) (by rw [show k + (i + 1) = k + 1 + i by omega]; exact hp)
      exact ⟨s', e, by rw [show k + 1 + i + 1 = k + (i + 1) + 1 by omega]; exact p⟩) (by rw [Nat.add_zero] at p1; exact p1)
    refine ⟨s2, ?_, by rw [List.length_cons, show k + (l.length + 1) = k + 1 + l.length by omega]; exact p2⟩
    unfold forG
    rcases e1 with e1 | e1 <;> rw [e1] <;> exact e2
theorem forG_exr {β σ : Type} {f : D → σ → Oc σ σ} (P : Nat → σ → Prop) {n : Nat} {s : σ} (h0 : P 0 s) (h : ∀ i s, i < n → P i s → ∃ s', (f (.int ((i : Nat) : Int)) s = .nx s' ∨ f (.int ((i : Nat) : Int)) s = .ct s') ∧ P (i + 1) s') : ∃ s', (forG f (rgL 0 n) s : Oc σ β) = .nx s' ∧ P n s' := by
  have q := forG_ex (β := β) (f := f) P (rgL 0 n) 0 s (fun i d s hd hp => by
    rw [rgL_map, List.getElem?_map] at hd
    by_cases hi : i < n
    · rw [List.getElem?_range hi] at hd
      cases hd
      rw [Nat.zero_add] at hp ⊢
      exact h i s hi hp
    · rw [List.getElem?_eq_none (by rw [List.length_range]; omega)] at hd; cases hd) h0
  rw [rgL_map, List.length_map, List.length_range, Nat.zero_add, ← rgL_map] at q
  exact q
end Lp
set_option maxHeartbeats 2000000
namespace N05
open PySem PySem.Spec PyProof.Rows L2 Ab Ev Com Sh Sha Run Pre Lp Txs
theorem numb_at {n : Int} (h0 : 0 ≤ n) (h1 : n < 1000000000) : apF K05e.F_is_number [.val (.str (wd n))] = .ok (vB true) := by
  refine (K05e.le_is_number _).ok ?_
  have a := wd_isascii h0
  have b := wd_isdigit h0
  have c := wd_len h0 h1
  have z : (decide (wd n = (("0" : String) : Str)) = true) ∨ Txt.startswith (wd n) ("0" : Str) = false := by
    by_cases e : n = 0
    · left; rw [e]; decide +kernel
    · right; exact wd_zero h0 e
  generalize wd n = x at *
  have e1 : hBM0 isStr fIsascii (Sh.hv (.str x)) = .ok (vB true) := by
    show lift (some (vB (Txt.isascii x))) = _
    rw [a]; rfl
  have e2 : hBM0 isStr fIsdigit (Sh.hv (.str x)) = .ok (vB true) := by
    show lift (some (vB (Txt.isdigit x))) = _
    rw [b]; rfl
  have e3 : hBM isStr fStartsw (Sh.hv (.str x)) (Sh.hv (.str "0")) = .ok (vB (Txt.startswith x "0")) := rfl
  have e4 : hCB fLen (hCons (Sh.hv (.str x)) hNil) = .ok (vI x.length) := by
    show lift (if x.length ≤ 100000 then some (vI (x.length : Nat)) else none) = _
    rw [if_pos (by omega)]; rfl
  have e5 : hBin fEq (Sh.hv (.str x)) (Sh.hv (.str "0")) = .ok (vB (decide (x = "0"))) := rfl
  have cc : decide ((x.length : Int) ≤ 9) = true := decide_eq_true (by omega)
  unfold K05e.G_is_number K05e.G_is_number_1
  rw [e1, e2, e3, e4, e5]
  rcases z with z | z
  · rw [z]; simp only [hUn_ok, hBin_ok, hNil_ok, hCons_ok, hSnoc_ok, hCB_ok, hO_int, hONo_ok, hSl_ok, hIf_ok, hAnd_ok, hOr_ok, hNot_ok, hChain_ok, tTru_ok, tTB_ok, tAnd_ok, tOr_ok, tNot_ok, tYes_ok, hCall_ok, hCallN_ok, hMeth_ok, hMethN_ok, hMake_ok, hMakeN_ok, hBM_ok, hGet1_dic, hGet2_dic, hGet1_k, hGet2_k, hDNew_ok, hD1_int, hPNil_ok, hPCons_str, hPCons_int, hDN_ok, iRng3_int, iRev_ok, hRg1_int, hRg2_int, hLstRg_ok, iRng1_int, iRng2_int, iIt_ok, iEn_ok, iZip_ok, q2_tup, q3_tup, q4_tup, q5_tup, argD_val, argD_fr, argD_frk, lcS_t, lcS_f, lc2S_t, lc2S_f, bnd_val, bnd_fr, bnd_frk, bnd_ex, bnd_no, bndO_fr, bndO_ex, bndK_frk, bndI_ok, iteC_t, iteC_f, iteC_ex, ret_val, ret_fr, ret_frk, ret_ex, drp_ok, drp_ex, bind_nx, bind_ct, bind_bk, Sh.bind_rt, Sh.bind_ex, run_rt, run_nx, run_ex, appO_ok, appO_fr, augG_int, Ev.bind_ok, Ev.bind_ex, Ev.bind_no, lift_some, lift_none, args, argfr, argfrk, nox_ok, uSub, uAdd, uMul, uEq, uNe, uInA, uoSub, uoDiv, uoMod, uoLt, uoLe, uoGt, uoGe, uNeg, fI_int, fI_l, fI_r, fCmpI_int, eqF_int, eqF_bl, eqF_str, fInt_int, fAbs_int, fLen_lst, fLen_tup, fLen_red, fLen_nst, fLen_scr, fList_lst, fList_red, fIx_lst, fIx_red, fIx_tup, fIx_nst, fIx_dic, fIx_scr, isN_non, isN_int, isN_bl, isN_lst, isN_tup, isN_red, isN_str, tr_bl, tr_int, tr_lst, tr_red, blR_bl, toDs0, toDs1, inSint, lstS1, lstS2, tpS1, tpS2, tpS3, sqS1, sqS2, sqS3, sqS4, sqS5, lsS1, lsS2, lsS3, rdval, rdown, rdred, rdscr, rddic, rdnst, or_some, or_none, Option.map_some, Option.map_none, Bool.not_true, Bool.not_false, Bool.false_eq_true, if_true, if_false, reduceIte, d_size, d_names, d_neighbors, d_degree, d_far, d_links, m_size, m_names, fLst_0, fTup_0, fLst_1, fTup_1, fLst_2, fTup_2, fLst_3, fTup_3, fLst_4, fTup_4, fLst_5, fTup_5, fLst_6, fTup_6, fLst_7, fTup_7, fLst_8, fTup_8, at_1_0, at_1_m, at_2_0, at_2_1, at_2_m, at_3_0, at_3_1, at_3_2, at_3_m, at_4_0, at_4_1, at_4_2, at_4_3, at_4_m, at_5_0, at_5_1, at_5_2, at_5_3, at_5_4, at_5_m, at_6_0, at_6_1, at_6_2, at_6_3, at_6_4, at_6_5, at_6_m, in_lst_1, in_tup_1, in_lst_2, in_tup_2, in_lst_3, in_tup_3, in_lst_4, in_tup_4, in_ints, in_intsT, in_intsR, Sh.fAll_map, Sh.fAny_map, List.cons_append, List.nil_append, decide_eq_true_eq, Int.reduceLT, Int.reduceLE, Int.reduceNeg, ite_tt2, ite_tt4, cc]
  · rw [z]
    cases decide (x = (("0" : String) : Str)) <;> simp only [hUn_ok, hBin_ok, hNil_ok, hCons_ok, hSnoc_ok, hCB_ok, hO_int, hONo_ok, hSl_ok, hIf_ok, hAnd_ok, hOr_ok, hNot_ok, hChain_ok, tTru_ok, tTB_ok, tAnd_ok, tOr_ok, tNot_ok, tYes_ok, hCall_ok, hCallN_ok, hMeth_ok, hMethN_ok, hMake_ok, hMakeN_ok, hBM_ok, hGet1_dic, hGet2_dic, hGet1_k, hGet2_k, hDNew_ok, hD1_int, hPNil_ok, hPCons_str, hPCons_int, hDN_ok, iRng3_int, iRev_ok, hRg1_int, hRg2_int, hLstRg_ok, iRng1_int, iRng2_int, iIt_ok, iEn_ok, iZip_ok, q2_tup, q3_tup, q4_tup, q5_tup, argD_val, argD_fr, argD_frk, lcS_t, lcS_f, lc2S_t, lc2S_f, bnd_val, bnd_fr, bnd_frk, bnd_ex, bnd_no, bndO_fr, bndO_ex, bndK_frk, bndI_ok, iteC_t, iteC_f, iteC_ex, ret_val, ret_fr, ret_frk, ret_ex, drp_ok, drp_ex, bind_nx, bind_ct, bind_bk, Sh.bind_rt, Sh.bind_ex, run_rt, run_nx, run_ex, appO_ok, appO_fr, augG_int, Ev.bind_ok, Ev.bind_ex, Ev.bind_no, lift_some, lift_none, args, argfr, argfrk, nox_ok, uSub, uAdd, uMul, uEq, uNe, uInA, uoSub, uoDiv, uoMod, uoLt, uoLe, uoGt, uoGe, uNeg, fI_int, fI_l, fI_r, fCmpI_int, eqF_int, eqF_bl, eqF_str, fInt_int, fAbs_int, fLen_lst, fLen_tup, fLen_red, fLen_nst, fLen_scr, fList_lst, fList_red, fIx_lst, fIx_red, fIx_tup, fIx_nst, fIx_dic, fIx_scr, isN_non, isN_int, isN_bl, isN_lst, isN_tup, isN_red, isN_str, tr_bl, tr_int, tr_lst, tr_red, blR_bl, toDs0, toDs1, inSint, lstS1, lstS2, tpS1, tpS2, tpS3, sqS1, sqS2, sqS3, sqS4, sqS5, lsS1, lsS2, lsS3, rdval, rdown, rdred, rdscr, rddic, rdnst, or_some, or_none, Option.map_some, Option.map_none, Bool.not_true, Bool.not_false, Bool.false_eq_true, if_true, if_false, reduceIte, d_size, d_names, d_neighbors, d_degree, d_far, d_links, m_size, m_names, fLst_0, fTup_0, fLst_1, fTup_1, fLst_2, fTup_2, fLst_3, fTup_3, fLst_4, fTup_4, fLst_5, fTup_5, fLst_6, fTup_6, fLst_7, fTup_7, fLst_8, fTup_8, at_1_0, at_1_m, at_2_0, at_2_1, at_2_m, at_3_0, at_3_1, at_3_2, at_3_m, at_4_0, at_4_1, at_4_2, at_4_3, at_4_m, at_5_0, at_5_1, at_5_2, at_5_3, at_5_4, at_5_m, at_6_0, at_6_1, at_6_2, at_6_3, at_6_4, at_6_5, at_6_m, in_lst_1, in_tup_1, in_lst_2, in_tup_2, in_lst_3, in_tup_3, in_lst_4, in_tup_4, in_ints, in_intsT, in_intsR, Sh.fAll_map, Sh.fAny_map, List.cons_append, List.nil_append, decide_eq_true_eq, Int.reduceLT, Int.reduceLE, Int.reduceNeg, ite_tt2, ite_tt4, cc]
theorem sub0L (x : D) (l : List D) : fSub (.val (.lst (x :: l))) (.val (.int 0)) = some (.s (.val x)) := by
  show ((atI (x :: l) 0).map fun d => R.s (.val d)).or _ = _
  rw [at_nat (by omega)]; rfl
theorem names_at {ns : List Int} (h : ∀ n ∈ ns, 0 ≤ n ∧ n < 1000000000) (hne : ns ≠ []) (hl : ns.length ≤ 1000) : apF K05e.F__names_in [.val (.str (lineS ns))] = .ok (.fr (iL ns)) := by
  refine (K05e.le__names_in _).ok ?_
  have sl := line_split fun n hn => (h n hn).1
  have ll := line_len h
  generalize hL : lineS ns = L at *
  have e1 : hBM isStr fSplit (Sh.hv (.str L)) (Sh.hv (.str " ")) = .ok (.fr (D.str "node" :: ns.map fun n => D.str (wd n))) := by
    show lift (fSplit (.val (.str L)) (.val (.str sp))) = _
    unfold fSplit
    dsimp only
    rw [if_pos ⟨by decide +kernel, by show L.length + 2 ≤ 2 ^ 24; omega⟩, sl, List.map_cons, List.map_map]; rfl
  have e2 : hSl (Sh.hv (.lst (D.str "node" :: ns.map fun n => D.str (wd n)))) (hO (Sh.hv (.int 1))) hONo = .ok (.fr (ns.map fun n => D.str (wd n))) := by
    have := sl_from (l := D.str "node" :: ns.map fun n => D.str (wd n)) (a := 1) (by rw [List.length_cons]; omega)
    show lift (fSl (.val (.lst _)) (some ((1 : Nat) : Int)) none) = _
    rw [this]; rfl
  have e3 : hBin fSub (Sh.hv (.lst (D.str "node" :: ns.map fun n => D.str (wd n)))) (Sh.hv (.int 0)) = .ok (.s (.val (.str "node"))) := congrArg Ev.lift (sub0L _ _)
  have e4 : hCB fLen (hCons (Sh.hv (.lst (D.str "node" :: ns.map fun n => D.str (wd n)))) hNil) = .ok (vI ((ns.length + 1 : Nat) : Int)) := by
    show Res.ok (vI (((D.str "node" :: ns.map fun n => D.str (wd n)).length : Nat) : Int)) = _
    rw [List.length_cons, List.length_map]
  have e5 : hLc (.ok (ns.map fun n => D.str (wd n))) K05e.G__names_in_1 = .ok (.fr (ns.map fun _ => D.bl true)) := hLc_map (fun n hn => by
    unfold K05e.G__names_in_1
    have : hCallN K05e.F_is_number (hCons (Sh.hv (.str (wd n))) hNil) = .ok (vB true) := congrArg nox (numb_at (h n hn).1 (h n hn).2)
    rw [this]; rfl) (by omega)
  have e6 : hLc (.ok (ns.map fun n => D.str (wd n))) K05e.G__names_in_2 = .ok (.fr (ns.map D.int)) := hLc_map (fun n hn => by
    unfold K05e.G__names_in_2
    have : hCB fIntX (hCons (Sh.hv (.str (wd n))) hNil) = .ok (vI n) := by
      show Ev.lift (match intText? (wd n) with | some n' => if (wd n).length ≤ 640 then some (vI n') else none | none => none) = _
      rw [wd_int (h n hn).1 (h n hn).2]
      dsimp only
      rw [if_pos (by have := wd_len (h n hn).1 (h n hn).2; omega)]; rfl
    rw [this]; rfl) (by omega)
  have pos : 0 < ns.length := List.length_pos_iff.mpr hne
  rw [show K05e.G__names_in (.str L) = run (bnd (hBM isStr fSplit (Sh.hv (.str L)) (Sh.hv (.str " "))) K05e.G__names_in_5) from rfl, e1]
  show run (K05e.G__names_in_5 (.lst (D.str "node" :: ns.map fun n => D.str (wd n)))) = _
  generalize hW : (D.str "node" :: ns.map fun n => D.str (wd n)) = W at *
  have f1 : tTB (hBin fNe (hBin fSub (Sh.hv (.lst W)) (Sh.hv (.int 0))) (Sh.hv (.str "node"))) = .ok false := by
    rw [e3]; rfl
  have f2 : tTB (hBin oLt (hCB fLen (hCons (Sh.hv (.lst W)) hNil)) (Sh.hv (.int 2))) = .ok false := by
    rw [e4]
    show Res.ok (decide (((ns.length + 1 : Nat) : Int) < 2)) = _
    rw [decide_eq_false (by omega)]
  have f3 : iIt (hSl (Sh.hv (.lst W)) (hO (Sh.hv (.int 1))) hONo) = .ok (ns.map fun n => D.str (wd n)) := by rw [e2]; rfl
  have f4 : tTru (hCB fAll (hCons (.ok (.fr (ns.map fun _ => D.bl true))) hNil)) = .ok true := by
    simp only [hUn_ok, hBin_ok, hNil_ok, hCons_ok, hSnoc_ok, hCB_ok, hO_int, hONo_ok, hSl_ok, hIf_ok, hAnd_ok, hOr_ok, hNot_ok, hChain_ok, tTru_ok, tTB_ok, tAnd_ok, tOr_ok, tNot_ok, tYes_ok, hCall_ok, hCallN_ok, hMeth_ok, hMethN_ok, hMake_ok, hMakeN_ok, hBM_ok, hGet1_dic, hGet2_dic, hGet1_k, hGet2_k, hDNew_ok, hD1_int, hPNil_ok, hPCons_str, hPCons_int, hDN_ok, iRng3_int, iRev_ok, hRg1_int, hRg2_int, hLstRg_ok, iRng1_int, iRng2_int, iIt_ok, iEn_ok, iZip_ok, q2_tup, q3_tup, q4_tup, q5_tup, argD_val, argD_fr, argD_frk, lcS_t, lcS_f, lc2S_t, lc2S_f, bnd_val, bnd_fr, bnd_frk, bnd_ex, bnd_no, bndO_fr, bndO_ex, bndK_frk, bndI_ok, iteC_t, iteC_f, iteC_ex, ret_val, ret_fr, ret_frk, ret_ex, drp_ok, drp_ex, bind_nx, bind_ct, bind_bk, Sh.bind_rt, Sh.bind_ex, run_rt, run_nx, run_ex, appO_ok, appO_fr, augG_int, Ev.bind_ok, Ev.bind_ex, Ev.bind_no, lift_some, lift_none, args, argfr, argfrk, nox_ok, uSub, uAdd, uMul, uEq, uNe, uInA, uoSub, uoDiv, uoMod, uoLt, uoLe, uoGt, uoGe, uNeg, fI_int, fI_l, fI_r, fCmpI_int, eqF_int, eqF_bl, eqF_str, fInt_int, fAbs_int, fLen_lst, fLen_tup, fLen_red, fLen_nst, fLen_scr, fList_lst, fList_red, fIx_lst, fIx_red, fIx_tup, fIx_nst, fIx_dic, fIx_scr, isN_non, isN_int, isN_bl, isN_lst, isN_tup, isN_red, isN_str, tr_bl, tr_int, tr_lst, tr_red, blR_bl, toDs0, toDs1, inSint, lstS1, lstS2, tpS1, tpS2, tpS3, sqS1, sqS2, sqS3, sqS4, sqS5, lsS1, lsS2, lsS3, rdval, rdown, rdred, rdscr, rddic, rdnst, or_some, or_none, Option.map_some, Option.map_none, Bool.not_true, Bool.not_false, Bool.false_eq_true, if_true, if_false, reduceIte, d_size, d_names, d_neighbors, d_degree, d_far, d_links, m_size, m_names, fLst_0, fTup_0, fLst_1, fTup_1, fLst_2, fTup_2, fLst_3, fTup_3, fLst_4, fTup_4, fLst_5, fTup_5, fLst_6, fTup_6, fLst_7, fTup_7, fLst_8, fTup_8, at_1_0, at_1_m, at_2_0, at_2_1, at_2_m, at_3_0, at_3_1, at_3_2, at_3_m, at_4_0, at_4_1, at_4_2, at_4_3, at_4_m, at_5_0, at_5_1, at_5_2, at_5_3, at_5_4, at_5_m, at_6_0, at_6_1, at_6_2, at_6_3, at_6_4, at_6_5, at_6_m, in_lst_1, in_tup_1, in_lst_2, in_tup_2, in_lst_3, in_tup_3, in_lst_4, in_tup_4, in_ints, in_intsT, in_intsR, Sh.fAll_map, Sh.fAny_map, List.cons_append, List.nil_append, decide_eq_true_eq, Int.reduceLT, Int.reduceLE, Int.reduceNeg, ite_tt2, ite_tt4]
    rw [show (ns.all fun _ => true) = true from List.all_eq_true.mpr fun _ _ => rfl]
  unfold K05e.G__names_in_5
  rw [f1, f2]
  show run (K05e.G__names_in_4 (.lst W) ()) = _
  unfold K05e.G__names_in_4
  rw [f3, e5, f4]
  show run (K05e.G__names_in_3 (.lst W) ()) = _
  unfold K05e.G__names_in_3
  rw [f3, e6]; rfl
end N05
set_option maxHeartbeats 2000000
namespace N05
open PySem PySem.Spec PyProof.Rows L2 Ab Ev Com Sh Sha Run Pre Lp Txs
def rowI (ns : List Int) (nb : List (List Int)) (i : Nat) : List Int := ns.getD i 0 :: (nb.getD i []).map fun o => ns.getD o.toNat 0
def lineN (ns : List Int) (nb : List (List Int)) (i : Nat) : Str := lineS (rowI ns nb i)
def rowsP (ns : List Int) (nb : List (List Int)) (ps : List (Int × Nat)) : List D := ps.map fun p => D.tup [.int p.1, lI (rowI ns nb p.2)]
def seenP (ns : List Int) (ps : List (Int × Nat)) : List Int := ps.map fun p => ns.getD p.2 0
section
variable {ns : List Int} {nb : List (List Int)}
theorem ns_mem (h : NetOk ns nb) {i : Nat} (hi : i < nb.length) : ns.getD i 0 ∈ ns := by
  have : i < ns.length := by have := h.hn; omega
  rw [List.getD_eq_getElem?_getD, List.getElem?_eq_getElem this]
  exact List.getElem_mem this
theorem ns_inj (h : NetOk ns nb) {i j : Nat} (hi : i < nb.length) (hj : j < nb.length) (e : ns.getD i 0 = ns.getD j 0) : i = j := by
  have hn := h.hn
  have nd : ns.Nodup := ndb_iff.mp (by
    have := okNames_iff (okNet_iff h.ok).1
    exact decide_eq_true this.2.2)
  rw [List.getD_eq_getElem?_getD, List.getD_eq_getElem?_getD, List.getElem?_eq_getElem (by omega : i < ns.length), List.getElem?_eq_getElem (by omega : j < ns.length)] at e
  exact (List.getElem_inj nd).mp e
theorem ns_nn (h : NetOk ns nb) : ∀ x ∈ ns, 0 ≤ x := (okNames_iff (okNet_iff h.ok).1).2.1
theorem row_mem (h : NetOk ns nb) {i : Nat} (hi : i < nb.length) : ∀ x ∈ rowI ns nb i, x ∈ ns := by
  intro x hx
  rcases List.mem_cons.mp hx with e | e
  · rw [e]; exact ns_mem h hi
  · obtain ⟨o, ho, rfl⟩ := List.mem_map.mp e
    obtain ⟨a, b, _⟩ := h.nbr hi ho
    exact ns_mem h (by omega)
theorem row_nd (h : NetOk ns nb) {i : Nat} (hi : i < nb.length) : (rowI ns nb i).Nodup := by
  unfold rowI
  rw [List.nodup_cons]
  refine ⟨fun hm => ?_, ?_⟩
  · obtain ⟨o, ho, e⟩ := List.mem_map.mp hm
    obtain ⟨a, b, c⟩ := h.nbr hi ho
    have := ns_inj h (by omega) hi e
    omega
  · refine List.pairwise_map.mpr ?_
    refine List.Pairwise.imp_of_mem (R := (· ≠ ·)) (fun {a b} ha hb hab e => ?_) (h.nodup i)
    obtain ⟨a0, a1, _⟩ := h.nbr hi ha
    obtain ⟨b0, b1, _⟩ := h.nbr hi hb
    have := ns_inj h (by omega) (by omega) e
    omega
theorem row_len (h : NetOk ns nb) (i : Nat) : (rowI ns nb i).length ≤ 41 := by
  unfold rowI
  rw [List.length_cons, List.length_map]
  have := h.nbrow i
  have := h.small
  omega
theorem tell_at (h : NetOk ns nb) (hb : ∀ x ∈ ns, x < 1000000000) {i : Nat} (hi : i < nb.length) : apF K05e.F__names_in [.val (.str (lineN ns nb i))] = .ok (.fr (iL (rowI ns nb i))) :=
  names_at (fun n hn => ⟨ns_nn h n (row_mem h hi n hn), hb n (row_mem h hi n hn)⟩) (by unfold rowI; simp) (by have := row_len h i; omega)
theorem pass_at (r0 : List D) (s : List D × List Int) (k : Int) {l : Str} (hs : skip l = true) : K05e.G__read_rows_6 r0 (.tup [.int k, .str l]) s = .ct s := by
  have e1 : tTB (hBin fEq (Sh.hv (.str l)) (Sh.hv (.str ""))) = .ok (decide (l = "")) := by
    simp only [hUn_ok, hBin_ok, hNil_ok, hCons_ok, hSnoc_ok, hCB_ok, hO_int, hONo_ok, hSl_ok, hIf_ok, hAnd_ok, hOr_ok, hNot_ok, hChain_ok, tTru_ok, tTB_ok, tAnd_ok, tOr_ok, tNot_ok, tYes_ok, hCall_ok, hCallN_ok, hMeth_ok, hMethN_ok, hMake_ok, hMakeN_ok, hBM_ok, hGet1_dic, hGet2_dic, hGet1_k, hGet2_k, hDNew_ok, hD1_int, hPNil_ok, hPCons_str, hPCons_int, hDN_ok, iRng3_int, iRev_ok, hRg1_int, hRg2_int, hLstRg_ok, iRng1_int, iRng2_int, iIt_ok, iEn_ok, iZip_ok, q2_tup, q3_tup, q4_tup, q5_tup, argD_val, argD_fr, argD_frk, lcS_t, lcS_f, lc2S_t, lc2S_f, bnd_val, bnd_fr, bnd_frk, bnd_ex, bnd_no, bndO_fr, bndO_ex, bndK_frk, bndI_ok, iteC_t, iteC_f, iteC_ex, ret_val, ret_fr, ret_frk, ret_ex, drp_ok, drp_ex, bind_nx, bind_ct, bind_bk, Sh.bind_rt, Sh.bind_ex, run_rt, run_nx, run_ex, appO_ok, appO_fr, augG_int, Ev.bind_ok, Ev.bind_ex, Ev.bind_no, lift_some, lift_none, args, argfr, argfrk, nox_ok, uSub, uAdd, uMul, uEq, uNe, uInA, uoSub, uoDiv, uoMod, uoLt, uoLe, uoGt, uoGe, uNeg, fI_int, fI_l, fI_r, fCmpI_int, eqF_int, eqF_bl, eqF_str, fInt_int, fAbs_int, fLen_lst, fLen_tup, fLen_red, fLen_nst, fLen_scr, fList_lst, fList_red, fIx_lst, fIx_red, fIx_tup, fIx_nst, fIx_dic, fIx_scr, isN_non, isN_int, isN_bl, isN_lst, isN_tup, isN_red, isN_str, tr_bl, tr_int, tr_lst, tr_red, blR_bl, toDs0, toDs1, inSint, lstS1, lstS2, tpS1, tpS2, tpS3, sqS1, sqS2, sqS3, sqS4, sqS5, lsS1, lsS2, lsS3, rdval, rdown, rdred, rdscr, rddic, rdnst, or_some, or_none, Option.map_some, Option.map_none, Bool.not_true, Bool.not_false, Bool.false_eq_true, if_true, if_false, reduceIte, d_size, d_names, d_neighbors, d_degree, d_far, d_links, m_size, m_names, fLst_0, fTup_0, fLst_1, fTup_1, fLst_2, fTup_2, fLst_3, fTup_3, fLst_4, fTup_4, fLst_5, fTup_5, fLst_6, fTup_6, fLst_7, fTup_7, fLst_8, fTup_8, at_1_0, at_1_m, at_2_0, at_2_1, at_2_m, at_3_0, at_3_1, at_3_2, at_3_m, at_4_0, at_4_1, at_4_2, at_4_3, at_4_m, at_5_0, at_5_1, at_5_2, at_5_3, at_5_4, at_5_m, at_6_0, at_6_1, at_6_2, at_6_3, at_6_4, at_6_5, at_6_m, in_lst_1, in_tup_1, in_lst_2, in_tup_2, in_lst_3, in_tup_3, in_lst_4, in_tup_4, in_ints, in_intsT, in_intsR, Sh.fAll_map, Sh.fAny_map, List.cons_append, List.nil_append, decide_eq_true_eq, Int.reduceLT, Int.reduceLE, Int.reduceNeg, ite_tt2, ite_tt4]
  have e2 : tTru (hBM isStr fStartsw (Sh.hv (.str l)) (Sh.hv (.str "#"))) = .ok (decide ((TL.tl l).head? = some 35)) := by
    rw [← starts_one (x := l) (y := "#") (c := 35) (by decide +kernel)]; rfl
  show K05e.G__read_rows_5 r0 s (.int k) (.str l) = _
  unfold K05e.G__read_rows_5
  rw [e1, e2]
  unfold skip at hs
  have : tOr (.ok (decide (l = ("" : Str)))) (.ok (decide ((TL.tl l).head? = some 35))) = .ok true := by
    rcases Bool.or_eq_true_iff.mp hs with q | q
    · rw [q]; rfl
    · rw [q]; cases decide (l = ("" : Str)) <;> rfl
  rw [this]; rfl
theorem take_at (h : NetOk ns nb) (hb : ∀ x ∈ ns, x < 1000000000) (r0 : List D) (k : Int) {i : Nat} (hi : i < nb.length) {ps : List (Int × Nat)} (hps : ps.map (·.2) = List.range i) : K05e.G__read_rows_6 r0 (.tup [.int k, .str (lineN ns nb i)]) (rowsP ns nb ps, seenP ns ps) = .nx (rowsP ns nb (ps ++ [(k, i)]), seenP ns (ps ++ [(k, i)])) := by
  have hl : ps.length = i := by have := congrArg List.length hps; rwa [List.length_map, List.length_range] at this
  have hsm := h.small
  have hsk := skip_line (rowI ns nb i)
  have tl := tell_at h hb hi
  have hL : lineN ns nb i = lineS (rowI ns nb i) := rfl
  rw [← hL] at hsk
  generalize lineN ns nb i = l at *
  have e1 : tTB (hBin fEq (Sh.hv (.str l)) (Sh.hv (.str ""))) = .ok (decide (l = "")) := by
    simp only [hUn_ok, hBin_ok, hNil_ok, hCons_ok, hSnoc_ok, hCB_ok, hO_int, hONo_ok, hSl_ok, hIf_ok, hAnd_ok, hOr_ok, hNot_ok, hChain_ok, tTru_ok, tTB_ok, tAnd_ok, tOr_ok, tNot_ok, tYes_ok, hCall_ok, hCallN_ok, hMeth_ok, hMethN_ok, hMake_ok, hMakeN_ok, hBM_ok, hGet1_dic, hGet2_dic, hGet1_k, hGet2_k, hDNew_ok, hD1_int, hPNil_ok, hPCons_str, hPCons_int, hDN_ok, iRng3_int, iRev_ok, hRg1_int, hRg2_int, hLstRg_ok, iRng1_int, iRng2_int, iIt_ok, iEn_ok, iZip_ok, q2_tup, q3_tup, q4_tup, q5_tup, argD_val, argD_fr, argD_frk, lcS_t, lcS_f, lc2S_t, lc2S_f, bnd_val, bnd_fr, bnd_frk, bnd_ex, bnd_no, bndO_fr, bndO_ex, bndK_frk, bndI_ok, iteC_t, iteC_f, iteC_ex, ret_val, ret_fr, ret_frk, ret_ex, drp_ok, drp_ex, bind_nx, bind_ct, bind_bk, Sh.bind_rt, Sh.bind_ex, run_rt, run_nx, run_ex, appO_ok, appO_fr, augG_int, Ev.bind_ok, Ev.bind_ex, Ev.bind_no, lift_some, lift_none, args, argfr, argfrk, nox_ok, uSub, uAdd, uMul, uEq, uNe, uInA, uoSub, uoDiv, uoMod, uoLt, uoLe, uoGt, uoGe, uNeg, fI_int, fI_l, fI_r, fCmpI_int, eqF_int, eqF_bl, eqF_str, fInt_int, fAbs_int, fLen_lst, fLen_tup, fLen_red, fLen_nst, fLen_scr, fList_lst, fList_red, fIx_lst, fIx_red, fIx_tup, fIx_nst, fIx_dic, fIx_scr, isN_non, isN_int, isN_bl, isN_lst, isN_tup, isN_red, isN_str, tr_bl, tr_int, tr_lst, tr_red, blR_bl, toDs0, toDs1, inSint, lstS1, lstS2, tpS1, tpS2, tpS3, sqS1, sqS2, sqS3, sqS4, sqS5, lsS1, lsS2, lsS3, rdval, rdown, rdred, rdscr, rddic, rdnst, or_some, or_none, Option.map_some, Option.map_none, Bool.not_true, Bool.not_false, Bool.false_eq_true, if_true, if_false, reduceIte, d_size, d_names, d_neighbors, d_degree, d_far, d_links, m_size, m_names, fLst_0, fTup_0, fLst_1, fTup_1, fLst_2, fTup_2, fLst_3, fTup_3, fLst_4, fTup_4, fLst_5, fTup_5, fLst_6, fTup_6, fLst_7, fTup_7, fLst_8, fTup_8, at_1_0, at_1_m, at_2_0, at_2_1, at_2_m, at_3_0, at_3_1, at_3_2, at_3_m, at_4_0, at_4_1, at_4_2, at_4_3, at_4_m, at_5_0, at_5_1, at_5_2, at_5_3, at_5_4, at_5_m, at_6_0, at_6_1, at_6_2, at_6_3, at_6_4, at_6_5, at_6_m, in_lst_1, in_tup_1, in_lst_2, in_tup_2, in_lst_3, in_tup_3, in_lst_4, in_tup_4, in_ints, in_intsT, in_intsR, Sh.fAll_map, Sh.fAny_map, List.cons_append, List.nil_append, decide_eq_true_eq, Int.reduceLT, Int.reduceLE, Int.reduceNeg, ite_tt2, ite_tt4]
  have e2 : tTru (hBM isStr fStartsw (Sh.hv (.str l)) (Sh.hv (.str "#"))) = .ok (decide ((TL.tl l).head? = some 35)) := by
    rw [← starts_one (x := l) (y := "#") (c := 35) (by decide +kernel)]; rfl
  unfold skip at hsk
  obtain ⟨q1, q2⟩ := Bool.or_eq_false_iff.mp hsk
  have f0 : tOr (.ok (decide (l = ("" : Str)))) (.ok (decide ((TL.tl l).head? = some 35))) = .ok false := by rw [q1, q2]; rfl
  show K05e.G__read_rows_5 r0 (rowsP ns nb ps, seenP ns ps) (.int k) (.str l) = _
  unfold K05e.G__read_rows_5
  rw [e1, e2, f0, iteC_f]
  unfold K05e.G__read_rows_4
  have c : hCallN K05e.F__names_in (hCons (Sh.hv (.str l)) hNil) = .ok (.fr (iL (rowI ns nb i))) := congrArg nox tl
  rw [c, bnd_fr]
  have hnd := row_nd h hi
  have hrl := row_len h i
  have hd : dd (rowI ns nb i) = (rowI ns nb i).length := of_decide_eq_true (ndb_iff.mpr hnd)
  have e3 : hBin fSub (Sh.hv (lI (rowI ns nb i))) (Sh.hv (.int 0)) = .ok (vI (ns.getD i 0)) := congrArg Ev.lift (sub0L _ _)
  have e4 : hUn fLenSet (Sh.hv (lI (rowI ns nb i))) = .ok (vI (((rowI ns nb i).length : Nat) : Int)) := by
    rw [← hd]
    exact congrArg Ev.lift (fLenSet_iL rfl (by omega))
  have e5 : hCB fLen (hCons (Sh.hv (lI (rowI ns nb i))) hNil) = .ok (vI (((rowI ns nb i).length : Nat) : Int)) := by
    show Res.ok (vI (((iL (rowI ns nb i)).length : Nat) : Int)) = _
    rw [List.length_map]
  have e6 : inSb (seenP ns ps) (ns.getD i 0) = false := by
    unfold inSb
    refine decide_eq_false fun hm => ?_
    obtain ⟨p, hp, e⟩ := List.mem_map.mp hm
    have : p.2 ∈ List.range i := by rw [← hps]; exact List.mem_map.mpr ⟨p, hp, rfl⟩
    have := List.mem_range.mp this
    have := ns_inj h (by omega) hi e
    omega
  unfold K05e.G__read_rows_3
  rw [e4, e5, e3]
  have f1 : tTB (hUn (fIsN false) (Sh.hv (lI (rowI ns nb i)))) = .ok false := rfl
  have f2 : tTB (hBin (fInSet false) (.ok (vI (ns.getD i 0))) (Sh.hw (.thg .own (.set (seenP ns ps))))) = .ok false := by
    show Res.ok (inSb (seenP ns ps) (ns.getD i 0)) = _
    rw [e6]
  have f3 : ∀ z : Int, tTB (hBin fNe (.ok (vI z)) (.ok (vI z))) = .ok false := fun z => by
    simp only [hUn_ok, hBin_ok, hNil_ok, hCons_ok, hSnoc_ok, hCB_ok, hO_int, hONo_ok, hSl_ok, hIf_ok, hAnd_ok, hOr_ok, hNot_ok, hChain_ok, tTru_ok, tTB_ok, tAnd_ok, tOr_ok, tNot_ok, tYes_ok, hCall_ok, hCallN_ok, hMeth_ok, hMethN_ok, hMake_ok, hMakeN_ok, hBM_ok, hGet1_dic, hGet2_dic, hGet1_k, hGet2_k, hDNew_ok, hD1_int, hPNil_ok, hPCons_str, hPCons_int, hDN_ok, iRng3_int, iRev_ok, hRg1_int, hRg2_int, hLstRg_ok, iRng1_int, iRng2_int, iIt_ok, iEn_ok, iZip_ok, q2_tup, q3_tup, q4_tup, q5_tup, argD_val, argD_fr, argD_frk, lcS_t, lcS_f, lc2S_t, lc2S_f, bnd_val, bnd_fr, bnd_frk, bnd_ex, bnd_no, bndO_fr, bndO_ex, bndK_frk, bndI_ok, iteC_t, iteC_f, iteC_ex, ret_val, ret_fr, ret_frk, ret_ex, drp_ok, drp_ex, bind_nx, bind_ct, bind_bk, Sh.bind_rt, Sh.bind_ex, run_rt, run_nx, run_ex, appO_ok, appO_fr, augG_int, Ev.bind_ok, Ev.bind_ex, Ev.bind_no, lift_some, lift_none, args, argfr, argfrk, nox_ok, uSub, uAdd, uMul, uEq, uNe, uInA, uoSub, uoDiv, uoMod, uoLt, uoLe, uoGt, uoGe, uNeg, fI_int, fI_l, fI_r, fCmpI_int, eqF_int, eqF_bl, eqF_str, fInt_int, fAbs_int, fLen_lst, fLen_tup, fLen_red, fLen_nst, fLen_scr, fList_lst, fList_red, fIx_lst, fIx_red, fIx_tup, fIx_nst, fIx_dic, fIx_scr, isN_non, isN_int, isN_bl, isN_lst, isN_tup, isN_red, isN_str, tr_bl, tr_int, tr_lst, tr_red, blR_bl, toDs0, toDs1, inSint, lstS1, lstS2, tpS1, tpS2, tpS3, sqS1, sqS2, sqS3, sqS4, sqS5, lsS1, lsS2, lsS3, rdval, rdown, rdred, rdscr, rddic, rdnst, or_some, or_none, Option.map_some, Option.map_none, Bool.not_true, Bool.not_false, Bool.false_eq_true, if_true, if_false, reduceIte, d_size, d_names, d_neighbors, d_degree, d_far, d_links, m_size, m_names, fLst_0, fTup_0, fLst_1, fTup_1, fLst_2, fTup_2, fLst_3, fTup_3, fLst_4, fTup_4, fLst_5, fTup_5, fLst_6, fTup_6, fLst_7, fTup_7, fLst_8, fTup_8, at_1_0, at_1_m, at_2_0, at_2_1, at_2_m, at_3_0, at_3_1, at_3_2, at_3_m, at_4_0, at_4_1, at_4_2, at_4_3, at_4_m, at_5_0, at_5_1, at_5_2, at_5_3, at_5_4, at_5_m, at_6_0, at_6_1, at_6_2, at_6_3, at_6_4, at_6_5, at_6_m, in_lst_1, in_tup_1, in_lst_2, in_tup_2, in_lst_3, in_tup_3, in_lst_4, in_tup_4, in_ints, in_intsT, in_intsR, Sh.fAll_map, Sh.fAny_map, List.cons_append, List.nil_append, decide_eq_true_eq, Int.reduceLT, Int.reduceLE, Int.reduceNeg, ite_tt2, ite_tt4, decide_true]
  rw [f1, f2, f3]
  show K05e.G__read_rows_2 r0 (rowsP ns nb ps, seenP ns ps) (.int k) (lI (rowI ns nb i)) () = _
  unfold K05e.G__read_rows_2
  rw [e3]
  have hls : (seenP ns ps).length < 1000 := by unfold seenP; rw [List.length_map]; omega
  have st : ∀ (f : List Int → Oc (List D × List Int) (List D × List Int)), sAdd (seenP ns ps) (.ok (vI (ns.getD i 0))) f = f (seenP ns ps ++ [ns.getD i 0]) := fun f => by
    show (if (seenP ns ps).length < 1000 then f (addI (seenP ns ps) (ns.getD i 0)) else .no) = _
    rw [if_pos hls]
    unfold addI
    rw [e6]; rfl
  rw [st]
  unfold K05e.G__read_rows_1
  have e7 : hCB fTup (hCons (Sh.hv (.int k)) (hCons (Sh.hv (lI (rowI ns nb i))) hNil)) = .ok (.s (.val (.tup [.int k, lI (rowI ns nb i)]))) := rfl
  rw [e7, appO_ok, if_pos (by show (rowsP ns nb ps).length < 100000; unfold rowsP; rw [List.length_map]; omega)]
  unfold rowsP seenP
  rw [List.map_append, List.map_append]; rfl
theorem loop_at (h : NetOk ns nb) (hb : ∀ x ∈ ns, x < 1000000000) (r0 : List D) : ∀ (M : List Str) (a i : Nat) (ps : List (Int × Nat)), i ≤ nb.length → ps.map (·.2) = List.range i → M.filter (fun l => !skip l) = (List.range' i (nb.length - i)).map (lineN ns nb) → ∃ qs : List (Int × Nat), qs.map (·.2) = List.range nb.length ∧ (forG (K05e.G__read_rows_6 r0) (((M.map D.str).zipIdx a).map fun di => D.tup [.int (1 + ((di.2 : Nat) : Int)), di.1]) (rowsP ns nb ps, seenP ns ps) : Oc (List D × List Int) Empty) = .nx (rowsP ns nb qs, seenP ns qs)
  | [], a, i, ps, hi, hps, hM => by
    have e : nb.length - i = 0 := by
      have := congrArg List.length hM
      rw [List.length_map, List.length_range'] at this
      exact this.symm
    exact ⟨ps, by rw [hps, show i = nb.length by omega], rfl⟩
  | l :: M, a, i, ps, hi, hps, hM => by
    rw [List.map_cons, List.zipIdx_cons, List.map_cons]
    unfold forG
    cases hs : skip l with
    | true =>
      rw [pass_at r0 _ _ hs]
      rw [List.filter_cons, if_neg (by rw [hs]; decide)] at hM
      exact loop_at h hb r0 M (a + 1) i ps hi hps hM
    | false =>
      rw [List.filter_cons, if_pos (by rw [hs]; rfl)] at hM
      have hlt : i < nb.length := by
        rcases Nat.lt_or_ge i nb.length with z | z
        · exact z
        · rw [show nb.length - i = 0 by omega] at hM; cases hM
      rw [show nb.length - i = (nb.length - (i + 1)) + 1 by omega, List.range'_succ, List.map_cons] at hM
      injection hM with h1 h2
      rw [h1, take_at h hb r0 _ hlt hps]
      exact loop_at h hb r0 M (a + 1) (i + 1) (ps ++ [(1 + ((a : Nat) : Int), i)]) (by omega) (by rw [List.map_append, hps, List.range_succ]; rfl) h2
theorem rows_at (h : NetOk ns nb) (hb : ∀ x ∈ ns, x < 1000000000) {M : List Str} (hM : M.filter (fun l => !skip l) = (List.range nb.length).map (lineN ns nb)) : ∃ qs : List (Int × Nat), qs.map (·.2) = List.range nb.length ∧ apF K05e.F__read_rows [.val (.lst (M.map D.str))] = .ok (.fr (rowsP ns nb qs)) := by
  obtain ⟨qs, h1, h2⟩ := loop_at h hb [] M 0 0 [] (Nat.zero_le _) rfl (by rw [hM, Nat.sub_zero, List.range_eq_range'])
  refine ⟨qs, h1, (K05e.le__read_rows _).ok ?_⟩
  have h2 : (forG (K05e.G__read_rows_6 []) (enLK 1 (M.map D.str)) ([], []) : Oc (List D × List Int) Empty) = .nx (rowsP ns nb qs, seenP ns qs) := h2
  have e1 : iEnK (Sh.hv (.lst (M.map D.str))) (Sh.hv (.int 1)) = .ok (enLK 1 (M.map D.str)) := rfl
  show run (bndI (iEnK (Sh.hv (.lst (M.map D.str))) (Sh.hv (.int 1))) fun l_ => (forG (K05e.G__read_rows_6 []) l_ ([], ([] : List Int))).bind (fun s4_ => .rt (.fr s4_.1))) = _
  rw [e1, bndI_ok, h2]; rfl
end
end N05
set_option maxHeartbeats 2000000
namespace Thn
open PySem PySem.Spec PyProof.Rows L2 Ab Ev Com Sh Sha Run Pre
section
variable {FT : Str → List (Str × Str)} {dt : Str → List (Str × Fn)} {ns : List Int} {nb : List (List Int)} {c1 c2 : Str} {fs1 fs2 : List (Str × D)} {bd : D} {ins : List D} {n1 n2 : Bool} {R1 R2 : Nat} {st1 st2 : Nat → Nat → D} {lt1 lt2 : Nat → Nat → List D} {out1 out2 : Nat → D}
abbrev fsT (n : Bool) (o1 o2 : D) : List (Str × D) := [("named", .bl n), ("_first", o1), ("_second", o2)]
abbrev oT (n : Bool) (o1 o2 : D) : D := .obj "Then" (fsT n o1 o2)
theorem f1 {n : Bool} {o1 o2 : D} : fFld [("Then", "_first")] "_first" (.val (oT n o1 o2)) = some (.s (.val o1)) := rfl
theorem f2 {n : Bool} {o1 o2 : D} : fFld [("Then", "_second")] "_second" (.val (oT n o1 o2)) = some (.s (.val o2)) := rfl
def Gv (e : Res R) (d : D) : Prop := ∃ r, e = .ok r ∧ r.arg = .val d
theorem Gv.of {F : Fn} {as : List Sl} {d : D} (h : RxD (F as) d) (ok : okArgs as = true) : Gv (nox (apF F as)) d := RxD.res h ok
end
end Thn
namespace Mth
def Pr (n : Int) : Prop := 2 ≤ n ∧ ∀ d : Int, 2 ≤ d → d * d ≤ n → n % d ≠ 0
open Classical in
noncomputable def pr (n : Int) : Bool := decide (Pr n)
end Mth
namespace Mth
end Mth
namespace Mth
def hv (q x : Int) : Nat → Int → Int
  | 0, _ => 0
  | n + 1, c => c % q + x * hv q x n (c / q)
def ev (x : Int) : List Int → Int
  | [] => 0
  | a :: l => a + x * ev x l
end Mth
set_option maxHeartbeats 2000000
namespace Pal
open PySem PySem.Spec PyProof.Rows L2 Ab Ev Com Sh Sha Run Pre Mth
theorem at_last {l : List D} {d : D} (h : l ≠ []) (e : l.getLast h = d) : atI l (-1) = some d := by
  have hl : 0 < l.length := List.length_pos_iff.mpr h
  unfold atI
  have : ixN l.length (-1) = some (l.length - 1) := by
    unfold ixN
    rw [if_neg (by omega), if_pos (by omega)]
    congr 1; omega
  rw [this]
  show l[l.length - 1]? = some d
  rw [List.getElem?_eq_getElem (by omega), ← e, List.getLast_eq_getElem]
end Pal
set_option maxHeartbeats 2000000
namespace Shr
open PySem PySem.Spec PyProof.Rows L2 Ab Ev Com Sh Sha Run Pre Mth Pal
end Shr
set_option maxHeartbeats 2000000
namespace Col
open PySem PySem.Spec PyProof.Rows L2 Ab Ev Com Sh Sha Run Pre Pal Shr Thn
section
variable {FT : Str → List (Str × Str)} {dt : Str → List (Str × Fn)} {ns : List Int} {nb : List (List Int)} {ins : List D} {R : Nat} {st : Nat → Nat → D} {lt : Nat → Nat → List D} {out : Nat → D}
end
end Col
set_option maxHeartbeats 2000000
namespace Few
open PySem PySem.Spec PyProof.Rows L2 Ab Ev Com Sh Sha Run Pre Pal Shr Thn Col
theorem map_getD {l : List Int} {n : Nat} (h : l.length = n) : (List.range n).map (fun i => l.getD i 0) = l := by
  subst h
  refine List.ext_getElem? fun i => ?_
  rw [List.getElem?_map]
  by_cases hi : i < l.length
  · rw [List.getElem?_range hi, List.getElem?_eq_getElem hi]
    show some (l.getD i 0) = _
    rw [List.getD_eq_getElem?_getD, List.getElem?_eq_getElem hi]; rfl
  · rw [List.getElem?_eq_none (by rw [List.length_range]; omega), List.getElem?_eq_none (by omega)]; rfl
end Few
set_option maxHeartbeats 2000000
namespace N05
open PySem PySem.Spec PyProof.Rows L2 Ab Ev Com Sh Sha Run Pre Lp Txs
theorem en_range (n : Nat) (g : Nat → D) : enL ((List.range n).map g) = (List.range n).map fun i => D.tup [.int ((i : Nat) : Int), g i] := by
  unfold enL
  refine List.ext_getElem (by simp) fun i h1 h2 => ?_
  simp
theorem lk_map {α : Type} {key : α → Int} {val : α → D} : ∀ {l : List α} {a : α}, a ∈ l → (l.map key).Nodup → lkD (l.map fun x => ((Sum.inl (key x) : Key), val x)) (.inl (key a)) = some (val a)
  | b :: l, a, ha, hk => by
    rw [List.map_cons, List.nodup_cons] at hk
    unfold lkD
    rw [List.map_cons, List.find?_cons]
    rcases List.mem_cons.mp ha with e | e
    · rw [e, decide_eq_true rfl]; rfl
    · have : decide ((Sum.inl (key b) : Key) = .inl (key a)) = false := decide_eq_false fun z => hk.1 (by
        rw [Sum.inl.inj z]; exact List.mem_map.mpr ⟨a, e, rfl⟩)
      rw [this]
      exact lk_map e hk.2
theorem ps_range {n : Nat} {qs : List (Int × Nat)} (h : qs.map (·.2) = List.range n) : ∃ ks : Nat → Int, qs = (List.range n).map fun j => (ks j, j) := by
  have hl : qs.length = n := by have := congrArg List.length h; rwa [List.length_map, List.length_range] at this
  refine ⟨fun j => (qs.getD j (0, 0)).1, List.ext_getElem (by simp [hl]) fun i h1 h2 => ?_⟩
  have e : (qs.map (·.2))[i]'(by rw [List.length_map]; exact h1) = i := by simp [h]
  rw [List.getElem_map] at e
  have g : qs.getD i (0, 0) = qs[i] := by rw [List.getD_eq_getElem?_getD, List.getElem?_eq_getElem h1]; rfl
  rw [List.getElem_map, List.getElem_range]
  show qs[i] = ((qs.getD i (0, 0)).1, i)
  rw [g]
  exact Prod.ext rfl e
def rowD (ns : List Int) (nb : List (List Int)) (ks : Nat → Int) (j : Nat) : D := .tup [.int (ks j), lI (rowI ns nb j)]
section
variable {ns : List Int} {nb : List (List Int)}
theorem rows_at' (h : NetOk ns nb) (hb : ∀ x ∈ ns, x < 1000000000) {M : List Str} (hM : M.filter (fun l => !skip l) = (List.range nb.length).map (lineN ns nb)) : ∃ ks : Nat → Int, apF K05e.F__read_rows [.val (.lst (M.map D.str))] = .ok (.fr ((List.range nb.length).map (rowD ns nb ks))) := by
  obtain ⟨qs, h1, h2⟩ := rows_at h hb hM
  obtain ⟨ks, e⟩ := ps_range h1
  refine ⟨ks, ?_⟩
  rw [h2, e]
  unfold rowsP
  rw [List.map_map]; rfl
theorem key_nd (h : NetOk ns nb) : ((List.range nb.length).map fun j => ns.getD j 0).Nodup := by
  refine List.pairwise_map.mpr (List.Pairwise.imp_of_mem (R := (· ≠ ·)) (fun {a b} ha hb hab e => ?_) List.nodup_range)
  exact hab (ns_inj h (List.mem_range.mp ha) (List.mem_range.mp hb) e)
theorem tail_at (i : Nat) : hSl (Sh.hv (lI (rowI ns nb i))) (hO (Sh.hv (.int 1))) hONo = .ok (.fr (iL ((nb.getD i []).map fun o => ns.getD o.toNat 0))) := by
  have := sl_from (l := iL (rowI ns nb i)) (a := 1) (by unfold rowI; rw [List.length_map, List.length_cons]; omega)
  show Ev.lift (fSl (.val (.lst _)) (some ((1 : Nat) : Int)) none) = _
  rw [this]; rfl
theorem head_at (i : Nat) : hBin fSub (Sh.hv (lI (rowI ns nb i))) (Sh.hv (.int 0)) = .ok (vI (ns.getD i 0)) := congrArg Ev.lift (sub0L _ _)
theorem others_at (h : NetOk ns nb) (ks : Nat → Int) : apF K05e.F__check_others [.val (.lst ((List.range nb.length).map (rowD ns nb ks)))] = .ok (.s (.val .non)) := by
  refine (K05e.le__check_others _).ok ?_
  have hsm := h.small
  have dc : hDc (iIt (Sh.hv (.lst ((List.range nb.length).map (rowD ns nb ks))))) K05e.G__check_others_2 = .ok (.frk ((List.range nb.length).map fun j => ((Sum.inl (ns.getD j 0) : Key), lI (rowI ns nb j)))) := by
    have := dcR_new (f := K05e.G__check_others_2) (h := rowD ns nb ks) (k := fun j => (Sum.inl (ns.getD j 0) : Key)) (v := fun j => lI (rowI ns nb j)) (List.range nb.length) [] (fun j hj => by
      show K05e.G__check_others_1 (.int (ks j)) (lI (rowI ns nb j)) = _
      unfold K05e.G__check_others_1
      rw [head_at]; rfl) (by
        have := key_nd h
        refine List.pairwise_map.mpr ((List.pairwise_map.mp this).imp fun {a b} hab e => hab (Sum.inl.inj e))) (fun _ _ _ hh => nomatch hh) (by rw [List.length_range]; show 0 + _ < _; omega)
    show (match dcR K05e.G__check_others_2 ((List.range nb.length).map (rowD ns nb ks)) [] with | some l => Res.ok (R.frk l) | none => .no) = _
    rw [this]; rfl
  have lk : ∀ j, j < nb.length → lkD ((List.range nb.length).map fun j => ((Sum.inl (ns.getD j 0) : Key), lI (rowI ns nb j))) (.inl (ns.getD j 0)) = some (lI (rowI ns nb j)) := fun j hj => lk_map (key := fun j => ns.getD j 0) (val := fun j => lI (rowI ns nb j)) (List.mem_range.mpr hj) (key_nd h)
  rw [show K05e.G__check_others (.lst ((List.range nb.length).map (rowD ns nb ks))) = run (bnd (hDc (iIt (Sh.hv (.lst ((List.range nb.length).map (rowD ns nb ks))))) K05e.G__check_others_2) (K05e.G__check_others_6 (.lst ((List.range nb.length).map (rowD ns nb ks))))) from rfl, dc, bnd_frk]
  generalize ((List.range nb.length).map fun j => ((Sum.inl (ns.getD j 0) : Key), lI (rowI ns nb j))) = dd_ at *
  have inner : ∀ i, i < nb.length → K05e.G__check_others_5 (.dic dd_) (rowD ns nb ks i) () = .nx () := fun i hi => by
    show K05e.G__check_others_4 (.dic dd_) (.int (ks i)) (lI (rowI ns nb i)) = _
    unfold K05e.G__check_others_4
    rw [tail_at]
    have lp := forG_all (β := Unit) (f := K05e.G__check_others_3 (.dic dd_) (lI (rowI ns nb i))) (h := fun o : Int => D.int (ns.getD o.toNat 0)) (s := ()) (r := .s (.val .non)) (fun _ => true) (nb.getD i []) (fun o ho => by
      rw [if_pos rfl]
      obtain ⟨o0, o1, _⟩ := h.nbr hi ho
      have ol : o.toNat < nb.length := by omega
      have l1 := lk o.toNat ol
      have bk := h.back hi ho
      have b1 : ns.getD i 0 ∈ rowI ns nb o.toNat := List.mem_cons_of_mem _ (List.mem_map.mpr ⟨((i : Nat) : Int), bk, by rw [Int.toNat_natCast]⟩)
      unfold K05e.G__check_others_3
      rw [head_at]
      have e1 : tTB (hBin (fInA true) (Sh.hv (.int (ns.getD o.toNat 0))) (Sh.hv (.dic dd_))) = .ok false := by
        show Ev.Res.bind (Ev.lift (fInA true (.val (.int (ns.getD o.toNat 0))) (.val (.dic dd_)))) _ = _
        rw [uInA, show fIn true (.val (.int (ns.getD o.toNat 0))) (.val (.dic dd_)) = none from rfl, or_none, fDIn_dic, l1]; rfl
      have e2 : hBin fSub (Sh.hv (.dic dd_)) (Sh.hv (.int (ns.getD o.toNat 0))) = .ok (.s (.val (lI (rowI ns nb o.toNat)))) := by
        show Ev.lift (fSub (.val (.dic dd_)) (.val (.int (ns.getD o.toNat 0)))) = _
        rw [uSub, fIx_dic, or_none, fDGet_int, l1]; rfl
      have e3 : tTB (hBin (fInA true) (.ok (vI (ns.getD i 0))) (.ok (.s (.val (lI (rowI ns nb o.toNat)))))) = .ok false := by
        show Ev.Res.bind (Ev.lift (fInA true (.val (.int (ns.getD i 0))) (.val (lI (rowI ns nb o.toNat))))) _ = _
        rw [uInA, in_ints, decide_eq_true b1]; rfl
      rw [e1, e2, e3]; rfl)
    rw [show (nb.getD i []).all (fun _ => true) = true from List.all_eq_true.mpr fun _ _ => rfl, if_pos rfl] at lp
    show (bndI (.ok (iL ((nb.getD i []).map fun o => ns.getD o.toNat 0))) fun l_ => (forG (K05e.G__check_others_3 (.dic dd_) (lI (rowI ns nb i))) l_ ()).bind (fun s8_ => .nx ())) = _
    rw [bndI_ok, show iL ((nb.getD i []).map fun o => ns.getD o.toNat 0) = (nb.getD i []).map (fun o : Int => D.int (ns.getD o.toNat 0)) by unfold iL; rw [List.map_map]; rfl, lp]; rfl
  have lp := forG_all (β := Empty) (f := K05e.G__check_others_5 (.dic dd_)) (h := rowD ns nb ks) (s := ()) (r := .s (.val .non)) (fun _ => true) (List.range nb.length) (fun i hi => by rw [if_pos rfl]; exact inner i (List.mem_range.mp hi))
  rw [show (List.range nb.length).all (fun _ => true) = true from List.all_eq_true.mpr fun _ _ => rfl, if_pos rfl] at lp
  show run (bndI (.ok ((List.range nb.length).map (rowD ns nb ks))) fun l_ => (forG (K05e.G__check_others_5 (.dic dd_)) l_ ()).bind (fun s9_ => .nx ())) = _
  rw [bndI_ok, lp]; rfl
end
end N05
set_option maxHeartbeats 2000000
namespace N05
open PySem PySem.Spec PyProof.Rows L2 Ab Ev Com Sh Sha Run Pre Lp Txs
theorem lines_at {T : Str} {M : List Str} (h0 : M ≠ []) (hs : Txt.split T nl = M) (hl : T.length ≤ 1000000) : ∃ M' : List Str, M'.filter (fun l => !skip l) = M.filter (fun l => !skip l) ∧ apF K05e.F__lines_of [.val (.str T)] = .ok (.fr (M'.map D.str)) := by
  have e1 : hBM isStr fSplit (Sh.hv (.str T)) (Sh.hv (.str "\n")) = .ok (.fr (M.map D.str)) := by
    show Ev.lift (fSplit (.val (.str T)) (.val (.str nl))) = _
    unfold fSplit
    dsimp only
    rw [if_pos ⟨by decide +kernel, by show T.length + 2 ≤ 2 ^ 24; omega⟩, hs]; rfl
  obtain ⟨A, z, rfl⟩ : ∃ A z, M = A ++ [z] := ⟨M.dropLast, M.getLast h0, (List.dropLast_concat_getLast h0).symm⟩
  have ix : hBin fSub (Sh.hr ((A ++ [z]).map D.str)) (hUn fNeg (Sh.hv (.int 1))) = .ok (.s (.val (.str z))) := by
    show Ev.lift (((atI ((A ++ [z]).map D.str) (-1)).map fun d => R.s (.val d)).or _) = _
    rw [Pal.at_last (d := .str z) (by simp) (by simp)]; rfl
  have eq : tTB (hBin fEq (.ok (.s (.val (.str z)))) (Sh.hv (.str ""))) = .ok (decide (z = "")) := by
    simp only [hUn_ok, hBin_ok, hNil_ok, hCons_ok, hSnoc_ok, hCB_ok, hO_int, hONo_ok, hSl_ok, hIf_ok, hAnd_ok, hOr_ok, hNot_ok, hChain_ok, tTru_ok, tTB_ok, tAnd_ok, tOr_ok, tNot_ok, tYes_ok, hCall_ok, hCallN_ok, hMeth_ok, hMethN_ok, hMake_ok, hMakeN_ok, hBM_ok, hGet1_dic, hGet2_dic, hGet1_k, hGet2_k, hDNew_ok, hD1_int, hPNil_ok, hPCons_str, hPCons_int, hDN_ok, iRng3_int, iRev_ok, hRg1_int, hRg2_int, hLstRg_ok, iRng1_int, iRng2_int, iIt_ok, iEn_ok, iZip_ok, q2_tup, q3_tup, q4_tup, q5_tup, argD_val, argD_fr, argD_frk, lcS_t, lcS_f, lc2S_t, lc2S_f, bnd_val, bnd_fr, bnd_frk, bnd_ex, bnd_no, bndO_fr, bndO_ex, bndK_frk, bndI_ok, iteC_t, iteC_f, iteC_ex, ret_val, ret_fr, ret_frk, ret_ex, drp_ok, drp_ex, bind_nx, bind_ct, bind_bk, Sh.bind_rt, Sh.bind_ex, run_rt, run_nx, run_ex, appO_ok, appO_fr, augG_int, Ev.bind_ok, Ev.bind_ex, Ev.bind_no, lift_some, lift_none, args, argfr, argfrk, nox_ok, uSub, uAdd, uMul, uEq, uNe, uInA, uoSub, uoDiv, uoMod, uoLt, uoLe, uoGt, uoGe, uNeg, fI_int, fI_l, fI_r, fCmpI_int, eqF_int, eqF_bl, eqF_str, fInt_int, fAbs_int, fLen_lst, fLen_tup, fLen_red, fLen_nst, fLen_scr, fList_lst, fList_red, fIx_lst, fIx_red, fIx_tup, fIx_nst, fIx_dic, fIx_scr, isN_non, isN_int, isN_bl, isN_lst, isN_tup, isN_red, isN_str, tr_bl, tr_int, tr_lst, tr_red, blR_bl, toDs0, toDs1, inSint, lstS1, lstS2, tpS1, tpS2, tpS3, sqS1, sqS2, sqS3, sqS4, sqS5, lsS1, lsS2, lsS3, rdval, rdown, rdred, rdscr, rddic, rdnst, or_some, or_none, Option.map_some, Option.map_none, Bool.not_true, Bool.not_false, Bool.false_eq_true, if_true, if_false, reduceIte, d_size, d_names, d_neighbors, d_degree, d_far, d_links, m_size, m_names, fLst_0, fTup_0, fLst_1, fTup_1, fLst_2, fTup_2, fLst_3, fTup_3, fLst_4, fTup_4, fLst_5, fTup_5, fLst_6, fTup_6, fLst_7, fTup_7, fLst_8, fTup_8, at_1_0, at_1_m, at_2_0, at_2_1, at_2_m, at_3_0, at_3_1, at_3_2, at_3_m, at_4_0, at_4_1, at_4_2, at_4_3, at_4_m, at_5_0, at_5_1, at_5_2, at_5_3, at_5_4, at_5_m, at_6_0, at_6_1, at_6_2, at_6_3, at_6_4, at_6_5, at_6_m, in_lst_1, in_tup_1, in_lst_2, in_tup_2, in_lst_3, in_tup_3, in_lst_4, in_tup_4, in_ints, in_intsT, in_intsR, Sh.fAll_map, Sh.fAny_map, List.cons_append, List.nil_append, decide_eq_true_eq, Int.reduceLT, Int.reduceLE, Int.reduceNeg, ite_tt2, ite_tt4]
  have go : K05e.G__lines_of (.str T) = run (K05e.G__lines_of_2 ((A ++ [z]).map D.str)) := by
    rw [show K05e.G__lines_of (.str T) = run (bndO (hBM isStr fSplit (Sh.hv (.str T)) (Sh.hv (.str "\n"))) K05e.G__lines_of_2) from rfl, e1]; rfl
  by_cases hz : z = ("" : Str)
  · refine ⟨A, ?_, (K05e.le__lines_of _).ok ?_⟩
    · rw [List.filter_append, hz]
      rw [show [("" : Str)].filter (fun l => !skip l) = [] by decide +kernel, List.append_nil]
    · rw [go]
      unfold K05e.G__lines_of_2
      rw [ix, eq, decide_eq_true hz, iteC_t]
      unfold K05e.G__lines_of_1 popO
      have : ((A ++ [z]).map D.str)[((A ++ [z]).map D.str).length - 1]? = some (.str z) := by simp
      rw [this]
      dsimp only
      have : ((A ++ [z]).map D.str).take (((A ++ [z]).map D.str).length - 1) = A.map D.str := by simp
      rw [this]; rfl
  · refine ⟨A ++ [z], rfl, (K05e.le__lines_of _).ok ?_⟩
    rw [go]
    unfold K05e.G__lines_of_2
    rw [ix, eq, decide_eq_false hz, iteC_f]; rfl
section
variable {ns : List Int} {nb : List (List Int)}
theorem map_rows (nb : List (List Int)) : (List.range nb.length).map (fun i => lI (nb.getD i [])) = nb.map lI := by
  refine List.ext_getElem (by simp) fun i h1 h2 => ?_
  have : i < nb.length := by rw [List.length_map] at h2; exact h2
  simp [List.getD_eq_getElem?_getD, List.getElem?_eq_getElem this]
theorem read_at (h : NetOk ns nb) (hb : ∀ x ∈ ns, x < 1000000000) {T : Str} {M : List Str} (h0 : M ≠ []) (hs : Txt.split T nl = M) (hl : T.length ≤ 1000000) (hM : M.filter (fun l => !skip l) = (List.range nb.length).map (lineN ns nb)) : apF K05e.F_read_network [.val (.str T)] = .ok (.s (.val (netO ns nb))) := by
  obtain ⟨M', hf, el⟩ := lines_at h0 hs hl
  rw [hM] at hf
  obtain ⟨ks, er⟩ := rows_at' h hb hf
  have eo := others_at h ks
  have hsm := h.small
  have hn := h.hn
  have hpos := h.pos
  refine (K05e.le_read_network _).ok ?_
  have c1 : hCallN K05e.F__lines_of (hCons (Sh.hv (.str T)) hNil) = .ok (.fr (M'.map D.str)) := congrArg nox el
  have c2 : hCall K05e.F__read_rows (hCons (Sh.hv (.lst (M'.map D.str))) hNil) = .ok (.fr ((List.range nb.length).map (rowD ns nb ks))) := er
  have c3 : hCall K05e.F__check_others (hCons (Sh.hv (.lst ((List.range nb.length).map (rowD ns nb ks)))) hNil) = .ok (.s (.val .non)) := eo
  rw [show K05e.G_read_network (.str T) = run (bnd (hCallN K05e.F__lines_of (hCons (Sh.hv (.str T)) hNil)) K05e.G_read_network_10) from rfl, c1, bnd_fr]
  unfold K05e.G_read_network_10
  rw [c2, bnd_fr]
  have tr : tNot (tTru (Sh.hv (.lst ((List.range nb.length).map (rowD ns nb ks))))) = .ok false := by
    cases hq : (List.range nb.length).map (rowD ns nb ks) with
    | nil =>
      have := congrArg List.length hq
      rw [List.length_map, List.length_range] at this
      exact absurd this (by show nb.length ≠ 0; omega)
    | cons a l => rfl
  unfold K05e.G_read_network_9
  rw [tr, iteC_f]
  unfold K05e.G_read_network_8
  rw [c3, drp_ok]
  have en : iEn (Sh.hv (.lst ((List.range nb.length).map (rowD ns nb ks)))) = .ok ((List.range nb.length).map fun j => D.tup [.int ((j : Nat) : Int), rowD ns nb ks j]) := by
    show Res.ok (enL ((List.range nb.length).map (rowD ns nb ks))) = _
    rw [en_range]
  have dc : hDc (.ok ((List.range nb.length).map fun j => D.tup [.int ((j : Nat) : Int), rowD ns nb ks j])) K05e.G_read_network_3 = .ok (.frk ((List.range nb.length).map fun j => ((Sum.inl (ns.getD j 0) : Key), D.int ((j : Nat) : Int)))) := by
    have := dcR_new (f := K05e.G_read_network_3) (h := fun j => D.tup [.int ((j : Nat) : Int), rowD ns nb ks j]) (k := fun j => (Sum.inl (ns.getD j 0) : Key)) (v := fun j => D.int ((j : Nat) : Int)) (List.range nb.length) [] (fun j hj => by
      show K05e.G_read_network_1 (.int ((j : Nat) : Int)) (.int (ks j)) (lI (rowI ns nb j)) = _
      unfold K05e.G_read_network_1
      rw [head_at]; rfl) (by
        have := key_nd h
        refine List.pairwise_map.mpr ((List.pairwise_map.mp this).imp fun {a b} hab e => hab (Sum.inl.inj e))) (fun _ _ _ hh => nomatch hh) (by rw [List.length_range]; show 0 + _ < _; omega)
    show (match dcR K05e.G_read_network_3 ((List.range nb.length).map fun j => D.tup [.int ((j : Nat) : Int), rowD ns nb ks j]) [] with | some l => Res.ok (R.frk l) | none => .no) = _
    rw [this]; rfl
  rw [en, dc, bnd_frk]
  have lk : ∀ j, j < nb.length → lkD ((List.range nb.length).map fun j => ((Sum.inl (ns.getD j 0) : Key), D.int ((j : Nat) : Int))) (.inl (ns.getD j 0)) = some (.int ((j : Nat) : Int)) := fun j hj => lk_map (key := fun j => ns.getD j 0) (val := fun j => D.int ((j : Nat) : Int)) (List.mem_range.mpr hj) (key_nd h)
  have nm : hCB fListK (hCons (Sh.hv (.dic ((List.range nb.length).map fun j => ((Sum.inl (ns.getD j 0) : Key), D.int ((j : Nat) : Int))))) hNil) = .ok (.fr (iL ns)) := by
    show Res.ok (R.fr (dkL ((List.range nb.length).map fun j => ((Sum.inl (ns.getD j 0) : Key), D.int ((j : Nat) : Int))))) = _
    unfold dkL
    rw [List.map_map]
    have : ns = (List.range nb.length).map fun i => ns.getD i 0 := (Few.map_getD hn.symm).symm
    rw [show iL ns = iL ((List.range nb.length).map fun i => ns.getD i 0) by rw [← this]]
    unfold iL
    rw [List.map_map]; rfl
  generalize ((List.range nb.length).map fun j => ((Sum.inl (ns.getD j 0) : Key), D.int ((j : Nat) : Int))) = dd_ at *
  unfold K05e.G_read_network_7
  have li : hLc (iIt (Sh.hv (.lst ((List.range nb.length).map (rowD ns nb ks))))) (K05e.G_read_network_6 (.dic dd_)) = .ok (.fr (nb.map lI)) := by
    rw [← map_rows]
    refine hLc_map (h := rowD ns nb ks) (k := fun i => lI (nb.getD i [])) (fun i hi => ?_) (by rw [List.length_range]; omega)
    have hi := List.mem_range.mp hi
    show K05e.G_read_network_5 (.dic dd_) (.int (ks i)) (lI (rowI ns nb i)) = _
    unfold K05e.G_read_network_5
    rw [tail_at]
    have inn : hLc (.ok ((nb.getD i []).map fun o => D.int (ns.getD o.toNat 0))) (K05e.G_read_network_4 (.dic dd_)) = .ok (.fr ((nb.getD i []).map D.int)) := hLc_map (h := fun o : Int => D.int (ns.getD o.toNat 0)) (fun o ho => by
      obtain ⟨o0, o1, _⟩ := h.nbr hi ho
      have l1 := lk o.toNat (by omega)
      unfold K05e.G_read_network_4
      have e2 : hBin fSub (Sh.hv (.dic dd_)) (Sh.hv (.int (ns.getD o.toNat 0))) = .ok (.s (.val (.int o))) := by
        show Ev.lift (fSub (.val (.dic dd_)) (.val (.int (ns.getD o.toNat 0)))) = _
        rw [uSub, fIx_dic, or_none, fDGet_int, l1, Int.toNat_of_nonneg o0]; rfl
      rw [e2]; rfl) (by have := h.nbrow i; omega)
    show lcS tYes (hLc (.ok (iL ((nb.getD i []).map fun o => ns.getD o.toNat 0))) (K05e.G_read_network_4 (.dic dd_))) = _
    rw [show iL ((nb.getD i []).map fun o => ns.getD o.toNat 0) = (nb.getD i []).map (fun o : Int => D.int (ns.getD o.toNat 0)) by unfold iL; rw [List.map_map]; rfl, inn]; rfl
  rw [nm, li]
  have ini := apI_v (c := "Network") (F := I_Network) (as := [.val (lI ns), .val (.lst (nb.map lI))]) rfl (net_init h.ok (by omega) h.row4)
  show run (ret (apI "Network" I_Network [.val (lI ns), .val (.lst (nb.map lI))])) = _
  rw [ini]; rfl
end
end N05
set_option maxHeartbeats 2000000
namespace N05
open PySem PySem.Spec PyProof.Rows L2 Ab Ev Com Sh Sha Run Pre Lp Txs
theorem sub_i (l : List Int) {k : Nat} (h : k < l.length) : fSub (.val (lI l)) (.val (.int ((k : Nat) : Int))) = some (vI (l.getD k 0)) := by
  show ((atI (iL l) ((k : Nat) : Int)).map fun d => R.s (.val d)).or _ = _
  rw [at_nat (by omega), Int.toNat_natCast, List.getElem?_map, List.getD_eq_getElem?_getD, List.getElem?_eq_getElem h]; rfl
theorem sub_z (l : List Int) {k : Int} (h0 : 0 ≤ k) (h : k.toNat < l.length) : fSub (.val (lI l)) (.val (.int k)) = some (vI (l.getD k.toNat 0)) := by
  have := sub_i l h
  rwa [Int.toNat_of_nonneg h0] at this
theorem add_l {a b : List D} (h : a.length + b.length ≤ 100000) : fAdd (.val (.lst a)) (.val (.lst b)) = some (.fr (a ++ b)) := by
  rw [uAdd, fCat_ll h]; rfl
theorem add_s {a b : Str} (h : a.length + b.length ≤ 100000) : fAdd (.val (.str a)) (.val (.str b)) = some (vS (a ++ b)) := by
  rw [uAdd]
  show (fStrCat (.val (.str a)) (.val (.str b))) = _
  unfold fStrCat
  dsimp only
  rw [if_pos (by omega)]
theorem str_i {n : Int} (h0 : 0 ≤ n) (h1 : n < 1000000000) : hCB fStr (hCons (Sh.hv (.int n)) hNil) = .ok (vS (wd n)) := by
  show Ev.lift (if n.natAbs.log2 < 1920 then some (vS (wd n)) else none) = _
  rw [if_pos]; rfl
  have : n.natAbs < 2 ^ 30 := by omega
  by_cases z : n.natAbs = 0
  · rw [z]; decide
  · have := (Nat.log2_lt z).mpr this
    omega
theorem join_at {y : Str} {ps : List Str} {m : Nat} (hp : ∀ p ∈ ps, p.length ≤ m) (hl : ps.length * m + ps.length * y.length ≤ 1000000) : fJoin (.val (.str y)) (.val (.lst (ps.map D.str))) = some (vS (Txt.join y ps)) := by
  show (match strsOf (ps.map D.str) with | some ys => if (List.map (fun z : Str => z.length) ys).sum + ys.length * y.length ≤ 16777216 then some (vS (Txt.join y ys)) else none | none => none) = _
  rw [strsOf_strs]
  dsimp only
  have := sum_len hp
  rw [if_pos (by omega)]
theorem write_at {l : List Int} (h : ∀ n ∈ l, 0 ≤ n ∧ n < 1000000000) (hl : l.length ≤ 1000) : hBM isStr fJoin (Sh.hv (.str " ")) (hBin fAdd (hCB fLst (hCons (Sh.hv (.str "node")) hNil)) (.ok (.fr (l.map fun n => D.str (wd n))))) = .ok (vS (lineS l)) := by
  have e1 : hBin fAdd (hCB fLst (hCons (Sh.hv (.str "node")) hNil)) (.ok (.fr (l.map fun n => D.str (wd n)))) = .ok (.fr ((("node" : Str) :: l.map wd).map D.str)) := by
    show Ev.lift (fAdd (.val (.lst [.str "node"])) (.val (.lst (l.map fun n => D.str (wd n))))) = _
    rw [add_l (by rw [List.length_map]; show 1 + _ ≤ _; omega), List.map_cons, List.map_map]; rfl
  rw [e1]
  show Ev.lift (fJoin (.val (.str sp)) (.val (.lst ((("node" : Str) :: l.map wd).map D.str)))) = _
  rw [join_at (m := 9) (fun p hp => ?_) (by rw [List.length_cons, List.length_map, show sp.length = 1 by decide +kernel]; omega)]
  · rfl
  · rcases List.mem_cons.mp hp with e | e
    · rw [e]; decide +kernel
    · obtain ⟨n, hn, rfl⟩ := List.mem_map.mp e
      exact wd_len (h n hn).1 (h n hn).2
section
variable {ns : List Int} {nb : List (List Int)}
theorem row_ok (h : NetOk ns nb) (hb : ∀ x ∈ ns, x < 1000000000) {i : Nat} (hi : i < nb.length) : ∀ n ∈ rowI ns nb i, 0 ≤ n ∧ n < 1000000000 := fun n hn => ⟨ns_nn h n (row_mem h hi n hn), hb n (row_mem h hi n hn)⟩
theorem lineN_len (h : NetOk ns nb) (hb : ∀ x ∈ ns, x < 1000000000) {i : Nat} (hi : i < nb.length) : (lineN ns nb i).length ≤ 420 := by
  have := line_len (row_ok h hb hi)
  have := row_len h i
  show (lineS (rowI ns nb i)).length ≤ _
  omega
theorem words_at {f : D → Option (List D)} {l : List Int} (hf : ∀ n ∈ l, f (.int n) = some [.str (wd n)]) (hl : l.length ≤ 1000) : hLc (.ok (iL l)) f = .ok (.fr (l.map fun n => D.str (wd n))) := hLc_map (h := D.int) hf (by omega)
theorem text_at (h : NetOk ns nb) (hb : ∀ x ∈ ns, x < 1000000000) : apF K05e.F_network_text [.val (netO ns nb)] = .ok (vS (Txt.join "" (((List.range nb.length).map (lineN ns nb)).map (· ++ nl)))) := by
  refine (K05e.le_network_text _).ok ?_
  have hn := h.hn
  have hsm := h.small
  have mn : hMethN "names" [("Network", K05e.F_Network_names)] (Sh.hv (netO ns nb)) hNil = .ok (.fr (iL ns)) := congrArg nox (m_names (ns := ns) (nb := nb))
  have ms : hMethN "size" [("Network", K05e.F_Network_size)] (Sh.hv (netO ns nb)) hNil = .ok (vI ((ns.length : Nat) : Int)) := congrArg nox (m_size (ns := ns) (nb := nb))
  have mb : ∀ i, i < nb.length → hMethN "neighbors" [("Network", K05e.F_Network_neighbors)] (Sh.hv (netO ns nb)) (hCons (Sh.hv (.int ((i : Nat) : Int))) hNil) = .ok (.fr (iL (nb.getD i []))) := fun i hi => congrArg nox (m_neighborsN (ns := ns) hi)
  rw [show K05e.G_network_text (netO ns nb) = run (bnd (hMethN "names" [("Network", K05e.F_Network_names)] (Sh.hv (netO ns nb)) hNil) (K05e.G_network_text_7 (netO ns nb))) from rfl, mn, bnd_fr]
  show run (K05e.G_network_text_6 (netO ns nb) (lI ns) []) = _
  unfold K05e.G_network_text_6
  rw [ms]
  have step : ∀ i, i < nb.length → ∀ s : List D, s.length < 1000 → K05e.G_network_text_4 (netO ns nb) (lI ns) [] (.int ((i : Nat) : Int)) s = .nx (s ++ [.str (lineN ns nb i ++ nl)]) := fun i hi s hs => by
    unfold K05e.G_network_text_4
    rw [mb i hi]
    generalize netO ns nb = W
    have e1 : hBin fSub (Sh.hv (lI ns)) (Sh.hv (.int ((i : Nat) : Int))) = .ok (vI (ns.getD i 0)) := congrArg Ev.lift (sub_i ns (by omega))
    have e2 : hLc (iIt (.ok (.fr (iL (nb.getD i []))))) (K05e.G_network_text_1 (lI ns)) = .ok (.fr ((nb.getD i []).map fun o => D.int (ns.getD o.toNat 0))) := hLc_map (h := D.int) (k := fun o => D.int (ns.getD o.toNat 0)) (fun o ho => by
      obtain ⟨o0, o1, _⟩ := h.nbr hi ho
      unfold K05e.G_network_text_1
      have : hBin fSub (Sh.hv (lI ns)) (Sh.hv (.int o)) = .ok (vI (ns.getD o.toNat 0)) := congrArg Ev.lift (sub_z ns o0 (by omega))
      rw [this]; rfl) (by have := h.nbrow i; omega)
    rw [e1, e2]
    have e3 : hBin fAdd (hCB fLst (hCons (.ok (vI (ns.getD i 0))) hNil)) (.ok (.fr ((nb.getD i []).map fun o => D.int (ns.getD o.toNat 0)))) = .ok (.fr (iL (rowI ns nb i))) := by
      show Ev.lift (fAdd (.val (.lst [.int (ns.getD i 0)])) (.val (.lst ((nb.getD i []).map fun o => D.int (ns.getD o.toNat 0))))) = _
      rw [add_l (by rw [List.length_map]; show 1 + _ ≤ _; have := h.nbrow i; omega)]
      unfold rowI iL
      rw [List.map_cons, List.map_map]; rfl
    rw [e3, bnd_fr]
    unfold K05e.G_network_text_3
    have ro := row_ok h hb hi
    have rl := row_len h i
    have ll := lineN_len h hb hi
    have e4 : hLc (iIt (Sh.hv (lI (rowI ns nb i)))) K05e.G_network_text_2 = .ok (.fr ((rowI ns nb i).map fun n => D.str (wd n))) := words_at (fun n hn => by
      unfold K05e.G_network_text_2
      rw [str_i (ro n hn).1 (ro n hn).2]; rfl) (by omega)
    rw [e4, write_at ro (by omega)]
    have e5 : hBin fAdd (.ok (vS (lineS (rowI ns nb i)))) (Sh.hv (.str "\n")) = .ok (vS (lineN ns nb i ++ nl)) := congrArg Ev.lift (add_s (by
      show (lineN ns nb i).length + nl.length ≤ _
      rw [show nl.length = 1 by decide +kernel]; omega))
    rw [e5, appO_ok, if_pos (by omega)]
  have lp := forG_rg' (β := Empty) (f := K05e.G_network_text_4 (netO ns nb) (lI ns) []) (n := nb.length) (s := []) (fun i => (List.range i).map fun j => D.str (lineN ns nb j ++ nl)) rfl (fun i hi => by
    left
    rw [step i hi _ (by rw [List.length_map, List.length_range]; omega), List.range_succ, List.map_append]; rfl)
  have rg : iRng1 (.ok (vI ((ns.length : Nat) : Int))) = .ok (rgL 0 nb.length) := by
    rw [← hn]
    generalize hN : nb.length = N at *
    have hb2 : -4000000 ≤ ((N : Nat) : Int) ∧ ((N : Nat) : Int) ≤ 4000000 := by omega
    have ht : (((N : Nat) : Int)).toNat = N := by omega
    simp only [hUn_ok, hBin_ok, hNil_ok, hCons_ok, hSnoc_ok, hCB_ok, hO_int, hONo_ok, hSl_ok, hIf_ok, hAnd_ok, hOr_ok, hNot_ok, hChain_ok, tTru_ok, tTB_ok, tAnd_ok, tOr_ok, tNot_ok, tYes_ok, hCall_ok, hCallN_ok, hMeth_ok, hMethN_ok, hMake_ok, hMakeN_ok, hBM_ok, hGet1_dic, hGet2_dic, hGet1_k, hGet2_k, hDNew_ok, hD1_int, hPNil_ok, hPCons_str, hPCons_int, hDN_ok, iRng3_int, iRev_ok, hRg1_int, hRg2_int, hLstRg_ok, iRng1_int, iRng2_int, iIt_ok, iEn_ok, iZip_ok, q2_tup, q3_tup, q4_tup, q5_tup, argD_val, argD_fr, argD_frk, lcS_t, lcS_f, lc2S_t, lc2S_f, bnd_val, bnd_fr, bnd_frk, bnd_ex, bnd_no, bndO_fr, bndO_ex, bndK_frk, bndI_ok, iteC_t, iteC_f, iteC_ex, ret_val, ret_fr, ret_frk, ret_ex, drp_ok, drp_ex, bind_nx, bind_ct, bind_bk, Sh.bind_rt, Sh.bind_ex, run_rt, run_nx, run_ex, appO_ok, appO_fr, augG_int, Ev.bind_ok, Ev.bind_ex, Ev.bind_no, lift_some, lift_none, args, argfr, argfrk, nox_ok, uSub, uAdd, uMul, uEq, uNe, uInA, uoSub, uoDiv, uoMod, uoLt, uoLe, uoGt, uoGe, uNeg, fI_int, fI_l, fI_r, fCmpI_int, eqF_int, eqF_bl, eqF_str, fInt_int, fAbs_int, fLen_lst, fLen_tup, fLen_red, fLen_nst, fLen_scr, fList_lst, fList_red, fIx_lst, fIx_red, fIx_tup, fIx_nst, fIx_dic, fIx_scr, isN_non, isN_int, isN_bl, isN_lst, isN_tup, isN_red, isN_str, tr_bl, tr_int, tr_lst, tr_red, blR_bl, toDs0, toDs1, inSint, lstS1, lstS2, tpS1, tpS2, tpS3, sqS1, sqS2, sqS3, sqS4, sqS5, lsS1, lsS2, lsS3, rdval, rdown, rdred, rdscr, rddic, rdnst, or_some, or_none, Option.map_some, Option.map_none, Bool.not_true, Bool.not_false, Bool.false_eq_true, if_true, if_false, reduceIte, d_size, d_names, d_neighbors, d_degree, d_far, d_links, m_size, m_names, fLst_0, fTup_0, fLst_1, fTup_1, fLst_2, fTup_2, fLst_3, fTup_3, fLst_4, fTup_4, fLst_5, fTup_5, fLst_6, fTup_6, fLst_7, fTup_7, fLst_8, fTup_8, at_1_0, at_1_m, at_2_0, at_2_1, at_2_m, at_3_0, at_3_1, at_3_2, at_3_m, at_4_0, at_4_1, at_4_2, at_4_3, at_4_m, at_5_0, at_5_1, at_5_2, at_5_3, at_5_4, at_5_m, at_6_0, at_6_1, at_6_2, at_6_3, at_6_4, at_6_5, at_6_m, in_lst_1, in_tup_1, in_lst_2, in_tup_2, in_lst_3, in_tup_3, in_lst_4, in_tup_4, in_ints, in_intsT, in_intsR, Sh.fAll_map, Sh.fAny_map, List.cons_append, List.nil_append, decide_eq_true_eq, Int.reduceLT, Int.reduceLE, Int.reduceNeg, ite_tt2, ite_tt4]
    rw [if_pos hb2, ht]
  rw [rg, bndI_ok, lp, bind_nx]
  unfold K05e.G_network_text_5
  have jn : hBM isStr fJoin (Sh.hv (.str "")) (Sh.hv (.lst ((List.range nb.length).map fun j => D.str (lineN ns nb j ++ nl)))) = .ok (vS (Txt.join "" (((List.range nb.length).map (lineN ns nb)).map (· ++ nl)))) := by
    have := join_at (y := "") (ps := ((List.range nb.length).map (lineN ns nb)).map (· ++ nl)) (m := 421) (fun p hp => by
      obtain ⟨q, hq, rfl⟩ := List.mem_map.mp hp
      obtain ⟨j, hj, rfl⟩ := List.mem_map.mp hq
      have := lineN_len h hb (List.mem_range.mp hj)
      rw [TL.len_tl, TL.tl_append, List.length_append, ← TL.len_tl, ← TL.len_tl, show nl.length = 1 by decide +kernel]
      omega) (by rw [List.length_map, List.length_map, List.length_range, show ("" : Str).length = 0 by decide +kernel]; omega)
    rw [List.map_map, List.map_map] at this
    exact congrArg Ev.lift this
  rw [jn]; rfl
end
end N05
set_option maxHeartbeats 2000000
namespace N05
open PySem PySem.Spec PyProof.Rows L2 Ab Ev Com Sh Sha Run Pre Lp Txs
section
variable {ns : List Int} {nb : List (List Int)}
theorem net0 : hBin fSub (Sh.hv (netT ns nb)) (Sh.hv (.int 0)) = .ok (.s (.val (lI ns))) := by
  unfold netT
  generalize lI ns = a
  simp only [hUn_ok, hBin_ok, hNil_ok, hCons_ok, hSnoc_ok, hCB_ok, hO_int, hONo_ok, hSl_ok, hIf_ok, hAnd_ok, hOr_ok, hNot_ok, hChain_ok, tTru_ok, tTB_ok, tAnd_ok, tOr_ok, tNot_ok, tYes_ok, hCall_ok, hCallN_ok, hMeth_ok, hMethN_ok, hMake_ok, hMakeN_ok, hBM_ok, hGet1_dic, hGet2_dic, hGet1_k, hGet2_k, hDNew_ok, hD1_int, hPNil_ok, hPCons_str, hPCons_int, hDN_ok, iRng3_int, iRev_ok, hRg1_int, hRg2_int, hLstRg_ok, iRng1_int, iRng2_int, iIt_ok, iEn_ok, iZip_ok, q2_tup, q3_tup, q4_tup, q5_tup, argD_val, argD_fr, argD_frk, lcS_t, lcS_f, lc2S_t, lc2S_f, bnd_val, bnd_fr, bnd_frk, bnd_ex, bnd_no, bndO_fr, bndO_ex, bndK_frk, bndI_ok, iteC_t, iteC_f, iteC_ex, ret_val, ret_fr, ret_frk, ret_ex, drp_ok, drp_ex, bind_nx, bind_ct, bind_bk, Sh.bind_rt, Sh.bind_ex, run_rt, run_nx, run_ex, appO_ok, appO_fr, augG_int, Ev.bind_ok, Ev.bind_ex, Ev.bind_no, lift_some, lift_none, args, argfr, argfrk, nox_ok, uSub, uAdd, uMul, uEq, uNe, uInA, uoSub, uoDiv, uoMod, uoLt, uoLe, uoGt, uoGe, uNeg, fI_int, fI_l, fI_r, fCmpI_int, eqF_int, eqF_bl, eqF_str, fInt_int, fAbs_int, fLen_lst, fLen_tup, fLen_red, fLen_nst, fLen_scr, fList_lst, fList_red, fIx_lst, fIx_red, fIx_tup, fIx_nst, fIx_dic, fIx_scr, isN_non, isN_int, isN_bl, isN_lst, isN_tup, isN_red, isN_str, tr_bl, tr_int, tr_lst, tr_red, blR_bl, toDs0, toDs1, inSint, lstS1, lstS2, tpS1, tpS2, tpS3, sqS1, sqS2, sqS3, sqS4, sqS5, lsS1, lsS2, lsS3, rdval, rdown, rdred, rdscr, rddic, rdnst, or_some, or_none, Option.map_some, Option.map_none, Bool.not_true, Bool.not_false, Bool.false_eq_true, if_true, if_false, reduceIte, d_size, d_names, d_neighbors, d_degree, d_far, d_links, m_size, m_names, fLst_0, fTup_0, fLst_1, fTup_1, fLst_2, fTup_2, fLst_3, fTup_3, fLst_4, fTup_4, fLst_5, fTup_5, fLst_6, fTup_6, fLst_7, fTup_7, fLst_8, fTup_8, at_1_0, at_1_m, at_2_0, at_2_1, at_2_m, at_3_0, at_3_1, at_3_2, at_3_m, at_4_0, at_4_1, at_4_2, at_4_3, at_4_m, at_5_0, at_5_1, at_5_2, at_5_3, at_5_4, at_5_m, at_6_0, at_6_1, at_6_2, at_6_3, at_6_4, at_6_5, at_6_m, in_lst_1, in_tup_1, in_lst_2, in_tup_2, in_lst_3, in_tup_3, in_lst_4, in_tup_4, in_ints, in_intsT, in_intsR, Sh.fAll_map, Sh.fAny_map, List.cons_append, List.nil_append, decide_eq_true_eq, Int.reduceLT, Int.reduceLE, Int.reduceNeg, ite_tt2, ite_tt4]
theorem net1 : hBin fSub (Sh.hv (netT ns nb)) (Sh.hv (.int 1)) = .ok (.s (.val (.lst (nb.map lI)))) := by
  unfold netT
  generalize lI ns = a
  generalize D.lst (nb.map lI) = b
  simp only [hUn_ok, hBin_ok, hNil_ok, hCons_ok, hSnoc_ok, hCB_ok, hO_int, hONo_ok, hSl_ok, hIf_ok, hAnd_ok, hOr_ok, hNot_ok, hChain_ok, tTru_ok, tTB_ok, tAnd_ok, tOr_ok, tNot_ok, tYes_ok, hCall_ok, hCallN_ok, hMeth_ok, hMethN_ok, hMake_ok, hMakeN_ok, hBM_ok, hGet1_dic, hGet2_dic, hGet1_k, hGet2_k, hDNew_ok, hD1_int, hPNil_ok, hPCons_str, hPCons_int, hDN_ok, iRng3_int, iRev_ok, hRg1_int, hRg2_int, hLstRg_ok, iRng1_int, iRng2_int, iIt_ok, iEn_ok, iZip_ok, q2_tup, q3_tup, q4_tup, q5_tup, argD_val, argD_fr, argD_frk, lcS_t, lcS_f, lc2S_t, lc2S_f, bnd_val, bnd_fr, bnd_frk, bnd_ex, bnd_no, bndO_fr, bndO_ex, bndK_frk, bndI_ok, iteC_t, iteC_f, iteC_ex, ret_val, ret_fr, ret_frk, ret_ex, drp_ok, drp_ex, bind_nx, bind_ct, bind_bk, Sh.bind_rt, Sh.bind_ex, run_rt, run_nx, run_ex, appO_ok, appO_fr, augG_int, Ev.bind_ok, Ev.bind_ex, Ev.bind_no, lift_some, lift_none, args, argfr, argfrk, nox_ok, uSub, uAdd, uMul, uEq, uNe, uInA, uoSub, uoDiv, uoMod, uoLt, uoLe, uoGt, uoGe, uNeg, fI_int, fI_l, fI_r, fCmpI_int, eqF_int, eqF_bl, eqF_str, fInt_int, fAbs_int, fLen_lst, fLen_tup, fLen_red, fLen_nst, fLen_scr, fList_lst, fList_red, fIx_lst, fIx_red, fIx_tup, fIx_nst, fIx_dic, fIx_scr, isN_non, isN_int, isN_bl, isN_lst, isN_tup, isN_red, isN_str, tr_bl, tr_int, tr_lst, tr_red, blR_bl, toDs0, toDs1, inSint, lstS1, lstS2, tpS1, tpS2, tpS3, sqS1, sqS2, sqS3, sqS4, sqS5, lsS1, lsS2, lsS3, rdval, rdown, rdred, rdscr, rddic, rdnst, or_some, or_none, Option.map_some, Option.map_none, Bool.not_true, Bool.not_false, Bool.false_eq_true, if_true, if_false, reduceIte, d_size, d_names, d_neighbors, d_degree, d_far, d_links, m_size, m_names, fLst_0, fTup_0, fLst_1, fTup_1, fLst_2, fTup_2, fLst_3, fTup_3, fLst_4, fTup_4, fLst_5, fTup_5, fLst_6, fTup_6, fLst_7, fTup_7, fLst_8, fTup_8, at_1_0, at_1_m, at_2_0, at_2_1, at_2_m, at_3_0, at_3_1, at_3_2, at_3_m, at_4_0, at_4_1, at_4_2, at_4_3, at_4_m, at_5_0, at_5_1, at_5_2, at_5_3, at_5_4, at_5_m, at_6_0, at_6_1, at_6_2, at_6_3, at_6_4, at_6_5, at_6_m, in_lst_1, in_tup_1, in_lst_2, in_tup_2, in_lst_3, in_tup_3, in_lst_4, in_tup_4, in_ints, in_intsT, in_intsR, Sh.fAll_map, Sh.fAny_map, List.cons_append, List.nil_append, decide_eq_true_eq, Int.reduceLT, Int.reduceLE, Int.reduceNeg, ite_tt2, ite_tt4]
theorem nbk {i : Nat} (hi : i < nb.length) : hBin fSub (.ok (.s (.val (.lst (nb.map lI))))) (Sh.hv (.int ((i : Nat) : Int))) = .ok (.s (.val (lI (nb.getD i [])))) := by
  show Ev.lift (((atI (nb.map lI) ((i : Nat) : Int)).map fun d => R.s (.val d)).or _) = _
  rw [at_nat (by omega), Int.toNat_natCast, List.getElem?_map, List.getD_eq_getElem?_getD, List.getElem?_eq_getElem hi]; rfl
theorem rng_at (h : NetOk ns nb) : iRng1 (hCB fLen (hCons (.ok (.s (.val (lI ns)))) hNil)) = .ok (rgL 0 nb.length) := by
  have e : hCB fLen (hCons (.ok (.s (.val (lI ns)))) hNil) = .ok (vI ((nb.length : Nat) : Int)) := by
    show Res.ok (vI (((iL ns).length : Nat) : Int)) = _
    rw [List.length_map, h.hn]
  rw [e]
  have hsm := h.small
  generalize hN : nb.length = N at *
  have hb2 : -4000000 ≤ ((N : Nat) : Int) ∧ ((N : Nat) : Int) ≤ 4000000 := by omega
  have ht : (((N : Nat) : Int)).toNat = N := by omega
  simp only [hUn_ok, hBin_ok, hNil_ok, hCons_ok, hSnoc_ok, hCB_ok, hO_int, hONo_ok, hSl_ok, hIf_ok, hAnd_ok, hOr_ok, hNot_ok, hChain_ok, tTru_ok, tTB_ok, tAnd_ok, tOr_ok, tNot_ok, tYes_ok, hCall_ok, hCallN_ok, hMeth_ok, hMethN_ok, hMake_ok, hMakeN_ok, hBM_ok, hGet1_dic, hGet2_dic, hGet1_k, hGet2_k, hDNew_ok, hD1_int, hPNil_ok, hPCons_str, hPCons_int, hDN_ok, iRng3_int, iRev_ok, hRg1_int, hRg2_int, hLstRg_ok, iRng1_int, iRng2_int, iIt_ok, iEn_ok, iZip_ok, q2_tup, q3_tup, q4_tup, q5_tup, argD_val, argD_fr, argD_frk, lcS_t, lcS_f, lc2S_t, lc2S_f, bnd_val, bnd_fr, bnd_frk, bnd_ex, bnd_no, bndO_fr, bndO_ex, bndK_frk, bndI_ok, iteC_t, iteC_f, iteC_ex, ret_val, ret_fr, ret_frk, ret_ex, drp_ok, drp_ex, bind_nx, bind_ct, bind_bk, Sh.bind_rt, Sh.bind_ex, run_rt, run_nx, run_ex, appO_ok, appO_fr, augG_int, Ev.bind_ok, Ev.bind_ex, Ev.bind_no, lift_some, lift_none, args, argfr, argfrk, nox_ok, uSub, uAdd, uMul, uEq, uNe, uInA, uoSub, uoDiv, uoMod, uoLt, uoLe, uoGt, uoGe, uNeg, fI_int, fI_l, fI_r, fCmpI_int, eqF_int, eqF_bl, eqF_str, fInt_int, fAbs_int, fLen_lst, fLen_tup, fLen_red, fLen_nst, fLen_scr, fList_lst, fList_red, fIx_lst, fIx_red, fIx_tup, fIx_nst, fIx_dic, fIx_scr, isN_non, isN_int, isN_bl, isN_lst, isN_tup, isN_red, isN_str, tr_bl, tr_int, tr_lst, tr_red, blR_bl, toDs0, toDs1, inSint, lstS1, lstS2, tpS1, tpS2, tpS3, sqS1, sqS2, sqS3, sqS4, sqS5, lsS1, lsS2, lsS3, rdval, rdown, rdred, rdscr, rddic, rdnst, or_some, or_none, Option.map_some, Option.map_none, Bool.not_true, Bool.not_false, Bool.false_eq_true, if_true, if_false, reduceIte, d_size, d_names, d_neighbors, d_degree, d_far, d_links, m_size, m_names, fLst_0, fTup_0, fLst_1, fTup_1, fLst_2, fTup_2, fLst_3, fTup_3, fLst_4, fTup_4, fLst_5, fTup_5, fLst_6, fTup_6, fLst_7, fTup_7, fLst_8, fTup_8, at_1_0, at_1_m, at_2_0, at_2_1, at_2_m, at_3_0, at_3_1, at_3_2, at_3_m, at_4_0, at_4_1, at_4_2, at_4_3, at_4_m, at_5_0, at_5_1, at_5_2, at_5_3, at_5_4, at_5_m, at_6_0, at_6_1, at_6_2, at_6_3, at_6_4, at_6_5, at_6_m, in_lst_1, in_tup_1, in_lst_2, in_tup_2, in_lst_3, in_tup_3, in_lst_4, in_tup_4, in_ints, in_intsT, in_intsR, Sh.fAll_map, Sh.fAny_map, List.cons_append, List.nil_append, decide_eq_true_eq, Int.reduceLT, Int.reduceLE, Int.reduceNeg, ite_tt2, ite_tt4]
  rw [if_pos hb2, ht]
theorem llines_at (h : NetOk ns nb) (hb : ∀ x ∈ ns, x < 1000000000) : apF K05e.F__law_lines [.val (netT ns nb)] = .ok (.fr (((List.range nb.length).map (lineN ns nb)).map D.str)) := by
  refine (K05e.le__law_lines _).ok ?_
  have hn := h.hn
  have hsm := h.small
  rw [show K05e.G__law_lines (netT ns nb) = run (K05e.G__law_lines_3 (netT ns nb) []) from rfl]
  unfold K05e.G__law_lines_3
  rw [net0, rng_at h, bndI_ok]
  have step : ∀ i, i < nb.length → ∀ s : List D, s.length < 1000 → K05e.G__law_lines_2 (netT ns nb) [] (.int ((i : Nat) : Int)) s = .nx (s ++ [.str (lineN ns nb i)]) := fun i hi s hs => by
    unfold K05e.G__law_lines_2
    rw [net1, nbk hi]
    have e1 : hBin fAdd (hCB fLst (hCons (Sh.hv (.int ((i : Nat) : Int))) hNil)) (.ok (.s (.val (lI (nb.getD i []))))) = .ok (.fr (iL (((i : Nat) : Int) :: nb.getD i []))) := by
      show Ev.lift (fAdd (.val (.lst [.int ((i : Nat) : Int)])) (.val (.lst (iL (nb.getD i []))))) = _
      rw [add_l (by rw [List.length_map]; show 1 + _ ≤ _; have := h.nbrow i; omega)]; rfl
    have ro := row_ok h hb hi
    have rl := row_len h i
    have e2 : hLc (iIt (.ok (.fr (iL (((i : Nat) : Int) :: nb.getD i []))))) (K05e.G__law_lines_1 (netT ns nb)) = .ok (.fr ((((i : Nat) : Int) :: nb.getD i []).map fun o => D.str (wd (ns.getD o.toNat 0)))) := hLc_map (h := D.int) (k := fun o => D.str (wd (ns.getD o.toNat 0))) (fun o ho => by
      have hoo : 0 ≤ o ∧ o.toNat < nb.length ∧ ns.getD o.toNat 0 ∈ rowI ns nb i := by
        rcases List.mem_cons.mp ho with q | q
        · rw [q, Int.toNat_natCast]; exact ⟨by omega, hi, List.mem_cons_self ..⟩
        · obtain ⟨o0, o1, _⟩ := h.nbr hi q
          exact ⟨o0, by omega, List.mem_cons_of_mem _ (List.mem_map.mpr ⟨o, q, rfl⟩)⟩
      obtain ⟨o0, o1, om⟩ := hoo
      unfold K05e.G__law_lines_1
      rw [net0]
      have e : hBin fSub (.ok (.s (.val (lI ns)))) (Sh.hv (.int o)) = .ok (vI (ns.getD o.toNat 0)) := congrArg Ev.lift (sub_z ns o0 (by omega))
      rw [e]
      have := str_i (ro _ om).1 (ro _ om).2
      show lcS tYes (hCB fStr (hCons (Sh.hv (.int (ns.getD o.toNat 0))) hNil)) = _
      rw [this]; rfl) (by rw [List.length_cons]; have := h.nbrow i; omega)
    rw [e1, e2]
    have e3 : ((((i : Nat) : Int) :: nb.getD i []).map fun o => D.str (wd (ns.getD o.toNat 0))) = (rowI ns nb i).map fun n => D.str (wd n) := by
      unfold rowI
      rw [List.map_cons, List.map_cons, List.map_map, Int.toNat_natCast]; rfl
    rw [e3, write_at ro (by omega), appO_ok, if_pos (by omega)]; rfl
  have lp := forG_rg' (β := Empty) (f := K05e.G__law_lines_2 (netT ns nb) []) (n := nb.length) (s := []) (fun i => (List.range i).map fun j => D.str (lineN ns nb j)) rfl (fun i hi => by
    left
    rw [step i hi _ (by rw [List.length_map, List.length_range]; omega), List.range_succ, List.map_append]; rfl)
  rw [lp, bind_nx, List.map_map]; rfl
theorem like_ints {l : List Int} (hl : l.length ≤ 1000) : apF K05e.F__law_like [.val (lI l), .val (lI l)] = .ok (vB true) := Pre.like (okD_ints (by omega) 4)
theorem is_at (h : NetOk ns nb) : apF K05e.F__law_is [.val (netO ns nb), .val (netT ns nb)] = .ok (vB true) := by
  refine (K05e.le__law_is _ _).ok ?_
  have hn := h.hn
  have hsm := h.small
  have mn : hMethN "names" [("Network", K05e.F_Network_names)] (Sh.hv (netO ns nb)) hNil = .ok (.fr (iL ns)) := congrArg nox (m_names (ns := ns) (nb := nb))
  have mb : ∀ i, i < nb.length → hMethN "neighbors" [("Network", K05e.F_Network_neighbors)] (Sh.hv (netO ns nb)) (hCons (Sh.hv (.int ((i : Nat) : Int))) hNil) = .ok (.fr (iL (nb.getD i []))) := fun i hi => congrArg nox (m_neighborsN (ns := ns) hi)
  unfold K05e.G__law_is
  rw [mn, net0]
  have e1 : hCallN K05e.F__law_like (hCons (.ok (.fr (iL ns))) (hCons (.ok (.s (.val (lI ns)))) hNil)) = .ok (vB true) := congrArg nox (like_ints (by omega))
  rw [e1]
  show run (K05e.G__law_is_2 (netO ns nb) (netT ns nb) ()) = _
  unfold K05e.G__law_is_2
  rw [net0, rng_at h]
  have lc : hLc (.ok (rgL 0 nb.length)) (K05e.G__law_is_1 (netO ns nb) (netT ns nb)) = .ok (.fr ((List.range nb.length).map fun _ => D.bl true)) := hLc_rg (fun i hi => by
    unfold K05e.G__law_is_1
    rw [mb i hi, net1, nbk hi]
    have e1 : hCallN K05e.F__law_like (hCons (.ok (.fr (iL (nb.getD i [])))) (hCons (.ok (.s (.val (lI (nb.getD i []))))) hNil)) = .ok (vB true) := congrArg nox (like_ints (h.rk i))
    rw [e1]; rfl) (by omega)
  rw [lc]
  have f4 : hCB fAll (hCons (.ok (.fr ((List.range nb.length).map fun _ => D.bl true))) hNil) = .ok (vB true) := by
    simp only [hUn_ok, hBin_ok, hNil_ok, hCons_ok, hSnoc_ok, hCB_ok, hO_int, hONo_ok, hSl_ok, hIf_ok, hAnd_ok, hOr_ok, hNot_ok, hChain_ok, tTru_ok, tTB_ok, tAnd_ok, tOr_ok, tNot_ok, tYes_ok, hCall_ok, hCallN_ok, hMeth_ok, hMethN_ok, hMake_ok, hMakeN_ok, hBM_ok, hGet1_dic, hGet2_dic, hGet1_k, hGet2_k, hDNew_ok, hD1_int, hPNil_ok, hPCons_str, hPCons_int, hDN_ok, iRng3_int, iRev_ok, hRg1_int, hRg2_int, hLstRg_ok, iRng1_int, iRng2_int, iIt_ok, iEn_ok, iZip_ok, q2_tup, q3_tup, q4_tup, q5_tup, argD_val, argD_fr, argD_frk, lcS_t, lcS_f, lc2S_t, lc2S_f, bnd_val, bnd_fr, bnd_frk, bnd_ex, bnd_no, bndO_fr, bndO_ex, bndK_frk, bndI_ok, iteC_t, iteC_f, iteC_ex, ret_val, ret_fr, ret_frk, ret_ex, drp_ok, drp_ex, bind_nx, bind_ct, bind_bk, Sh.bind_rt, Sh.bind_ex, run_rt, run_nx, run_ex, appO_ok, appO_fr, augG_int, Ev.bind_ok, Ev.bind_ex, Ev.bind_no, lift_some, lift_none, args, argfr, argfrk, nox_ok, uSub, uAdd, uMul, uEq, uNe, uInA, uoSub, uoDiv, uoMod, uoLt, uoLe, uoGt, uoGe, uNeg, fI_int, fI_l, fI_r, fCmpI_int, eqF_int, eqF_bl, eqF_str, fInt_int, fAbs_int, fLen_lst, fLen_tup, fLen_red, fLen_nst, fLen_scr, fList_lst, fList_red, fIx_lst, fIx_red, fIx_tup, fIx_nst, fIx_dic, fIx_scr, isN_non, isN_int, isN_bl, isN_lst, isN_tup, isN_red, isN_str, tr_bl, tr_int, tr_lst, tr_red, blR_bl, toDs0, toDs1, inSint, lstS1, lstS2, tpS1, tpS2, tpS3, sqS1, sqS2, sqS3, sqS4, sqS5, lsS1, lsS2, lsS3, rdval, rdown, rdred, rdscr, rddic, rdnst, or_some, or_none, Option.map_some, Option.map_none, Bool.not_true, Bool.not_false, Bool.false_eq_true, if_true, if_false, reduceIte, d_size, d_names, d_neighbors, d_degree, d_far, d_links, m_size, m_names, fLst_0, fTup_0, fLst_1, fTup_1, fLst_2, fTup_2, fLst_3, fTup_3, fLst_4, fTup_4, fLst_5, fTup_5, fLst_6, fTup_6, fLst_7, fTup_7, fLst_8, fTup_8, at_1_0, at_1_m, at_2_0, at_2_1, at_2_m, at_3_0, at_3_1, at_3_2, at_3_m, at_4_0, at_4_1, at_4_2, at_4_3, at_4_m, at_5_0, at_5_1, at_5_2, at_5_3, at_5_4, at_5_m, at_6_0, at_6_1, at_6_2, at_6_3, at_6_4, at_6_5, at_6_m, in_lst_1, in_tup_1, in_lst_2, in_tup_2, in_lst_3, in_tup_3, in_lst_4, in_tup_4, in_ints, in_intsT, in_intsR, Sh.fAll_map, Sh.fAny_map, List.cons_append, List.nil_append, decide_eq_true_eq, Int.reduceLT, Int.reduceLE, Int.reduceNeg, ite_tt2, ite_tt4]
    rw [show ((List.range nb.length).all fun _ => true) = true from List.all_eq_true.mpr fun _ _ => rfl]
  rw [f4]; rfl
end
end N05
set_option maxHeartbeats 2000000
namespace N05
open PySem PySem.Spec PyProof.Rows L2 Ab Ev Com Sh Sha Run Pre Lp Txs
def Good (l : Str) : Prop := 10 ∉ TL.tl l ∧ l.length ≤ 420
theorem good_nil : Good ("" : Str) := ⟨by decide +kernel, by decide +kernel⟩
def five : List Str := ["", "#", "# node 5 5", "#node 1 1", "#  "]
theorem five_ok : ∀ i, i < 5 → skip (five.getD i "") = true ∧ Good (five.getD i "") := by
  intro i hi
  have : i = 0 ∨ i = 1 ∨ i = 2 ∨ i = 3 ∨ i = 4 := by omega
  rcases this with q | q | q | q | q <;> subst q <;> exact ⟨by decide +kernel, by decide +kernel, by decide +kernel⟩
section
variable {ns : List Int} {nb : List (List Int)}
theorem good_line (h : NetOk ns nb) (hb : ∀ x ∈ ns, x < 1000000000) {i : Nat} (hi : i < nb.length) : Good (lineN ns nb i) :=
  ⟨line_free fun n hn => (row_ok h hb hi n hn).1, lineN_len h hb hi⟩
theorem good_lines (h : NetOk ns nb) (hb : ∀ x ∈ ns, x < 1000000000) : ∀ l ∈ (List.range nb.length).map (lineN ns nb), Good l := fun l hl => by
  obtain ⟨i, hi, rfl⟩ := List.mem_map.mp hl
  exact good_line h hb (List.mem_range.mp hi)
theorem keep_lines (n : Nat) : ((List.range n).map (lineN ns nb)).filter (fun l => !skip l) = (List.range n).map (lineN ns nb) := by
  refine List.filter_eq_self.mpr fun l hl => ?_
  obtain ⟨i, hi, rfl⟩ := List.mem_map.mp hl
  show (!skip (lineS (rowI ns nb i))) = true
  rw [skip_line]; rfl
theorem read_join (h : NetOk ns nb) (hb : ∀ x ∈ ns, x < 1000000000) {M : List Str} (h0 : M ≠ []) (hg : ∀ l ∈ M, Good l) (hl : M.length ≤ 1000) (hM : M.filter (fun l => !skip l) = (List.range nb.length).map (lineN ns nb)) : apF K05e.F_read_network [.val (.str (Txt.join nl M))] = .ok (.s (.val (netO ns nb))) := by
  refine read_at h hb h0 (nl_split h0 fun l hm => (hg l hm).1) ?_ hM
  have := jn_len (y := nl) (m := 420) fun p hp => (hg p hp).2
  rw [show nl.length = 1 by decide +kernel] at this
  omega
theorem is_read (h : NetOk ns nb) {x : Res R} (e : hCallN K05e.F_read_network (hCons x hNil) = .ok (.s (.val (netO ns nb)))) : hCallN K05e.F__law_is (hCons (hCallN K05e.F_read_network (hCons x hNil)) (hCons (Sh.hv (netT ns nb)) hNil)) = .ok (vB true) := by
  rw [e]
  exact congrArg nox (is_at h)
theorem jn2 (h : NetOk ns nb) (hb : ∀ x ∈ ns, x < 1000000000) {M : List Str} (hg : ∀ l ∈ M, Good l) (hl : M.length ≤ 200) : hBM isStr fJoin (Sh.hv (.str "\n")) (Sh.hv (.lst (M.map D.str))) = .ok (vS (Txt.join nl M)) :=
  congrArg Ev.lift (join_at (y := nl) (m := 420) (fun p hp => (hg p hp).2) (by rw [show nl.length = 1 by decide +kernel]; omega))
theorem law7 (h : NetOk ns nb) (hb : ∀ x ∈ ns, x < 1000000000) {M : List Str} (h0 : M ≠ []) (hg : ∀ l ∈ M, Good l) (hl : M.length ≤ 100) (hM : M.filter (fun l => !skip l) = (List.range nb.length).map (lineN ns nb)) : K05e.G_law_7 (netT ns nb) (.lst (M.map D.str)) = .rt (.s (.val (.bl true))) := by
  unfold K05e.G_law_7
  rw [jn2 h hb hg (by omega)]
  have e1 : hCallN K05e.F_read_network (hCons (.ok (vS (Txt.join nl M))) hNil) = .ok (.s (.val (netO ns nb))) := congrArg nox (read_join h hb h0 hg (by omega) hM)
  have tl : (Txt.join nl M).length ≤ 100 * 421 := by
    have := jn_len (y := nl) (m := 420) fun p hp => (hg p hp).2
    rw [show nl.length = 1 by decide +kernel] at this
    have : M.length * 421 ≤ 100 * 421 := Nat.mul_le_mul_right _ hl
    omega
  have e2 : hBin fAdd (.ok (vS (Txt.join nl M))) (Sh.hv (.str "\n")) = .ok (vS (Txt.join nl (M ++ [("" : Str)]))) := by
    rw [← join_snoc h0]
    exact congrArg Ev.lift (add_s (by show _ + nl.length ≤ _; rw [show nl.length = 1 by decide +kernel]; omega))
  have e3 : hCallN K05e.F_read_network (hCons (.ok (vS (Txt.join nl (M ++ [("" : Str)])))) hNil) = .ok (.s (.val (netO ns nb))) := congrArg nox (read_join h hb (by simp) (fun l hm => by
    rcases List.mem_append.mp hm with q | q
    · exact hg l q
    · rw [List.mem_singleton.mp q]; exact good_nil) (by rw [List.length_append]; show _ + 1 ≤ _; omega) (by
      rw [List.filter_append, hM, show [("" : Str)].filter (fun l => !skip l) = [] by decide +kernel, List.append_nil]))
  rw [is_read h e1, e2, is_read h e3]; rfl
def Mx (ns : List Int) (nb : List (List Int)) (k m : Nat) (s : List D) : Prop := ∃ M : List Str, s = M.map D.str ∧ M.filter (fun l => !skip l) = (List.range k).map (lineN ns nb) ∧ (∀ l ∈ M, Good l) ∧ M.length ≤ m
theorem Mx.snoc {k m : Nat} {s : List D} (h : Mx ns nb k m s) {l : Str} (hs : skip l = true) (hg : Good l) : Mx ns nb k (m + 1) (s ++ [.str l]) := by
  obtain ⟨M, rfl, h1, h2, h3⟩ := h
  refine ⟨M ++ [l], by rw [List.map_append]; rfl, ?_, fun x hx => ?_, by rw [List.length_append]; show _ + 1 ≤ _; omega⟩
  · rw [List.filter_append, h1, List.filter_cons, if_neg (by rw [hs]; decide), List.filter_nil, List.append_nil]
  · rcases List.mem_append.mp hx with q | q
    · exact h2 x q
    · rw [List.mem_singleton.mp q]; exact hg
theorem Mx.line (H : NetOk ns nb) (hb : ∀ x ∈ ns, x < 1000000000) {k m : Nat} {s : List D} (h : Mx ns nb k m s) (hk : k < nb.length) : Mx ns nb (k + 1) (m + 1) (s ++ [.str (lineN ns nb k)]) := by
  obtain ⟨M, rfl, h1, h2, h3⟩ := h
  refine ⟨M ++ [lineN ns nb k], by rw [List.map_append]; rfl, ?_, fun x hx => ?_, by rw [List.length_append]; show _ + 1 ≤ _; omega⟩
  · have : skip (lineN ns nb k) = false := skip_line _
    rw [List.filter_append, h1, List.filter_cons, if_pos (by rw [this]; rfl), List.filter_nil, List.range_succ, List.map_append]; rfl
  · rcases List.mem_append.mp hx with q | q
    · exact h2 x q
    · rw [List.mem_singleton.mp q]; exact good_line H hb hk
theorem Mx.len {k m : Nat} {s : List D} (h : Mx ns nb k m s) : s.length ≤ m := by
  obtain ⟨M, rfl, _, _, h3⟩ := h
  rw [List.length_map]; exact h3
variable {dr : List Int}
theorem other_at {x0 : List D} (hd : dr.length = 40) {k j m : Nat} (hk : k < 8) (hj : j < 2) {s : List D} (h : Mx ns nb k m s) (hm : m ≤ 100) : ∃ s', K05e.G_law_4 (lI dr) x0 (.int ((k : Nat) : Int)) (.int ((j : Nat) : Int)) s = .nx s' ∧ Mx ns nb k (m + 1) s' := by
  have i1 : hBin fAdd (hBin fAdd (Sh.hv (.int 10)) (hBin fMul (Sh.hv (.int 2)) (Sh.hv (.int ((k : Nat) : Int))))) (Sh.hv (.int ((j : Nat) : Int))) = .ok (vI ((10 + 2 * k + j : Nat) : Int)) := by
    have : ((10 + 2 * k + j : Nat) : Int) = 10 + 2 * (k : Int) + (j : Int) := by omega
    rw [this]
    have cm : cMul 2 ((k : Nat) : Int) = true := cMul_l (by decide) (by decide)
    generalize ((k : Nat) : Int) = kk at *
    generalize ((j : Nat) : Int) = jj
    simp only [hUn_ok, hBin_ok, hNil_ok, hCons_ok, hSnoc_ok, hCB_ok, hO_int, hONo_ok, hSl_ok, hIf_ok, hAnd_ok, hOr_ok, hNot_ok, hChain_ok, tTru_ok, tTB_ok, tAnd_ok, tOr_ok, tNot_ok, tYes_ok, hCall_ok, hCallN_ok, hMeth_ok, hMethN_ok, hMake_ok, hMakeN_ok, hBM_ok, hGet1_dic, hGet2_dic, hGet1_k, hGet2_k, hDNew_ok, hD1_int, hPNil_ok, hPCons_str, hPCons_int, hDN_ok, iRng3_int, iRev_ok, hRg1_int, hRg2_int, hLstRg_ok, iRng1_int, iRng2_int, iIt_ok, iEn_ok, iZip_ok, q2_tup, q3_tup, q4_tup, q5_tup, argD_val, argD_fr, argD_frk, lcS_t, lcS_f, lc2S_t, lc2S_f, bnd_val, bnd_fr, bnd_frk, bnd_ex, bnd_no, bndO_fr, bndO_ex, bndK_frk, bndI_ok, iteC_t, iteC_f, iteC_ex, ret_val, ret_fr, ret_frk, ret_ex, drp_ok, drp_ex, bind_nx, bind_ct, bind_bk, Sh.bind_rt, Sh.bind_ex, run_rt, run_nx, run_ex, appO_ok, appO_fr, augG_int, Ev.bind_ok, Ev.bind_ex, Ev.bind_no, lift_some, lift_none, args, argfr, argfrk, nox_ok, uSub, uAdd, uMul, uEq, uNe, uInA, uoSub, uoDiv, uoMod, uoLt, uoLe, uoGt, uoGe, uNeg, fI_int, fI_l, fI_r, fCmpI_int, eqF_int, eqF_bl, eqF_str, fInt_int, fAbs_int, fLen_lst, fLen_tup, fLen_red, fLen_nst, fLen_scr, fList_lst, fList_red, fIx_lst, fIx_red, fIx_tup, fIx_nst, fIx_dic, fIx_scr, isN_non, isN_int, isN_bl, isN_lst, isN_tup, isN_red, isN_str, tr_bl, tr_int, tr_lst, tr_red, blR_bl, toDs0, toDs1, inSint, lstS1, lstS2, tpS1, tpS2, tpS3, sqS1, sqS2, sqS3, sqS4, sqS5, lsS1, lsS2, lsS3, rdval, rdown, rdred, rdscr, rddic, rdnst, or_some, or_none, Option.map_some, Option.map_none, Bool.not_true, Bool.not_false, Bool.false_eq_true, if_true, if_false, reduceIte, d_size, d_names, d_neighbors, d_degree, d_far, d_links, m_size, m_names, fLst_0, fTup_0, fLst_1, fTup_1, fLst_2, fTup_2, fLst_3, fTup_3, fLst_4, fTup_4, fLst_5, fTup_5, fLst_6, fTup_6, fLst_7, fTup_7, fLst_8, fTup_8, at_1_0, at_1_m, at_2_0, at_2_1, at_2_m, at_3_0, at_3_1, at_3_2, at_3_m, at_4_0, at_4_1, at_4_2, at_4_3, at_4_m, at_5_0, at_5_1, at_5_2, at_5_3, at_5_4, at_5_m, at_6_0, at_6_1, at_6_2, at_6_3, at_6_4, at_6_5, at_6_m, in_lst_1, in_tup_1, in_lst_2, in_tup_2, in_lst_3, in_tup_3, in_lst_4, in_tup_4, in_ints, in_intsT, in_intsR, Sh.fAll_map, Sh.fAny_map, List.cons_append, List.nil_append, decide_eq_true_eq, Int.reduceLT, Int.reduceLE, Int.reduceNeg, ite_tt2, ite_tt4, cm]
  have i2 : hBin fSub (Sh.hv (lI dr)) (.ok (vI ((10 + 2 * k + j : Nat) : Int))) = .ok (vI (dr.getD (10 + 2 * k + j) 0)) := congrArg Ev.lift (sub_i dr (by omega))
  have i3 : hBin oMod (.ok (vI (dr.getD (10 + 2 * k + j) 0))) (Sh.hv (.int 5)) = .ok (vI (dr.getD (10 + 2 * k + j) 0 % 5)) := by
    have q2 : (0 : Int) < 5 := by omega
    generalize dr.getD (10 + 2 * k + j) 0 = x
    simp only [hUn_ok, hBin_ok, hNil_ok, hCons_ok, hSnoc_ok, hCB_ok, hO_int, hONo_ok, hSl_ok, hIf_ok, hAnd_ok, hOr_ok, hNot_ok, hChain_ok, tTru_ok, tTB_ok, tAnd_ok, tOr_ok, tNot_ok, tYes_ok, hCall_ok, hCallN_ok, hMeth_ok, hMethN_ok, hMake_ok, hMakeN_ok, hBM_ok, hGet1_dic, hGet2_dic, hGet1_k, hGet2_k, hDNew_ok, hD1_int, hPNil_ok, hPCons_str, hPCons_int, hDN_ok, iRng3_int, iRev_ok, hRg1_int, hRg2_int, hLstRg_ok, iRng1_int, iRng2_int, iIt_ok, iEn_ok, iZip_ok, q2_tup, q3_tup, q4_tup, q5_tup, argD_val, argD_fr, argD_frk, lcS_t, lcS_f, lc2S_t, lc2S_f, bnd_val, bnd_fr, bnd_frk, bnd_ex, bnd_no, bndO_fr, bndO_ex, bndK_frk, bndI_ok, iteC_t, iteC_f, iteC_ex, ret_val, ret_fr, ret_frk, ret_ex, drp_ok, drp_ex, bind_nx, bind_ct, bind_bk, Sh.bind_rt, Sh.bind_ex, run_rt, run_nx, run_ex, appO_ok, appO_fr, augG_int, Ev.bind_ok, Ev.bind_ex, Ev.bind_no, lift_some, lift_none, args, argfr, argfrk, nox_ok, uSub, uAdd, uMul, uEq, uNe, uInA, uoSub, uoDiv, uoMod, uoLt, uoLe, uoGt, uoGe, uNeg, fI_int, fI_l, fI_r, fCmpI_int, eqF_int, eqF_bl, eqF_str, fInt_int, fAbs_int, fLen_lst, fLen_tup, fLen_red, fLen_nst, fLen_scr, fList_lst, fList_red, fIx_lst, fIx_red, fIx_tup, fIx_nst, fIx_dic, fIx_scr, isN_non, isN_int, isN_bl, isN_lst, isN_tup, isN_red, isN_str, tr_bl, tr_int, tr_lst, tr_red, blR_bl, toDs0, toDs1, inSint, lstS1, lstS2, tpS1, tpS2, tpS3, sqS1, sqS2, sqS3, sqS4, sqS5, lsS1, lsS2, lsS3, rdval, rdown, rdred, rdscr, rddic, rdnst, or_some, or_none, Option.map_some, Option.map_none, Bool.not_true, Bool.not_false, Bool.false_eq_true, if_true, if_false, reduceIte, d_size, d_names, d_neighbors, d_degree, d_far, d_links, m_size, m_names, fLst_0, fTup_0, fLst_1, fTup_1, fLst_2, fTup_2, fLst_3, fTup_3, fLst_4, fTup_4, fLst_5, fTup_5, fLst_6, fTup_6, fLst_7, fTup_7, fLst_8, fTup_8, at_1_0, at_1_m, at_2_0, at_2_1, at_2_m, at_3_0, at_3_1, at_3_2, at_3_m, at_4_0, at_4_1, at_4_2, at_4_3, at_4_m, at_5_0, at_5_1, at_5_2, at_5_3, at_5_4, at_5_m, at_6_0, at_6_1, at_6_2, at_6_3, at_6_4, at_6_5, at_6_m, in_lst_1, in_tup_1, in_lst_2, in_tup_2, in_lst_3, in_tup_3, in_lst_4, in_tup_4, in_ints, in_intsT, in_intsR, Sh.fAll_map, Sh.fAny_map, List.cons_append, List.nil_append, decide_eq_true_eq, Int.reduceLT, Int.reduceLE, Int.reduceNeg, ite_tt2, ite_tt4, q2]
  unfold K05e.G_law_4
  rw [i1, i2, i3]
  have m0 := Int.emod_nonneg (dr.getD (10 + 2 * k + j) 0) (show (5 : Int) ≠ 0 by decide)
  have m1 := Int.emod_lt_of_pos (dr.getD (10 + 2 * k + j) 0) (show (0 : Int) < 5 by decide)
  generalize dr.getD (10 + 2 * k + j) 0 % 5 = z at *
  obtain ⟨c, rfl⟩ : ∃ c : Nat, z = (c : Int) := ⟨z.toNat, by omega⟩
  have i4 : hBin fSub (hCB fLst (hCons (Sh.hv (.str "")) (hCons (Sh.hv (.str "#")) (hCons (Sh.hv (.str "# node 5 5")) (hCons (Sh.hv (.str "#node 1 1")) (hCons (Sh.hv (.str "#  ")) hNil)))))) (.ok (vI ((c : Nat) : Int))) = .ok (vS (five.getD c "")) := by
    show Ev.lift (((atI (five.map D.str) ((c : Nat) : Int)).map fun d => R.s (.val d)).or _) = _
    rw [at_nat (by omega), Int.toNat_natCast, List.getElem?_map, List.getD_eq_getElem?_getD, List.getElem?_eq_getElem (show c < five.length by show c < 5; omega)]; rfl
  obtain ⟨f1, f2⟩ := five_ok c (by omega)
  have := h.len
  rw [i4, appO_ok, if_pos (by omega)]
  exact ⟨_, rfl, h.snoc f1 f2⟩
theorem turn_at (H : NetOk ns nb) (hb : ∀ x ∈ ns, x < 1000000000) (n8 : nb.length ≤ 8) {x0 : List D} (hd : dr.length = 40) {k : Nat} (hk : k < nb.length) {s : List D} (h : Mx ns nb k (3 * k) s) : ∃ s', K05e.G_law_6 (lI dr) (.lst (((List.range nb.length).map (lineN ns nb)).map D.str)) x0 (.int ((k : Nat) : Int)) s = .nx s' ∧ Mx ns nb (k + 1) (3 * (k + 1)) s' := by
  have i1 : hBin fAdd (Sh.hv (.int 1)) (Sh.hv (.int ((k : Nat) : Int))) = .ok (vI ((1 + k : Nat) : Int)) := by
    have : ((1 + k : Nat) : Int) = 1 + (k : Int) := by omega
    rw [this]
    generalize ((k : Nat) : Int) = kk
    simp only [hUn_ok, hBin_ok, hNil_ok, hCons_ok, hSnoc_ok, hCB_ok, hO_int, hONo_ok, hSl_ok, hIf_ok, hAnd_ok, hOr_ok, hNot_ok, hChain_ok, tTru_ok, tTB_ok, tAnd_ok, tOr_ok, tNot_ok, tYes_ok, hCall_ok, hCallN_ok, hMeth_ok, hMethN_ok, hMake_ok, hMakeN_ok, hBM_ok, hGet1_dic, hGet2_dic, hGet1_k, hGet2_k, hDNew_ok, hD1_int, hPNil_ok, hPCons_str, hPCons_int, hDN_ok, iRng3_int, iRev_ok, hRg1_int, hRg2_int, hLstRg_ok, iRng1_int, iRng2_int, iIt_ok, iEn_ok, iZip_ok, q2_tup, q3_tup, q4_tup, q5_tup, argD_val, argD_fr, argD_frk, lcS_t, lcS_f, lc2S_t, lc2S_f, bnd_val, bnd_fr, bnd_frk, bnd_ex, bnd_no, bndO_fr, bndO_ex, bndK_frk, bndI_ok, iteC_t, iteC_f, iteC_ex, ret_val, ret_fr, ret_frk, ret_ex, drp_ok, drp_ex, bind_nx, bind_ct, bind_bk, Sh.bind_rt, Sh.bind_ex, run_rt, run_nx, run_ex, appO_ok, appO_fr, augG_int, Ev.bind_ok, Ev.bind_ex, Ev.bind_no, lift_some, lift_none, args, argfr, argfrk, nox_ok, uSub, uAdd, uMul, uEq, uNe, uInA, uoSub, uoDiv, uoMod, uoLt, uoLe, uoGt, uoGe, uNeg, fI_int, fI_l, fI_r, fCmpI_int, eqF_int, eqF_bl, eqF_str, fInt_int, fAbs_int, fLen_lst, fLen_tup, fLen_red, fLen_nst, fLen_scr, fList_lst, fList_red, fIx_lst, fIx_red, fIx_tup, fIx_nst, fIx_dic, fIx_scr, isN_non, isN_int, isN_bl, isN_lst, isN_tup, isN_red, isN_str, tr_bl, tr_int, tr_lst, tr_red, blR_bl, toDs0, toDs1, inSint, lstS1, lstS2, tpS1, tpS2, tpS3, sqS1, sqS2, sqS3, sqS4, sqS5, lsS1, lsS2, lsS3, rdval, rdown, rdred, rdscr, rddic, rdnst, or_some, or_none, Option.map_some, Option.map_none, Bool.not_true, Bool.not_false, Bool.false_eq_true, if_true, if_false, reduceIte, d_size, d_names, d_neighbors, d_degree, d_far, d_links, m_size, m_names, fLst_0, fTup_0, fLst_1, fTup_1, fLst_2, fTup_2, fLst_3, fTup_3, fLst_4, fTup_4, fLst_5, fTup_5, fLst_6, fTup_6, fLst_7, fTup_7, fLst_8, fTup_8, at_1_0, at_1_m, at_2_0, at_2_1, at_2_m, at_3_0, at_3_1, at_3_2, at_3_m, at_4_0, at_4_1, at_4_2, at_4_3, at_4_m, at_5_0, at_5_1, at_5_2, at_5_3, at_5_4, at_5_m, at_6_0, at_6_1, at_6_2, at_6_3, at_6_4, at_6_5, at_6_m, in_lst_1, in_tup_1, in_lst_2, in_tup_2, in_lst_3, in_tup_3, in_lst_4, in_tup_4, in_ints, in_intsT, in_intsR, Sh.fAll_map, Sh.fAny_map, List.cons_append, List.nil_append, decide_eq_true_eq, Int.reduceLT, Int.reduceLE, Int.reduceNeg, ite_tt2, ite_tt4]
  have i2 : hBin fSub (Sh.hv (lI dr)) (.ok (vI ((1 + k : Nat) : Int))) = .ok (vI (dr.getD (1 + k) 0)) := congrArg Ev.lift (sub_i dr (by omega))
  have i3 : hBin oMod (.ok (vI (dr.getD (1 + k) 0))) (Sh.hv (.int 3)) = .ok (vI (dr.getD (1 + k) 0 % 3)) := by
    have q2 : (0 : Int) < 3 := by omega
    generalize dr.getD (1 + k) 0 = x
    simp only [hUn_ok, hBin_ok, hNil_ok, hCons_ok, hSnoc_ok, hCB_ok, hO_int, hONo_ok, hSl_ok, hIf_ok, hAnd_ok, hOr_ok, hNot_ok, hChain_ok, tTru_ok, tTB_ok, tAnd_ok, tOr_ok, tNot_ok, tYes_ok, hCall_ok, hCallN_ok, hMeth_ok, hMethN_ok, hMake_ok, hMakeN_ok, hBM_ok, hGet1_dic, hGet2_dic, hGet1_k, hGet2_k, hDNew_ok, hD1_int, hPNil_ok, hPCons_str, hPCons_int, hDN_ok, iRng3_int, iRev_ok, hRg1_int, hRg2_int, hLstRg_ok, iRng1_int, iRng2_int, iIt_ok, iEn_ok, iZip_ok, q2_tup, q3_tup, q4_tup, q5_tup, argD_val, argD_fr, argD_frk, lcS_t, lcS_f, lc2S_t, lc2S_f, bnd_val, bnd_fr, bnd_frk, bnd_ex, bnd_no, bndO_fr, bndO_ex, bndK_frk, bndI_ok, iteC_t, iteC_f, iteC_ex, ret_val, ret_fr, ret_frk, ret_ex, drp_ok, drp_ex, bind_nx, bind_ct, bind_bk, Sh.bind_rt, Sh.bind_ex, run_rt, run_nx, run_ex, appO_ok, appO_fr, augG_int, Ev.bind_ok, Ev.bind_ex, Ev.bind_no, lift_some, lift_none, args, argfr, argfrk, nox_ok, uSub, uAdd, uMul, uEq, uNe, uInA, uoSub, uoDiv, uoMod, uoLt, uoLe, uoGt, uoGe, uNeg, fI_int, fI_l, fI_r, fCmpI_int, eqF_int, eqF_bl, eqF_str, fInt_int, fAbs_int, fLen_lst, fLen_tup, fLen_red, fLen_nst, fLen_scr, fList_lst, fList_red, fIx_lst, fIx_red, fIx_tup, fIx_nst, fIx_dic, fIx_scr, isN_non, isN_int, isN_bl, isN_lst, isN_tup, isN_red, isN_str, tr_bl, tr_int, tr_lst, tr_red, blR_bl, toDs0, toDs1, inSint, lstS1, lstS2, tpS1, tpS2, tpS3, sqS1, sqS2, sqS3, sqS4, sqS5, lsS1, lsS2, lsS3, rdval, rdown, rdred, rdscr, rddic, rdnst, or_some, or_none, Option.map_some, Option.map_none, Bool.not_true, Bool.not_false, Bool.false_eq_true, if_true, if_false, reduceIte, d_size, d_names, d_neighbors, d_degree, d_far, d_links, m_size, m_names, fLst_0, fTup_0, fLst_1, fTup_1, fLst_2, fTup_2, fLst_3, fTup_3, fLst_4, fTup_4, fLst_5, fTup_5, fLst_6, fTup_6, fLst_7, fTup_7, fLst_8, fTup_8, at_1_0, at_1_m, at_2_0, at_2_1, at_2_m, at_3_0, at_3_1, at_3_2, at_3_m, at_4_0, at_4_1, at_4_2, at_4_3, at_4_m, at_5_0, at_5_1, at_5_2, at_5_3, at_5_4, at_5_m, at_6_0, at_6_1, at_6_2, at_6_3, at_6_4, at_6_5, at_6_m, in_lst_1, in_tup_1, in_lst_2, in_tup_2, in_lst_3, in_tup_3, in_lst_4, in_tup_4, in_ints, in_intsT, in_intsR, Sh.fAll_map, Sh.fAny_map, List.cons_append, List.nil_append, decide_eq_true_eq, Int.reduceLT, Int.reduceLE, Int.reduceNeg, ite_tt2, ite_tt4, q2]
  unfold K05e.G_law_6
  rw [i1, i2, i3]
  have m0 := Int.emod_nonneg (dr.getD (1 + k) 0) (show (3 : Int) ≠ 0 by decide)
  have m1 := Int.emod_lt_of_pos (dr.getD (1 + k) 0) (show (0 : Int) < 3 by decide)
  generalize dr.getD (1 + k) 0 % 3 = z at *
  obtain ⟨c, rfl⟩ : ∃ c : Nat, z = (c : Int) := ⟨z.toNat, by omega⟩
  have rg : iRng1 (.ok (vI ((c : Nat) : Int))) = .ok (rgL 0 c) := by
    have hb2 : -4000000 ≤ ((c : Nat) : Int) ∧ ((c : Nat) : Int) ≤ 4000000 := by omega
    have ht : (((c : Nat) : Int)).toNat = c := by omega
    generalize ((c : Nat) : Int) = cc at *
    simp only [hUn_ok, hBin_ok, hNil_ok, hCons_ok, hSnoc_ok, hCB_ok, hO_int, hONo_ok, hSl_ok, hIf_ok, hAnd_ok, hOr_ok, hNot_ok, hChain_ok, tTru_ok, tTB_ok, tAnd_ok, tOr_ok, tNot_ok, tYes_ok, hCall_ok, hCallN_ok, hMeth_ok, hMethN_ok, hMake_ok, hMakeN_ok, hBM_ok, hGet1_dic, hGet2_dic, hGet1_k, hGet2_k, hDNew_ok, hD1_int, hPNil_ok, hPCons_str, hPCons_int, hDN_ok, iRng3_int, iRev_ok, hRg1_int, hRg2_int, hLstRg_ok, iRng1_int, iRng2_int, iIt_ok, iEn_ok, iZip_ok, q2_tup, q3_tup, q4_tup, q5_tup, argD_val, argD_fr, argD_frk, lcS_t, lcS_f, lc2S_t, lc2S_f, bnd_val, bnd_fr, bnd_frk, bnd_ex, bnd_no, bndO_fr, bndO_ex, bndK_frk, bndI_ok, iteC_t, iteC_f, iteC_ex, ret_val, ret_fr, ret_frk, ret_ex, drp_ok, drp_ex, bind_nx, bind_ct, bind_bk, Sh.bind_rt, Sh.bind_ex, run_rt, run_nx, run_ex, appO_ok, appO_fr, augG_int, Ev.bind_ok, Ev.bind_ex, Ev.bind_no, lift_some, lift_none, args, argfr, argfrk, nox_ok, uSub, uAdd, uMul, uEq, uNe, uInA, uoSub, uoDiv, uoMod, uoLt, uoLe, uoGt, uoGe, uNeg, fI_int, fI_l, fI_r, fCmpI_int, eqF_int, eqF_bl, eqF_str, fInt_int, fAbs_int, fLen_lst, fLen_tup, fLen_red, fLen_nst, fLen_scr, fList_lst, fList_red, fIx_lst, fIx_red, fIx_tup, fIx_nst, fIx_dic, fIx_scr, isN_non, isN_int, isN_bl, isN_lst, isN_tup, isN_red, isN_str, tr_bl, tr_int, tr_lst, tr_red, blR_bl, toDs0, toDs1, inSint, lstS1, lstS2, tpS1, tpS2, tpS3, sqS1, sqS2, sqS3, sqS4, sqS5, lsS1, lsS2, lsS3, rdval, rdown, rdred, rdscr, rddic, rdnst, or_some, or_none, Option.map_some, Option.map_none, Bool.not_true, Bool.not_false, Bool.false_eq_true, if_true, if_false, reduceIte, d_size, d_names, d_neighbors, d_degree, d_far, d_links, m_size, m_names, fLst_0, fTup_0, fLst_1, fTup_1, fLst_2, fTup_2, fLst_3, fTup_3, fLst_4, fTup_4, fLst_5, fTup_5, fLst_6, fTup_6, fLst_7, fTup_7, fLst_8, fTup_8, at_1_0, at_1_m, at_2_0, at_2_1, at_2_m, at_3_0, at_3_1, at_3_2, at_3_m, at_4_0, at_4_1, at_4_2, at_4_3, at_4_m, at_5_0, at_5_1, at_5_2, at_5_3, at_5_4, at_5_m, at_6_0, at_6_1, at_6_2, at_6_3, at_6_4, at_6_5, at_6_m, in_lst_1, in_tup_1, in_lst_2, in_tup_2, in_lst_3, in_tup_3, in_lst_4, in_tup_4, in_ints, in_intsT, in_intsR, Sh.fAll_map, Sh.fAny_map, List.cons_append, List.nil_append, decide_eq_true_eq, Int.reduceLT, Int.reduceLE, Int.reduceNeg, ite_tt2, ite_tt4]
    rw [if_pos hb2, ht]
  rw [rg, bndI_ok]
  obtain ⟨s1, e1, p1⟩ := forG_exr (β := List D) (f := K05e.G_law_4 (lI dr) x0 (.int ((k : Nat) : Int))) (fun j s => Mx ns nb k (3 * k + j) s) (n := c) (s := s) h fun j s hj hs => by
    obtain ⟨s', a, b⟩ := other_at (x0 := x0) (j := j) (m := 3 * k + j) hd (by omega) (by omega) hs (by omega)
    exact ⟨s', .inl a, b⟩
  rw [e1, bind_nx]
  unfold K05e.G_law_5
  have i4 : hBin fSub (Sh.hv (.lst (((List.range nb.length).map (lineN ns nb)).map D.str))) (Sh.hv (.int ((k : Nat) : Int))) = .ok (vS (lineN ns nb k)) := by
    show Ev.lift (((atI (((List.range nb.length).map (lineN ns nb)).map D.str) ((k : Nat) : Int)).map fun d => R.s (.val d)).or _) = _
    rw [at_nat (by omega), Int.toNat_natCast, List.getElem?_map, List.getElem?_map, List.getElem?_range hk]; rfl
  have p2 : Mx ns nb (k + 1) (3 * k + c + 1) (s1 ++ [.str (lineN ns nb k)]) := Mx.line H hb p1 hk
  have := p1.len
  rw [i4, appO_ok, if_pos (by omega)]
  obtain ⟨M, a1, a2, a3, a4⟩ := p2
  exact ⟨_, rfl, M, a1, a2, a3, by omega⟩
theorem law9 (H : NetOk ns nb) (hb : ∀ x ∈ ns, x < 1000000000) (n8 : nb.length ≤ 8) (hd : dr.length = 40) : K05e.G_law_9 (lI dr) (netT ns nb) (.lst (((List.range nb.length).map (lineN ns nb)).map D.str)) [] = .rt (.s (.val (.bl true))) := by
  unfold K05e.G_law_9
  have rg : iRng1 (hCB fLen (hCons (Sh.hv (.lst (((List.range nb.length).map (lineN ns nb)).map D.str))) hNil)) = .ok (rgL 0 nb.length) := by
    have e : hCB fLen (hCons (Sh.hv (.lst (((List.range nb.length).map (lineN ns nb)).map D.str))) hNil) = .ok (vI ((nb.length : Nat) : Int)) := by
      show Res.ok (vI (((((List.range nb.length).map (lineN ns nb)).map D.str).length : Nat) : Int)) = _
      rw [List.length_map, List.length_map, List.length_range]
    rw [e]
    generalize hN : nb.length = N at *
    have hb2 : -4000000 ≤ ((N : Nat) : Int) ∧ ((N : Nat) : Int) ≤ 4000000 := by omega
    have ht : (((N : Nat) : Int)).toNat = N := by omega
    simp only [hUn_ok, hBin_ok, hNil_ok, hCons_ok, hSnoc_ok, hCB_ok, hO_int, hONo_ok, hSl_ok, hIf_ok, hAnd_ok, hOr_ok, hNot_ok, hChain_ok, tTru_ok, tTB_ok, tAnd_ok, tOr_ok, tNot_ok, tYes_ok, hCall_ok, hCallN_ok, hMeth_ok, hMethN_ok, hMake_ok, hMakeN_ok, hBM_ok, hGet1_dic, hGet2_dic, hGet1_k, hGet2_k, hDNew_ok, hD1_int, hPNil_ok, hPCons_str, hPCons_int, hDN_ok, iRng3_int, iRev_ok, hRg1_int, hRg2_int, hLstRg_ok, iRng1_int, iRng2_int, iIt_ok, iEn_ok, iZip_ok, q2_tup, q3_tup, q4_tup, q5_tup, argD_val, argD_fr, argD_frk, lcS_t, lcS_f, lc2S_t, lc2S_f, bnd_val, bnd_fr, bnd_frk, bnd_ex, bnd_no, bndO_fr, bndO_ex, bndK_frk, bndI_ok, iteC_t, iteC_f, iteC_ex, ret_val, ret_fr, ret_frk, ret_ex, drp_ok, drp_ex, bind_nx, bind_ct, bind_bk, Sh.bind_rt, Sh.bind_ex, run_rt, run_nx, run_ex, appO_ok, appO_fr, augG_int, Ev.bind_ok, Ev.bind_ex, Ev.bind_no, lift_some, lift_none, args, argfr, argfrk, nox_ok, uSub, uAdd, uMul, uEq, uNe, uInA, uoSub, uoDiv, uoMod, uoLt, uoLe, uoGt, uoGe, uNeg, fI_int, fI_l, fI_r, fCmpI_int, eqF_int, eqF_bl, eqF_str, fInt_int, fAbs_int, fLen_lst, fLen_tup, fLen_red, fLen_nst, fLen_scr, fList_lst, fList_red, fIx_lst, fIx_red, fIx_tup, fIx_nst, fIx_dic, fIx_scr, isN_non, isN_int, isN_bl, isN_lst, isN_tup, isN_red, isN_str, tr_bl, tr_int, tr_lst, tr_red, blR_bl, toDs0, toDs1, inSint, lstS1, lstS2, tpS1, tpS2, tpS3, sqS1, sqS2, sqS3, sqS4, sqS5, lsS1, lsS2, lsS3, rdval, rdown, rdred, rdscr, rddic, rdnst, or_some, or_none, Option.map_some, Option.map_none, Bool.not_true, Bool.not_false, Bool.false_eq_true, if_true, if_false, reduceIte, d_size, d_names, d_neighbors, d_degree, d_far, d_links, m_size, m_names, fLst_0, fTup_0, fLst_1, fTup_1, fLst_2, fTup_2, fLst_3, fTup_3, fLst_4, fTup_4, fLst_5, fTup_5, fLst_6, fTup_6, fLst_7, fTup_7, fLst_8, fTup_8, at_1_0, at_1_m, at_2_0, at_2_1, at_2_m, at_3_0, at_3_1, at_3_2, at_3_m, at_4_0, at_4_1, at_4_2, at_4_3, at_4_m, at_5_0, at_5_1, at_5_2, at_5_3, at_5_4, at_5_m, at_6_0, at_6_1, at_6_2, at_6_3, at_6_4, at_6_5, at_6_m, in_lst_1, in_tup_1, in_lst_2, in_tup_2, in_lst_3, in_tup_3, in_lst_4, in_tup_4, in_ints, in_intsT, in_intsR, Sh.fAll_map, Sh.fAny_map, List.cons_append, List.nil_append, decide_eq_true_eq, Int.reduceLT, Int.reduceLE, Int.reduceNeg, ite_tt2, ite_tt4]
    rw [if_pos hb2, ht]
  rw [rg, bndI_ok]
  obtain ⟨s1, e1, M, rfl, a2, a3, a4⟩ := forG_exr (β := Empty) (f := K05e.G_law_6 (lI dr) (.lst (((List.range nb.length).map (lineN ns nb)).map D.str)) []) (fun k s => Mx ns nb k (3 * k) s) (n := nb.length) (s := []) ⟨[], rfl, rfl, fun _ h => (nomatch h), by simp⟩ fun k s hk hs => by
    obtain ⟨s', a, b⟩ := turn_at H hb n8 (x0 := []) hd hk hs
    exact ⟨s', .inl a, b⟩
  rw [e1, bind_nx]
  unfold K05e.G_law_8
  have i2 : hBin fSub (Sh.hv (lI dr)) (Sh.hv (.int 39)) = .ok (vI (dr.getD 39 0)) := congrArg Ev.lift (sub_i dr (k := 39) (by omega))
  have i3 : hBin oMod (.ok (vI (dr.getD 39 0))) (Sh.hv (.int 3)) = .ok (vI (dr.getD 39 0 % 3)) := by
    have q2 : (0 : Int) < 3 := by omega
    generalize dr.getD 39 0 = x
    simp only [hUn_ok, hBin_ok, hNil_ok, hCons_ok, hSnoc_ok, hCB_ok, hO_int, hONo_ok, hSl_ok, hIf_ok, hAnd_ok, hOr_ok, hNot_ok, hChain_ok, tTru_ok, tTB_ok, tAnd_ok, tOr_ok, tNot_ok, tYes_ok, hCall_ok, hCallN_ok, hMeth_ok, hMethN_ok, hMake_ok, hMakeN_ok, hBM_ok, hGet1_dic, hGet2_dic, hGet1_k, hGet2_k, hDNew_ok, hD1_int, hPNil_ok, hPCons_str, hPCons_int, hDN_ok, iRng3_int, iRev_ok, hRg1_int, hRg2_int, hLstRg_ok, iRng1_int, iRng2_int, iIt_ok, iEn_ok, iZip_ok, q2_tup, q3_tup, q4_tup, q5_tup, argD_val, argD_fr, argD_frk, lcS_t, lcS_f, lc2S_t, lc2S_f, bnd_val, bnd_fr, bnd_frk, bnd_ex, bnd_no, bndO_fr, bndO_ex, bndK_frk, bndI_ok, iteC_t, iteC_f, iteC_ex, ret_val, ret_fr, ret_frk, ret_ex, drp_ok, drp_ex, bind_nx, bind_ct, bind_bk, Sh.bind_rt, Sh.bind_ex, run_rt, run_nx, run_ex, appO_ok, appO_fr, augG_int, Ev.bind_ok, Ev.bind_ex, Ev.bind_no, lift_some, lift_none, args, argfr, argfrk, nox_ok, uSub, uAdd, uMul, uEq, uNe, uInA, uoSub, uoDiv, uoMod, uoLt, uoLe, uoGt, uoGe, uNeg, fI_int, fI_l, fI_r, fCmpI_int, eqF_int, eqF_bl, eqF_str, fInt_int, fAbs_int, fLen_lst, fLen_tup, fLen_red, fLen_nst, fLen_scr, fList_lst, fList_red, fIx_lst, fIx_red, fIx_tup, fIx_nst, fIx_dic, fIx_scr, isN_non, isN_int, isN_bl, isN_lst, isN_tup, isN_red, isN_str, tr_bl, tr_int, tr_lst, tr_red, blR_bl, toDs0, toDs1, inSint, lstS1, lstS2, tpS1, tpS2, tpS3, sqS1, sqS2, sqS3, sqS4, sqS5, lsS1, lsS2, lsS3, rdval, rdown, rdred, rdscr, rddic, rdnst, or_some, or_none, Option.map_some, Option.map_none, Bool.not_true, Bool.not_false, Bool.false_eq_true, if_true, if_false, reduceIte, d_size, d_names, d_neighbors, d_degree, d_far, d_links, m_size, m_names, fLst_0, fTup_0, fLst_1, fTup_1, fLst_2, fTup_2, fLst_3, fTup_3, fLst_4, fTup_4, fLst_5, fTup_5, fLst_6, fTup_6, fLst_7, fTup_7, fLst_8, fTup_8, at_1_0, at_1_m, at_2_0, at_2_1, at_2_m, at_3_0, at_3_1, at_3_2, at_3_m, at_4_0, at_4_1, at_4_2, at_4_3, at_4_m, at_5_0, at_5_1, at_5_2, at_5_3, at_5_4, at_5_m, at_6_0, at_6_1, at_6_2, at_6_3, at_6_4, at_6_5, at_6_m, in_lst_1, in_tup_1, in_lst_2, in_tup_2, in_lst_3, in_tup_3, in_lst_4, in_tup_4, in_ints, in_intsT, in_intsR, Sh.fAll_map, Sh.fAny_map, List.cons_append, List.nil_append, decide_eq_true_eq, Int.reduceLT, Int.reduceLE, Int.reduceNeg, ite_tt2, ite_tt4, q2]
  rw [i2, i3]
  have m0 := Int.emod_nonneg (dr.getD 39 0) (show (3 : Int) ≠ 0 by decide)
  have m1 := Int.emod_lt_of_pos (dr.getD 39 0) (show (0 : Int) < 3 by decide)
  generalize dr.getD 39 0 % 3 = z at *
  obtain ⟨c, rfl⟩ : ∃ c : Nat, z = (c : Int) := ⟨z.toNat, by omega⟩
  have tk : hSl (hCB fLst (hCons (Sh.hv (.str "")) (hCons (Sh.hv (.str "#end")) hNil))) hONo (hO (.ok (vI ((c : Nat) : Int)))) = .ok (.fr ((([("" : Str), "#end"] : List Str).take c).map D.str)) := by
    show Ev.lift (fSl (.val (.lst [.str "", .str "#end"])) none (some ((c : Nat) : Int))) = _
    rw [sl_to (by show c ≤ 2; omega), List.map_take]; rfl
  have ad : hBin fAdd (Sh.hv (.lst (M.map D.str))) (.ok (.fr ((([("" : Str), "#end"] : List Str).take c).map D.str))) = .ok (.fr ((M ++ ([("" : Str), "#end"] : List Str).take c).map D.str)) := by
    rw [List.map_append]
    exact congrArg Ev.lift (add_l (by rw [List.length_map, List.length_map, List.length_take]; show _ + min c 2 ≤ _; omega))
  rw [tk, ad, bnd_fr]
  have hpos := H.pos
  have two : ∀ l ∈ ([("" : Str), "#end"] : List Str).take c, Good l ∧ skip l = true := fun l hl => by
    have := List.mem_of_mem_take hl
    rcases List.mem_cons.mp this with q | q
    · rw [q]; exact ⟨good_nil, by decide +kernel⟩
    · rw [List.mem_singleton.mp q]; exact ⟨⟨by decide +kernel, by decide +kernel⟩, by decide +kernel⟩
  refine law7 H hb (fun e => ?_) (fun l hl => ?_) (by rw [List.length_append, List.length_take]; show _ + min c 2 ≤ _; omega) ?_
  · have : M = [] := (List.append_eq_nil_iff.mp e).1
    rw [this] at a2
    have := congrArg List.length a2
    rw [List.length_map, List.length_range] at this
    exact absurd this (by show (0 : Nat) ≠ _; omega)
  · rcases List.mem_append.mp hl with q | q
    · exact a3 l q
    · exact (two l q).1
  · rw [List.filter_append, a2, List.filter_eq_nil_iff.mpr (fun l hl => by rw [(two l hl).2]; decide), List.append_nil]
theorem law14 (H : NetOk ns nb) (hb : ∀ x ∈ ns, x < 1000000000) (n8 : nb.length ≤ 8) (hd : dr.length = 40) : K05e.G_law_14 (lI dr) (netT ns nb) = .rt (.s (.val (.bl true))) := by
  have hpos := H.pos
  have gl := good_lines H hb
  unfold K05e.G_law_14
  have c1 : hCallN K05e.F__law_lines (hCons (Sh.hv (netT ns nb)) hNil) = .ok (.fr (((List.range nb.length).map (lineN ns nb)).map D.str)) := congrArg nox (llines_at H hb)
  rw [c1, bnd_fr]
  have l9 := law9 H hb n8 hd
  have tx := text_at H hb
  have hk := keep_lines (ns := ns) (nb := nb) nb.length
  have hl : ((List.range nb.length).map (lineN ns nb)).length = nb.length := by rw [List.length_map, List.length_range]
  have hne : (List.range nb.length).map (lineN ns nb) ≠ [] := fun e => by rw [e] at hl; exact absurd hl (by show (0 : Nat) ≠ _; omega)
  have rj := read_join H hb hne gl (by omega) hk
  have rj2 := read_join H hb (M := (List.range nb.length).map (lineN ns nb) ++ [("" : Str)]) (by simp) (fun l hm => by
    rcases List.mem_append.mp hm with q | q
    · exact gl l q
    · rw [List.mem_singleton.mp q]; exact good_nil) (by rw [List.length_append]; show _ + 1 ≤ _; omega) (by
      rw [List.filter_append, hk, show [("" : Str)].filter (fun l => !skip l) = [] by decide +kernel, List.append_nil])
  rw [← join_nl] at rj2
  have jj := jn2 H hb gl (by omega)
  have js : hBM isStr fJoin (Sh.hv (.str "")) (.ok (.fr ((((List.range nb.length).map (lineN ns nb)).map (· ++ nl)).map D.str))) = .ok (vS (Txt.join "" (((List.range nb.length).map (lineN ns nb)).map (· ++ nl)))) :=
    congrArg Ev.lift (join_at (y := "") (m := 421) (fun p hp => by
      obtain ⟨q, hq, rfl⟩ := List.mem_map.mp hp
      have := (gl q hq).2
      rw [TL.len_tl, TL.tl_append, List.length_append, ← TL.len_tl, ← TL.len_tl, show nl.length = 1 by decide +kernel]
      omega) (by rw [List.length_map, List.length_map, List.length_range, show ("" : Str).length = 0 by decide +kernel]; omega))
  have lc : hLc (iIt (Sh.hv (.lst (((List.range nb.length).map (lineN ns nb)).map D.str)))) K05e.G_law_3 = .ok (.fr ((((List.range nb.length).map (lineN ns nb)).map (· ++ nl)).map D.str)) := by
    have := hLc_map (f := K05e.G_law_3) (h := D.str) (k := fun l => D.str (l ++ nl)) (l := (List.range nb.length).map (lineN ns nb)) (fun l hm => by
      unfold K05e.G_law_3
      have : hBin fAdd (Sh.hv (.str l)) (Sh.hv (.str "\n")) = .ok (vS (l ++ nl)) := congrArg Ev.lift (add_s (by
        have := (gl l hm).2
        show _ + nl.length ≤ _
        rw [show nl.length = 1 by decide +kernel]; omega))
      rw [this]; rfl) (by omega)
    rw [List.map_map (l := (List.range nb.length).map (lineN ns nb))]
    exact this
  generalize (List.range nb.length).map (lineN ns nb) = L at *
  unfold K05e.G_law_13
  rw [lc, js]
  show K05e.G_law_12 (lI dr) (netT ns nb) (.lst (L.map D.str)) (.str (Txt.join "" (L.map (· ++ nl)))) = _
  unfold K05e.G_law_12
  have md : hCallN K05e.F__law_made (hCons (Sh.hv (netT ns nb)) hNil) = .ok (.s (.val (netO ns nb))) := congrArg nox (made H)
  have nt : hCallN K05e.F_network_text (hCons (.ok (.s (.val (netO ns nb)))) hNil) = .ok (vS (Txt.join "" (L.map (· ++ nl)))) := congrArg nox tx
  have lk : hCallN K05e.F__law_like (hCons (.ok (vS (Txt.join "" (L.map (· ++ nl))))) (hCons (Sh.hv (.str (Txt.join "" (L.map (· ++ nl))))) hNil)) = .ok (vB true) := congrArg nox (Pre.like (d := .str (Txt.join "" (L.map (· ++ nl)))) rfl)
  have ir : hCallN K05e.F__law_is (hCons (hCallN K05e.F_read_network (hCons (Sh.hv (.str (Txt.join "" (L.map (· ++ nl))))) hNil)) (hCons (Sh.hv (netT ns nb)) hNil)) = .ok (vB true) := is_read H (congrArg nox rj2)
  rw [md, nt, lk, ir]
  show K05e.G_law_11 (lI dr) (netT ns nb) (.lst (L.map D.str)) () = _
  unfold K05e.G_law_11
  have ir2 : hCallN K05e.F__law_is (hCons (hCallN K05e.F_read_network (hCons (.ok (vS (Txt.join nl L))) hNil)) (hCons (Sh.hv (netT ns nb)) hNil)) = .ok (vB true) := is_read H (congrArg nox rj)
  rw [jj, ir2]
  exact l9
end
theorem holds (s : List Int) (hs63 : s.length ≤ 63) : K05e.G_law s = .rt (.s (.val (.bl true))) := by
  obtain ⟨ns, nb, h, hl, hlt, b0⟩ := drawn2 s 0 0 rfl 8 (by decide) (by decide)
  have a1 := cell s 1 1 rfl
  obtain ⟨dr, hd, hdr, b1⟩ := draws (cellF s 1) 40 40 rfl (by decide)
  have hn := h.hn
  have e15 : K05e.G_law_15 (netT ns nb) (lI dr) = .rt (.s (.val (.bl true))) := by
    unfold K05e.G_law_15
    have i2 : hBin fSub (Sh.hv (lI dr)) (Sh.hv (.int 0)) = .ok (vI (dr.getD 0 0)) := congrArg Ev.lift (sub_i dr (k := 0) (by omega))
    have i3 : tTB (hBin fEq (hBin oMod (.ok (vI (dr.getD 0 0))) (Sh.hv (.int 3))) (Sh.hv (.int 0))) = .ok (decide (dr.getD 0 0 % 3 = 0)) := by
      have q2 : (0 : Int) < 3 := by omega
      generalize dr.getD 0 0 = x
      simp only [hUn_ok, hBin_ok, hNil_ok, hCons_ok, hSnoc_ok, hCB_ok, hO_int, hONo_ok, hSl_ok, hIf_ok, hAnd_ok, hOr_ok, hNot_ok, hChain_ok, tTru_ok, tTB_ok, tAnd_ok, tOr_ok, tNot_ok, tYes_ok, hCall_ok, hCallN_ok, hMeth_ok, hMethN_ok, hMake_ok, hMakeN_ok, hBM_ok, hGet1_dic, hGet2_dic, hGet1_k, hGet2_k, hDNew_ok, hD1_int, hPNil_ok, hPCons_str, hPCons_int, hDN_ok, iRng3_int, iRev_ok, hRg1_int, hRg2_int, hLstRg_ok, iRng1_int, iRng2_int, iIt_ok, iEn_ok, iZip_ok, q2_tup, q3_tup, q4_tup, q5_tup, argD_val, argD_fr, argD_frk, lcS_t, lcS_f, lc2S_t, lc2S_f, bnd_val, bnd_fr, bnd_frk, bnd_ex, bnd_no, bndO_fr, bndO_ex, bndK_frk, bndI_ok, iteC_t, iteC_f, iteC_ex, ret_val, ret_fr, ret_frk, ret_ex, drp_ok, drp_ex, bind_nx, bind_ct, bind_bk, Sh.bind_rt, Sh.bind_ex, run_rt, run_nx, run_ex, appO_ok, appO_fr, augG_int, Ev.bind_ok, Ev.bind_ex, Ev.bind_no, lift_some, lift_none, args, argfr, argfrk, nox_ok, uSub, uAdd, uMul, uEq, uNe, uInA, uoSub, uoDiv, uoMod, uoLt, uoLe, uoGt, uoGe, uNeg, fI_int, fI_l, fI_r, fCmpI_int, eqF_int, eqF_bl, eqF_str, fInt_int, fAbs_int, fLen_lst, fLen_tup, fLen_red, fLen_nst, fLen_scr, fList_lst, fList_red, fIx_lst, fIx_red, fIx_tup, fIx_nst, fIx_dic, fIx_scr, isN_non, isN_int, isN_bl, isN_lst, isN_tup, isN_red, isN_str, tr_bl, tr_int, tr_lst, tr_red, blR_bl, toDs0, toDs1, inSint, lstS1, lstS2, tpS1, tpS2, tpS3, sqS1, sqS2, sqS3, sqS4, sqS5, lsS1, lsS2, lsS3, rdval, rdown, rdred, rdscr, rddic, rdnst, or_some, or_none, Option.map_some, Option.map_none, Bool.not_true, Bool.not_false, Bool.false_eq_true, if_true, if_false, reduceIte, d_size, d_names, d_neighbors, d_degree, d_far, d_links, m_size, m_names, fLst_0, fTup_0, fLst_1, fTup_1, fLst_2, fTup_2, fLst_3, fTup_3, fLst_4, fTup_4, fLst_5, fTup_5, fLst_6, fTup_6, fLst_7, fTup_7, fLst_8, fTup_8, at_1_0, at_1_m, at_2_0, at_2_1, at_2_m, at_3_0, at_3_1, at_3_2, at_3_m, at_4_0, at_4_1, at_4_2, at_4_3, at_4_m, at_5_0, at_5_1, at_5_2, at_5_3, at_5_4, at_5_m, at_6_0, at_6_1, at_6_2, at_6_3, at_6_4, at_6_5, at_6_m, in_lst_1, in_tup_1, in_lst_2, in_tup_2, in_lst_3, in_tup_3, in_lst_4, in_tup_4, in_ints, in_intsT, in_intsR, Sh.fAll_map, Sh.fAny_map, List.cons_append, List.nil_append, decide_eq_true_eq, Int.reduceLT, Int.reduceLE, Int.reduceNeg, ite_tt2, ite_tt4, q2]
    rw [i2, i3]
    by_cases c : dr.getD 0 0 % 3 = 0
    · rw [decide_eq_true c, iteC_t]
      have nn := h.names
      have h' : NetOk (ns.map fun x => 999999999 - 7 * x) nb := h.renamed (List.length_map ..) (fun x hx => by
        obtain ⟨y, hy, rfl⟩ := List.mem_map.mp hx
        have := hlt y hy
        omega) (by
          refine List.pairwise_map.mpr (nn.2.imp fun {a b} hab e => hab (by omega)))
      have e2 : K05e.G_law_2 (netT ns nb) () = .nx (netT (ns.map fun x => 999999999 - 7 * x) nb) := by
        unfold K05e.G_law_2
        rw [net0, net1]
        have lc : hLc (iIt (.ok (.s (.val (lI ns))))) K05e.G_law_1 = .ok (.fr (ns.map fun x => D.int (999999999 - 7 * x))) := hLc_ints (fun x hx => by
          unfold K05e.G_law_1
          have := hlt x hx
          have := h.names.1 x hx
          have cm : cMul 7 x = true := cMul_l (by decide) (by decide)
          simp only [hUn_ok, hBin_ok, hNil_ok, hCons_ok, hSnoc_ok, hCB_ok, hO_int, hONo_ok, hSl_ok, hIf_ok, hAnd_ok, hOr_ok, hNot_ok, hChain_ok, tTru_ok, tTB_ok, tAnd_ok, tOr_ok, tNot_ok, tYes_ok, hCall_ok, hCallN_ok, hMeth_ok, hMethN_ok, hMake_ok, hMakeN_ok, hBM_ok, hGet1_dic, hGet2_dic, hGet1_k, hGet2_k, hDNew_ok, hD1_int, hPNil_ok, hPCons_str, hPCons_int, hDN_ok, iRng3_int, iRev_ok, hRg1_int, hRg2_int, hLstRg_ok, iRng1_int, iRng2_int, iIt_ok, iEn_ok, iZip_ok, q2_tup, q3_tup, q4_tup, q5_tup, argD_val, argD_fr, argD_frk, lcS_t, lcS_f, lc2S_t, lc2S_f, bnd_val, bnd_fr, bnd_frk, bnd_ex, bnd_no, bndO_fr, bndO_ex, bndK_frk, bndI_ok, iteC_t, iteC_f, iteC_ex, ret_val, ret_fr, ret_frk, ret_ex, drp_ok, drp_ex, bind_nx, bind_ct, bind_bk, Sh.bind_rt, Sh.bind_ex, run_rt, run_nx, run_ex, appO_ok, appO_fr, augG_int, Ev.bind_ok, Ev.bind_ex, Ev.bind_no, lift_some, lift_none, args, argfr, argfrk, nox_ok, uSub, uAdd, uMul, uEq, uNe, uInA, uoSub, uoDiv, uoMod, uoLt, uoLe, uoGt, uoGe, uNeg, fI_int, fI_l, fI_r, fCmpI_int, eqF_int, eqF_bl, eqF_str, fInt_int, fAbs_int, fLen_lst, fLen_tup, fLen_red, fLen_nst, fLen_scr, fList_lst, fList_red, fIx_lst, fIx_red, fIx_tup, fIx_nst, fIx_dic, fIx_scr, isN_non, isN_int, isN_bl, isN_lst, isN_tup, isN_red, isN_str, tr_bl, tr_int, tr_lst, tr_red, blR_bl, toDs0, toDs1, inSint, lstS1, lstS2, tpS1, tpS2, tpS3, sqS1, sqS2, sqS3, sqS4, sqS5, lsS1, lsS2, lsS3, rdval, rdown, rdred, rdscr, rddic, rdnst, or_some, or_none, Option.map_some, Option.map_none, Bool.not_true, Bool.not_false, Bool.false_eq_true, if_true, if_false, reduceIte, d_size, d_names, d_neighbors, d_degree, d_far, d_links, m_size, m_names, fLst_0, fTup_0, fLst_1, fTup_1, fLst_2, fTup_2, fLst_3, fTup_3, fLst_4, fTup_4, fLst_5, fTup_5, fLst_6, fTup_6, fLst_7, fTup_7, fLst_8, fTup_8, at_1_0, at_1_m, at_2_0, at_2_1, at_2_m, at_3_0, at_3_1, at_3_2, at_3_m, at_4_0, at_4_1, at_4_2, at_4_3, at_4_m, at_5_0, at_5_1, at_5_2, at_5_3, at_5_4, at_5_m, at_6_0, at_6_1, at_6_2, at_6_3, at_6_4, at_6_5, at_6_m, in_lst_1, in_tup_1, in_lst_2, in_tup_2, in_lst_3, in_tup_3, in_lst_4, in_tup_4, in_ints, in_intsT, in_intsR, Sh.fAll_map, Sh.fAny_map, List.cons_append, List.nil_append, decide_eq_true_eq, Int.reduceLT, Int.reduceLE, Int.reduceNeg, ite_tt2, ite_tt4, cm]) (by omega)
        rw [lc]
        show (Oc.nx (D.tup [.lst (ns.map fun x => D.int (999999999 - 7 * x)), .lst (nb.map lI)]) : Oc D Empty) = _
        unfold netT lI iL
        rw [List.map_map]; rfl
      rw [e2, bind_nx]
      exact law14 h' (fun x hx => by
        obtain ⟨y, hy, rfl⟩ := List.mem_map.mp hx
        have := nn.1 y hy
        omega) (by omega) hd
    · rw [decide_eq_false c, iteC_f, bind_nx]
      exact law14 h (fun x hx => by have := hlt x hx; omega) (by omega) hd
  have b0' : apF K05e.F__law_drawn [.scr s, .val (.int 0), .val (.int 8)] = .ok (.s (.val (netT ns nb))) := b0
  have b1' : apF K05e.F__law_draws [.val (.int (cellF s 1)), .val (.int 40)] = .ok (.fr (iL dr)) := b1
  generalize netT ns nb = T1 at *
  unfold lI at e15
  generalize iL dr = DR at *
  simp only [hUn_ok, hBin_ok, hNil_ok, hCons_ok, hSnoc_ok, hCB_ok, hO_int, hONo_ok, hSl_ok, hIf_ok, hAnd_ok, hOr_ok, hNot_ok, hChain_ok, tTru_ok, tTB_ok, tAnd_ok, tOr_ok, tNot_ok, tYes_ok, hCall_ok, hCallN_ok, hMeth_ok, hMethN_ok, hMake_ok, hMakeN_ok, hBM_ok, hGet1_dic, hGet2_dic, hGet1_k, hGet2_k, hDNew_ok, hD1_int, hPNil_ok, hPCons_str, hPCons_int, hDN_ok, iRng3_int, iRev_ok, hRg1_int, hRg2_int, hLstRg_ok, iRng1_int, iRng2_int, iIt_ok, iEn_ok, iZip_ok, q2_tup, q3_tup, q4_tup, q5_tup, argD_val, argD_fr, argD_frk, lcS_t, lcS_f, lc2S_t, lc2S_f, bnd_val, bnd_fr, bnd_frk, bnd_ex, bnd_no, bndO_fr, bndO_ex, bndK_frk, bndI_ok, iteC_t, iteC_f, iteC_ex, ret_val, ret_fr, ret_frk, ret_ex, drp_ok, drp_ex, bind_nx, bind_ct, bind_bk, Sh.bind_rt, Sh.bind_ex, run_rt, run_nx, run_ex, appO_ok, appO_fr, augG_int, Ev.bind_ok, Ev.bind_ex, Ev.bind_no, lift_some, lift_none, args, argfr, argfrk, nox_ok, uSub, uAdd, uMul, uEq, uNe, uInA, uoSub, uoDiv, uoMod, uoLt, uoLe, uoGt, uoGe, uNeg, fI_int, fI_l, fI_r, fCmpI_int, eqF_int, eqF_bl, eqF_str, fInt_int, fAbs_int, fLen_lst, fLen_tup, fLen_red, fLen_nst, fLen_scr, fList_lst, fList_red, fIx_lst, fIx_red, fIx_tup, fIx_nst, fIx_dic, fIx_scr, isN_non, isN_int, isN_bl, isN_lst, isN_tup, isN_red, isN_str, tr_bl, tr_int, tr_lst, tr_red, blR_bl, toDs0, toDs1, inSint, lstS1, lstS2, tpS1, tpS2, tpS3, sqS1, sqS2, sqS3, sqS4, sqS5, lsS1, lsS2, lsS3, rdval, rdown, rdred, rdscr, rddic, rdnst, or_some, or_none, Option.map_some, Option.map_none, Bool.not_true, Bool.not_false, Bool.false_eq_true, if_true, if_false, reduceIte, d_size, d_names, d_neighbors, d_degree, d_far, d_links, m_size, m_names, fLst_0, fTup_0, fLst_1, fTup_1, fLst_2, fTup_2, fLst_3, fTup_3, fLst_4, fTup_4, fLst_5, fTup_5, fLst_6, fTup_6, fLst_7, fTup_7, fLst_8, fTup_8, at_1_0, at_1_m, at_2_0, at_2_1, at_2_m, at_3_0, at_3_1, at_3_2, at_3_m, at_4_0, at_4_1, at_4_2, at_4_3, at_4_m, at_5_0, at_5_1, at_5_2, at_5_3, at_5_4, at_5_m, at_6_0, at_6_1, at_6_2, at_6_3, at_6_4, at_6_5, at_6_m, in_lst_1, in_tup_1, in_lst_2, in_tup_2, in_lst_3, in_tup_3, in_lst_4, in_tup_4, in_ints, in_intsT, in_intsR, Sh.fAll_map, Sh.fAny_map, List.cons_append, List.nil_append, decide_eq_true_eq, Int.reduceLT, Int.reduceLE, Int.reduceNeg, ite_tt2, ite_tt4, K05e.G_law, b0', K05e.G_law_16, a1, b1']
  exact e15
theorem fin : ∀ ns : List Int, ns.length ≤ 63 → K05e.ev_law (.scr ns :: List.replicate 9 .un) = .rt (.v (.bl true)) := fun s h => law_of (K05e.J_law s) (holds s h)
end N05
open PySem PySem.W PySem.Calls PyProof.Rows Hdx
set_option maxRecDepth 100000 in
set_option maxHeartbeats 0 in
theorem PySem.Challenge.cw_nearby_k05_network_texts_holds : PySem.Challenge.rw_nearby_k05_network_texts.Holds := by
  w_on; o_law
  refine HandSHeadRun.head_any (r := OpenLaw.row PySem.Challenge.rw_nearby_k05_network_texts) (q := QK05e.qv) (H := hook QK05e.as QK05e.ts QK05e.fa QK05e.hfn) (ob := fun s => obsG QK05e.as QK05e.ts QK05e.fa QK05e.hfn (HandSHeadRun.getT s)) (M := 60000) (loose := QK05e.names) (d := HandSHeadRun.topDef (OpenLaw.row PySem.Challenge.rw_nearby_k05_network_texts).prog 30) (kwd := []) obsG_eq
    (by kernel_rfl) (fun s => by kernel_rfl) QK05e.run (by kernel_rfl) (by kernel_rfl) (by kernel_rfl) (by rfl) (by first | assumption | decide +kernel) (by decide +kernel) ⟨rfl, rfl, rfl, rfl, rfl, by decide +kernel⟩ ?hw ?hc
  case hw => w_witness2
  case hc =>
    refine Ev.walkW (k := 10) [] (l := PySem.Challenge.rw_nearby_k05_network_texts) rfl (by kernel_rfl) ⟨rfl, by decide, by decide⟩ ?F
    intro w mg fa h Y G hmg0
    letI : Ab.Tabl := { tb := [], wd := some w }
    haveI : Ev.WdOk w := ⟨rfl⟩
    obtain ⟨K, KX, c, htab⟩ := Y
    have hmg : mg ("law" : PySem.Str) = some (.ref fa) := by
      have e : (HandSHeadRun.topDef (OpenLaw.row PySem.Challenge.rw_nearby_k05_network_texts).prog 30).name = ("law" : PySem.Str) := by kernel_rfl
      rw [← e]
      exact hmg0
    obtain ⟨_, l0, c0⟩ := c.fd 0 rfl
    obtain ⟨_, l1, c1⟩ := c.fd 1 rfl
    obtain ⟨_, l2, c2⟩ := c.fd 2 rfl
    obtain ⟨_, l3, c3⟩ := c.fd 3 rfl
    obtain ⟨_, l4, c4⟩ := c.fd 4 rfl
    obtain ⟨_, l5, c5⟩ := c.fd 5 rfl
    obtain ⟨_, l6, c6⟩ := c.fd 6 rfl
    obtain ⟨_, l7, c7⟩ := c.fd 7 rfl
    obtain ⟨_, l8, c8⟩ := c.fd 8 rfl
    obtain ⟨_, l9, c9⟩ := c.fd 9 rfl
    obtain ⟨_, l10, c10⟩ := c.fd 10 rfl
    obtain ⟨_, l11, c11⟩ := c.fd 11 rfl
    obtain ⟨_, l12, c12⟩ := c.fd 12 rfl
    obtain ⟨_, l13, c13⟩ := c.fd 13 rfl
    obtain ⟨_, l14, c14⟩ := c.fd 14 rfl
    obtain ⟨_, l15, c15⟩ := c.fd 15 rfl
    obtain ⟨_, l16, c16⟩ := c.fd 16 rfl
    obtain ⟨_, l17, c17⟩ := c.fd 17 rfl
    obtain ⟨_, l18, c18⟩ := c.fd 18 rfl
    obtain ⟨_, l19, c19⟩ := c.fd 19 rfl
    obtain ⟨_, l20, c20⟩ := c.fd 20 rfl
    obtain ⟨_, l21, c21⟩ := c.fd 21 rfl
    obtain ⟨_, l22, c22⟩ := c.fd 22 rfl
    obtain ⟨_, l23, c23⟩ := c.fd 23 rfl
    obtain ⟨_, l24, c24⟩ := c.fd 24 rfl
    obtain ⟨_, l25, c25⟩ := c.fd 25 rfl
    obtain ⟨_, l26, c26⟩ := c.fd 26 rfl
    obtain ⟨_, l27, c27⟩ := c.fd 27 rfl
    obtain ⟨_, l28, c28⟩ := c.fd 28 rfl
    obtain ⟨_, l29, c29⟩ := c.fd 29 rfl
    obtain ⟨_, kk_MOST_DIGITS⟩ := int_ns (c.f 4 2 rfl rfl)
    obtain ⟨fd, cs, h1, h2, h3, hcs, hb, hf⟩ := K05e.all_mk (w := w) KX G hmg (He.eqO_ok (c.f 0 0 rfl rfl)) (He.eqO_ok (c.f 0 1 rfl rfl)) (He.eqO_ok (c.f 0 2 rfl rfl)) l0 c0 ((c.f 0 3 rfl rfl)) (He.eqO_ok (c.f 0 4 rfl rfl)) l1 c1 ((c.f 0 5 rfl rfl)) (He.eqO_ok (c.f 0 6 rfl rfl)) ((c.f 0 7 rfl rfl)) l2 c2 ((c.f 0 8 rfl rfl)) (He.eqO_ok (c.f 0 9 rfl rfl)) l3 c3 ((c.f 0 10 rfl rfl)) (He.eqO_ok (c.f 0 11 rfl rfl)) l4 c4 ((c.f 0 12 rfl rfl)) (He.eqO_ok (c.f 0 13 rfl rfl)) ((c.f 0 14 rfl rfl)) l5 c5 ((c.f 0 15 rfl rfl)) (He.eqO_ok (c.f 0 16 rfl rfl)) ((c.f 0 17 rfl rfl)) l6 c6 ((c.f 0 18 rfl rfl)) (He.eqO_ok (c.f 0 19 rfl rfl)) ((c.f 0 20 rfl rfl)) l7 c7 ((c.f 0 21 rfl rfl)) (He.eqO_ok (c.f 0 22 rfl rfl)) ((c.f 0 23 rfl rfl)) l8 c8 ((c.f 1 0 rfl rfl)) (He.eqO_ok (c.f 1 1 rfl rfl)) ((c.f 1 2 rfl rfl)) l9 c9 ((c.f 1 3 rfl rfl)) (He.eqO_ok (c.f 1 4 rfl rfl)) ((c.f 1 5 rfl rfl)) l10 c10 ((c.f 1 6 rfl rfl)) (He.eqO_ok (c.f 1 7 rfl rfl)) ((c.f 1 8 rfl rfl)) l11 c11 ((c.f 1 9 rfl rfl)) (He.eqO_ok (c.f 1 10 rfl rfl)) l12 c12 ((c.f 1 11 rfl rfl)) (He.eqO_ok (c.f 1 12 rfl rfl)) l13 c13 ((c.f 1 13 rfl rfl)) (He.eqO_ok (c.f 1 14 rfl rfl)) l14 c14 ((c.f 1 15 rfl rfl)) (He.eqO_ok (c.f 1 16 rfl rfl)) l15 c15 ((c.f 1 17 rfl rfl)) (He.eqO_ok (c.f 1 18 rfl rfl)) l16 c16 ((c.f 1 19 rfl rfl)) (He.eqO_ok (c.f 1 20 rfl rfl)) l17 c17 ((c.f 1 21 rfl rfl)) (He.eqO_ok (c.f 1 22 rfl rfl)) l18 c18 ((c.f 1 23 rfl rfl)) (He.eqO_ok (c.f 2 0 rfl rfl)) l19 c19 ((c.f 2 1 rfl rfl)) (He.eqO_ok (c.f 2 2 rfl rfl)) l20 c20 ((c.f 2 3 rfl rfl)) (He.eqO_ok (c.f 2 4 rfl rfl)) l21 c21 ((c.f 2 5 rfl rfl)) (He.eqO_ok (c.f 2 6 rfl rfl)) l22 c22 ((c.f 2 7 rfl rfl)) (He.eqO_ok (c.f 2 8 rfl rfl)) l23 c23 ((c.f 2 9 rfl rfl)) (He.eqO_ok (c.f 2 10 rfl rfl)) l24 c24 ((c.f 2 11 rfl rfl)) (He.eqO_ok (c.f 2 12 rfl rfl)) l25 c25 ((c.f 2 13 rfl rfl)) (He.eqO_ok (c.f 2 14 rfl rfl)) l26 c26 ((c.f 2 15 rfl rfl)) (He.eqO_ok (c.f 2 16 rfl rfl)) l27 c27 ((c.f 2 17 rfl rfl)) (He.eqO_ok (c.f 2 18 rfl rfl)) l28 c28 ((c.f 2 19 rfl rfl)) (He.eqO_ok (c.f 2 20 rfl rfl)) l29 c29 ((c.f 2 21 rfl rfl)) ((c.f 2 22 rfl rfl)) ((c.f 2 23 rfl rfl)) ((c.f 3 0 rfl rfl)) (He.eqO_ok (c.f 3 1 rfl rfl)) ((c.f 3 2 rfl rfl)) ((c.f 3 3 rfl rfl)) (He.eqO_ok (c.f 3 4 rfl rfl)) (He.eqO_ok (c.f 3 5 rfl rfl)) (He.eqO_ok (c.f 3 6 rfl rfl)) ((c.f 3 7 rfl rfl)) ((c.f 3 8 rfl rfl)) (of_decide_eq_true (c.f 3 9 rfl rfl)) (of_decide_eq_true (c.f 3 10 rfl rfl)) ((c.f 3 11 rfl rfl)) (of_decide_eq_true (c.f 3 12 rfl rfl)) (He.eqO_ok (c.f 3 13 rfl rfl)) (He.eqO_ok (c.f 3 14 rfl rfl)) (He.eqO_ok (c.f 3 15 rfl rfl)) (He.eqO_ok (c.f 3 16 rfl rfl)) (He.eqO_ok (c.f 3 17 rfl rfl)) (He.eqO_ok (c.f 3 18 rfl rfl)) (He.eqO_ok (c.f 3 19 rfl rfl)) (He.eqO_ok (c.f 3 20 rfl rfl)) (He.eqO_ok (c.f 3 21 rfl rfl)) (He.eqO_ok (c.f 3 22 rfl rfl)) (He.eqO_ok (c.f 3 23 rfl rfl)) (He.eqO_ok (c.f 4 0 rfl rfl)) (He.eqO_ok (c.f 4 1 rfl rfl)) kk_MOST_DIGITS N05.fin
    exact ⟨K, KX, fd, cs, h1, h2, h3, (fun p hp => nomatch hp), hb, hf⟩
